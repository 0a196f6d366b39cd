import Derived.BigQuiet
import Derived.Test.YtokkhhekekeokaaGreatDoorC04
import Derived.Deep.MidRow
import Derived.Deep.Cut
set_option maxRecDepth 100000
set_option maxHeartbeats 4000000
namespace Go.Proofs.YtokkhhekekeokaaGreatDoor
open Go.RowKit Tryz
namespace Lg
open Px Ref
theorem IE (c:UInt8)(w:fu) :
  Calls prog 139 #[.int .u8 c.toNat] w fun e w'=>e=.returned (.bool (ku c))/\w=w':=by
 have e1:Hid (ku c=(decide (97<=(c.toNat:Int)) && decide ((c.toNat:Int)<=122))):=by
  unfold Hid ku;rw[bA];simp;omega
 go_enter func139,ntmps139
 go_wp2
 all_goals
  go_ret;exact ⟨uK (by rw[e1.o,bA];simp;try omega),rfl⟩
theorem zq (c:UInt8)(w:fu) :
  Calls prog 142 #[.int .u8 c.toNat] w fun e w'=>e=.returned (.bool (kC c))/\w=w':=by
 have e1:Hid (kC c=(decide (48<=(c.toNat:Int)) && decide ((c.toNat:Int)<=57))):=by
  unfold Hid kC;rw[bA];simp;omega
 go_enter func142,ntmps142
 go_wp2
 all_goals
  go_ret;exact ⟨uK (by rw[e1.o,bA];simp;try omega),rfl⟩
theorem WI (c:UInt8)(w:fu) :
  Calls prog 138 #[.int .u8 c.toNat] w fun e w'=>e=.returned (.bool (qx c))/\w=w':=by
 have e1:Hid (qx c=(((c.toNat:Int) == 32) || ((c.toNat:Int) == 10))):=by
  unfold Hid qx;rw[bA];simp[<- UInt8.toNat_inj];omega
 cases h1:((c.toNat:Int) == 32)
 all_goals
  go_enter func138,ntmps138
  go_wp2;go_ret;exact ⟨uK (by rw[e1.o,h1];simp),rfl⟩
theorem N5 (m:List UInt8):qR m=((m == [108,101,116]) || (m == [99,97,108,108]) || (m == [97,115]) || (m == [117,110,100,111]) || (m == [116,114,105,101,115]) || (m == [105,102]) || (m == [101,108,115,101]) || (m == [116,114,121]) || (m == [114,101,112,101,97,116]) || (m == [102,97,105,108]) || (m == [116,114,117,101]) || (m == [102,97,108,115,101]) || (m == [110,111,116])):=by
 rw[bA];simp[qR,wP,or_assoc]
theorem CX (x:fq)(w:fu) :
  Calls prog 168 #[.string x] w fun e w'=>e=.returned (.bool (qR x.toList))/\w=w':=by
 have e1:Hid (_):=N5 x.toList;go_enter func168,ntmps168
 go_wp2
 all_goals
  go_ret;exact ⟨uK (by rw[e1.o];first | (simp[*];done) | (exfalso;simp_all;done)),rfl⟩
theorem N6 (x:fq)(w:fu)(hx:x.size<=maxLen) :
  Calls prog 141 #[.string x,.func (.func 139) #[] #[]] w fun e w'=>e=.returned (.string (x.extract 0 (jD ku x 0)))/\w=w':=by
 unfold maxLen at hx;go_enter func141,ntmps141
 go_wp2_with fail;go_loop [5] (fun i=>∃ k:Nat,k<=x.size/\i=.int .i64 k/\Hid (∀ j (hj:j < x.size),0<=j->j < k->ku x[j]=true)) (fun i=>x.size - (intOf i).toNat)
 case atStart=>exact ⟨0,by omega,rfl,by intro j hj h1 h2;omega⟩
 case round =>
  obtain ⟨k,hk,rfl,hall⟩:=hrel;by_cases hlt:k < x.size
  ·cases hp:ku x[k]
   ·have hr:Hid (jD ku x 0=k):=xP _ _ _ _ (by omega) hk hall (fun _=>hp)
    go_wp2_with (first | (go_at_call 139;refine (IE _ _).mono ?_;rintro e w' ⟨rfl,rfl⟩))
    go_ret;exact ⟨by rw[hr.o];rfl,rfl⟩
   ·go_wp2_with (first | (go_at_call 139;refine (IE _ _).mono ?_;rintro e w' ⟨rfl,rfl⟩))
    exact ⟨⟨k+1,by omega,by go_num,CY hall hlt hp⟩,by simp[intOf];omega⟩
  ·have hr:Hid (jD ku x 0=k):=xP _ _ _ _ (by omega) hk hall (fun h=>absurd h hlt)
   go_wp2_with fail;go_ret;exact ⟨by rw[hr.o];rfl,rfl⟩
theorem Of (x:fq)(w:fu)(hx:x.size<=maxLen) :
  Calls prog 141 #[.string x,.func (.func 142) #[] #[]] w fun e w'=>e=.returned (.string (x.extract 0 (jD kC x 0)))/\w=w':=by
 unfold maxLen at hx;go_enter func141,ntmps141
 go_wp2_with fail;go_loop [5] (fun i=>∃ k:Nat,k<=x.size/\i=.int .i64 k/\Hid (∀ j (hj:j < x.size),0<=j->j < k->kC x[j]=true)) (fun i=>x.size - (intOf i).toNat)
 case atStart=>exact ⟨0,by omega,rfl,by intro j hj h1 h2;omega⟩
 case round =>
  obtain ⟨k,hk,rfl,hall⟩:=hrel;by_cases hlt:k < x.size
  ·cases hp:kC x[k]
   ·have hr:Hid (jD kC x 0=k):=xP _ _ _ _ (by omega) hk hall (fun _=>hp)
    go_wp2_with (first | (go_at_call 142;refine (zq _ _).mono ?_;rintro e w' ⟨rfl,rfl⟩))
    go_ret;exact ⟨by rw[hr.o];rfl,rfl⟩
   ·go_wp2_with (first | (go_at_call 142;refine (zq _ _).mono ?_;rintro e w' ⟨rfl,rfl⟩))
    exact ⟨⟨k+1,by omega,by go_num,CY hall hlt hp⟩,by simp[intOf];omega⟩
  ·have hr:Hid (jD kC x 0=k):=xP _ _ _ _ (by omega) hk hall (fun h=>absurd h hlt)
   go_wp2_with fail;go_ret;exact ⟨by rw[hr.o];rfl,rfl⟩
theorem Ok (args:Array fC)(w:fu):(callFunc 186 args).run prog w=((Extern.BytealgIndexByte.indexByte args).run prog w).andThen fun v w'=>.ok (.value v) w' :=
 run_callFunc_extern func186 (by kernel_rfl) (by kernel_rfl) (by kernel_rfl) (e:=Extern.BytealgIndexByte.indexByte) (by kernel_rfl) args w
theorem On (s:fq)(c:UInt8)(w:fu) :
  Calls prog 169 #[.string s,.int .u8 c.toNat] w fun e w'=>e=.returned (.int .i64 (firstIdx s c))/\w=w':=by
 go_enter func169,ntmps169
 go_wp2_with fail;rw[Ok,run_indexByte_string];simp only[Result.andThen];rw[Oper.upon_value];go_wp2;go_ret;exact ⟨LG (by simp),rfl⟩
theorem MH (s:fq)(c:UInt8)(w:fu) :
  Calls prog 143 #[.string s,.int .u8 c.toNat] w fun e w'=>e=.returned (.int .i64 (firstIdx s c))/\w=w':=by
 go_enter func143,ntmps143
 go_wp2_with (first | (go_at_call 169;refine (On _ _ _).mono ?_;rintro e w' ⟨rfl,rfl⟩))
 go_ret;exact ⟨rfl,rfl⟩
theorem O0 (c:UInt8):decide (0<=firstIdx ⟨#[59,61,40,41,123,125,60,35,43,45,42,47]⟩ c)=vQ c:=by
 have h:∀ n:Fin 256,decide (0<=firstIdx ⟨#[59,61,40,41,123,125,60,35,43,45,42,47]⟩ (UInt8.ofNat n.val))=vQ (UInt8.ofNat n.val):=by decide +kernel
 have:=h ⟨c.toNat,c.toNat_lt⟩
 simpa using this
theorem Pi (x:fq)(a:Nat)(w:fu)(hk:qR x.toList=true) :
  Calls prog 140 #[.string x,.int .i64 (a:Int)] w fun e w'=>e=.returned (.tuple #[.agg #[.int .i64 1,.string x,.int .i64 (a:Int)],.bool true])/\Below w.heap.size w w':=by
 go_enter func140,ntmps140
 go_wp2_with (first | (go_at_call 168;refine (CX _ _).mono ?_;rintro e w' ⟨rfl,rfl⟩))
 exact bodyPost_ret (v:=.tuple #[.agg #[.int .i64 1,.string x,.int .i64 (a:Int)],.bool true]) (by simp[results,results140,go_sem]) rfl ⟨rfl,(aH _ _).alloc (aj _) _⟩
theorem Pl (x:fq)(a:Nat)(w:fu)(hk:qR x.toList=false) :
  Calls prog 140 #[.string x,.int .i64 (a:Int)] w fun e w'=>e=.returned (.tuple #[.agg #[.int .i64 2,.string x,.int .i64 (a:Int)],.bool (decide ((x.size:Int)<=8))])/\Below w.heap.size w w':=by
 go_enter func140,ntmps140
 go_wp2_with (first | (go_at_call 168;refine (CX _ _).mono ?_;rintro e w' ⟨rfl,rfl⟩))
 exact bodyPost_ret (v:=.tuple #[.agg #[.int .i64 2,.string x,.int .i64 (a:Int)],.bool (decide ((x.size:Int)<=8))]) (by simp[results,results140,go_sem]) rfl ⟨rfl,(aH _ _).alloc (aj _) _⟩
def kd (k:Nat):Nat:=if k=107 then 1 else if k=119 then 2 else if k=110 then 3 else 0
def IG (s:fq)(t:Px.Tok)(v:fC):Prop :=
 ∃ (k:Nat) (x:fq),v=.tuple #[.agg #[.int .i64 (k:Int),.string x,.int .i64 (t.a:Int)],.bool (t.k != 63)]/\(t.k≠63->k=kd t.k/\x=s.extract t.a t.b)
theorem II (s:fq)(a:Nat):(s.extract a s.size).size=s.size - a:=by simp
theorem Qc (s:fq)(a j:Nat)(h:j < (s.extract a s.size).size):(s.extract a s.size)[j]=s[a+j]'(by simp at h;omega):=by simp[ByteArray.getElem_extract]
theorem MI (p:UInt8->Bool)(s:fq)(a:Nat)(ha:a<=s.size):a+jD p (s.extract a s.size) 0=jD p s a:=by
 symm
 have hz:=II s a;have h2:=yZ p (s.extract a s.size) 0 (aK _);refine xP p s a _ (by omega) (by omega) (fun j hj h1 h3=>?_) (fun h=>?_)
 ·have hj':j - a < (s.extract a s.size).size:=by omega
  have e:=KM p (s.extract a s.size) ((s.extract a s.size).size - 0) 0 (j - a) hj' (aK _) (by unfold jD at h3;omega)
  rw[Qc s a _ hj'] at e
  have:a+(j - a)=j:=by omega
  simp only[this] at e;exact e
 ·have hj':jD p (s.extract a s.size) 0 < (s.extract a s.size).size:=by omega
  have e:=Uv p (s.extract a s.size) ((s.extract a s.size).size - 0) 0 (aj _) hj';have e':p (s.extract a s.size)[jD p (s.extract a s.size) 0]=false:=e;rw[Qc s a _ hj'] at e';exact e'
theorem Qd (s:fq)(a n:Nat)(h:a+n<=s.size):(s.extract a s.size).extract 0 n=s.extract a (a+n):=by
 rw[ByteArray.extract_extract];congr 1;omega
variable {w w' w1 w2 w3 wr:fu}{a c v:fC}{t:TypeId}
theorem WJ {b:fC}(h:Below (w.alloc (.cells #[a,b,c] t)).heap.size (w.alloc (.cells #[a,b,c] t)) w1) :
  w1.cell? ⟨w.heap.size,0,none⟩=some a/\w1.cell? ⟨w.heap.size,1,none⟩=some b/\w1.cell? ⟨w.heap.size,2,none⟩=some c/\∀ o,w1.frozen? ⟨w.heap.size,o,none⟩=false:=by
 have g:w1.heap[w.heap.size]?=some (.cells #[a,b,c] t):=by
  rw[h.block _ (by simp)]
  show (w.heap.push _)[w.heap.size]?=_
  rw[aB,if_pos rfl]
 refine ⟨?_,?_,?_,?_⟩<;>simp[World.cell?,World.frozen?,g]
theorem WK (h:Below w.heap.size w w1)(a b c:fC):Below w.heap.size w (((w1.setCell ⟨w.heap.size,0,none⟩ a).setCell ⟨w.heap.size,1,none⟩ b).setCell ⟨w.heap.size,2,none⟩ c) :=
 ((h.setCell (p:=⟨w.heap.size,0,none⟩) (aj _) a).setCell (p:=⟨w.heap.size,1,none⟩) (aj _) b).setCell (p:=⟨w.heap.size,2,none⟩) (aj _) c
variable {s:fq}{b base i k m n o p pl ql qr tl tr:Nat}
theorem Pr (hr:Hid (jD qx s i=k))(hlt:k < s.size)(hsm:ku s[k]=false)(hdg:kC s[k]=false) :
  IG s (Px.tok s i) (.tuple #[.agg #[.int .i64 1,.string ((s.extract k s.size).extract 0 1),.int .i64 (k:Int)],.bool (decide (0<=firstIdx ⟨#[59,61,40,41,123,125,60,35,43,45,42,47]⟩ s[k]))]):=by
 rw[O0,Qd s k 1 (by omega)]
 unfold Px.tok;rw[hr.o];cases hm:vQ s[k]
 ·rw[KQ hlt hsm hdg hm];exact ⟨1,_,rfl,fun h=>absurd rfl h⟩
 ·rw[KP hlt hsm hdg hm];exact ⟨1,_,rfl,fun _=>⟨rfl,rfl⟩⟩
theorem Pu (hr:Hid (jD qx s i=k))(hlt:k < s.size)(hsm:ku s[k]=false)(hdg:kC s[k]=true)(hb:Hid (jD kC s k=b))(_h2:b<=s.size) :
  IG s (Px.tok s i) (.tuple #[.agg #[.int .i64 3,.string (s.extract k b),.int .i64 (k:Int)],.bool (decide (((b - k:Nat):Int)<=4))]):=by
 unfold Px.tok;rw[hr.o];by_cases hl:4 < b - k
 ·rw[Gu hlt hsm hdg hb.o hl,show decide (((b - k:Nat):Int)<=4)=false from by simp;omega]
  exact ⟨3,_,rfl,fun h=>absurd rfl h⟩
 ·rw[Gv hlt hsm hdg hb.o hl,show decide (((b - k:Nat):Int)<=4)=true from by simp;omega]
  exact ⟨3,_,rfl,fun _=>⟨rfl,rfl⟩⟩
theorem Q1 (hr:Hid (jD qx s i=k))(hlt:k < s.size)(hsm:ku s[k]=true)(hb:Hid (jD ku s k=b))(hk:qR (s.extract k b).toList=true) :
  IG s (Px.tok s i) (.tuple #[.agg #[.int .i64 1,.string (s.extract k b),.int .i64 (k:Int)],.bool true]):=by
 unfold Px.tok;rw[hr.o,Gq hlt hsm hb.o hk];exact ⟨1,_,rfl,fun _=>⟨rfl,rfl⟩⟩
theorem Q2 (hr:Hid (jD qx s i=k))(hlt:k < s.size)(hsm:ku s[k]=true)(hb:Hid (jD ku s k=b))(hk:qR (s.extract k b).toList=false)(_h2:b<=s.size) :
  IG s (Px.tok s i) (.tuple #[.agg #[.int .i64 2,.string (s.extract k b),.int .i64 (k:Int)],.bool (decide (((b - k:Nat):Int)<=8))]):=by
 unfold Px.tok;rw[hr.o];by_cases hl:8 < b - k
 ·rw[Gs hlt hsm hb.o hk hl,show decide (((b - k:Nat):Int)<=8)=false from by simp;omega]
  exact ⟨2,_,rfl,fun h=>absurd rfl h⟩
 ·rw[Gt hlt hsm hb.o hk hl,show decide (((b - k:Nat):Int)<=8)=true from by simp;omega]
  exact ⟨2,_,rfl,fun _=>⟨rfl,rfl⟩⟩
theorem LC (s:fq)(i:Nat)(w:fu)(hi:i<=s.size)(hs:s.size<=maxLen) :
  Calls prog 94 #[.string s,.int .i64 i] w fun e w'=>(∃ v,e=.returned v/\IG s (Px.tok s i) v)/\Below w.heap.size w w':=by
 have hs':=hs;unfold maxLen at hs;go_enter func94,ntmps94
 go_wp2_with fail;go_loop [1] (fun x=>∃ k:Nat,i<=k/\k<=s.size/\x=.int .i64 k/\Hid (∀ j (hj:j < s.size),i<=j->j < k->qx s[j]=true)) (fun x=>s.size - (intOf x).toNat)
 case atStart=>exact ⟨i,by omega,hi,rfl,by intro j hj h1 h2;omega⟩
 case round =>
  obtain ⟨k,hk1,hk2,rfl,hall⟩:=hrel;by_cases hlt:k < s.size
  ·cases hbl:qx s[k]
   ·have hr:Hid (jD qx s i=k):=xP _ _ _ _ hk1 hk2 hall (fun _=>hbl)
    have heq:((k:Int) == (s.size:Int))=false:=by rw[beq_eq_false_iff_ne];omega
    have r0:(s.extract k s.size)[0]'(by rw[II];omega)=s[k]:=by rw[Qc];simp
    have hrz:0 < (s.extract k s.size).size:=by rw[II];omega
    clear hall;go_wp2_with (first | (go_at_call 138;refine (WI _ _).mono ?_;rintro e w' ⟨rfl,rfl⟩))
    cases hsm:ku s[k]
    ·cases hdg:kC s[k]
     ·refine (IE _ _).mono ?_;rintro e w' ⟨rfl,rfl⟩;go_wp2_with (first | (go_at_call 142;refine (zq _ _).mono ?_;rintro e w' ⟨rfl,rfl⟩))
      go_region_with (go_at_call 143;refine (MH _ _ _).mono ?_;rintro e w' ⟨rfl,rfl⟩)
      all_goals
       go_wp2_with fail;refine bodyPost_ret (v:=.tuple #[.agg #[.int .i64 1,.string ((s.extract k s.size).extract 0 1),.int .i64 (k:Int)],.bool (decide (0<=firstIdx ⟨#[59,61,40,41,123,125,60,35,43,45,42,47]⟩ s[k]))]) (by simp[results,results94,go_sem]) rfl ⟨⟨_,rfl,Pr hr hlt hsm hdg⟩,?_⟩
       first | exact ((aH _ _).alloc (aj _) _).drew | exact (aH _ _).alloc (aj _) _ | exact ((aH _ _).drew.alloc (aj _) _)
     ·refine (IE _ _).mono ?_;rintro e w' ⟨rfl,rfl⟩;have RL:∀ w',Calls prog 141 #[.string (s.extract k s.size),.func (.func 142) #[] #[]] w' fun e w''=>e=.returned (.string (s.extract k (jD kC s k)))/\w'=w'':=by
       intro w';have h:=Of (s.extract k s.size) w' (by rw[II];omega)
       rw[Qd s k _ (by rw[MI _ _ _ hk2];exact yZ _ _ _ hk2),MI _ _ _ hk2] at h
       exact h
      have Qe:Hid (_):=RL;clear RL;generalize hb:jD kC s k=b at *;have HB:Hid (_):=hb;have hb1:k<=b:=by rw[<- hb];exact KN _ _ _
      have hb2:b<=s.size:=by rw[<- hb];exact yZ _ _ _ hk2
      clear hb;go_wp2_with (first | (go_at_call 142;refine (zq _ _).mono ?_;rintro e w' ⟨rfl,rfl⟩) | (go_at_call 141;refine (Qe.o _).mono ?_;rintro e w' ⟨rfl,rfl⟩))
      refine bodyPost_ret (v:=.tuple #[.agg #[.int .i64 3,.string (s.extract k b),.int .i64 (k:Int)],.bool (decide (((b - k:Nat):Int)<=4))]) (by simp[results,results94,go_sem]) rfl ⟨⟨_,rfl,Pu hr hlt hsm hdg HB hb2⟩,?_⟩
      exact (aH _ _).alloc (aj _) _
    ·refine (IE _ _).mono ?_;rintro e w' ⟨rfl,rfl⟩;have RL:∀ w',Calls prog 141 #[.string (s.extract k s.size),.func (.func 139) #[] #[]] w' fun e w''=>e=.returned (.string (s.extract k (jD ku s k)))/\w'=w'':=by
      intro w';have h:=N6 (s.extract k s.size) w' (by rw[II];omega)
      rw[Qd s k _ (by rw[MI _ _ _ hk2];exact yZ _ _ _ hk2),MI _ _ _ hk2] at h
      exact h
     have Qe:Hid (_):=RL;clear RL;generalize hb:jD ku s k=b at *;have HB:Hid (_):=hb;have hb1:k<=b:=by rw[<- hb];exact KN _ _ _
     have hb2:b<=s.size:=by rw[<- hb];exact yZ _ _ _ hk2
     clear hb;go_wp2_with (first | (go_at_call 141;refine (Qe.o _).mono ?_;rintro e w' ⟨rfl,rfl⟩))
     cases hkp:qR (s.extract k b).toList
     ·refine (Pl _ k _ hkp).mono ?_;rintro e w1 ⟨rfl,hbw⟩;obtain ⟨q0,q1,q2,qf⟩:=WJ hbw;have BW:Hid (Below w.heap.size w w1):=((aH _ _).alloc (aj _) _).trans (hbw.mono (by simp))
      clear hbw;go_wp2_with fail;refine bodyPost_ret (v:=.tuple #[.agg #[.int .i64 2,.string (s.extract k b),.int .i64 (k:Int)],.bool (decide (((b - k:Nat):Int)<=8))]) (by simp[results,results94,go_sem,q0,q1,q2]) rfl ⟨⟨_,rfl,Q2 hr hlt hsm HB hkp hb2⟩,?_⟩
      exact WK BW.o _ _ _
     ·refine (Pi _ k _ hkp).mono ?_;rintro e w1 ⟨rfl,hbw⟩;obtain ⟨q0,q1,q2,qf⟩:=WJ hbw;have BW:Hid (Below w.heap.size w w1):=((aH _ _).alloc (aj _) _).trans (hbw.mono (by simp))
      clear hbw;go_wp2_with fail;refine bodyPost_ret (v:=.tuple #[.agg #[.int .i64 1,.string (s.extract k b),.int .i64 (k:Int)],.bool true]) (by simp[results,results94,go_sem,q0,q1,q2]) rfl ⟨⟨_,rfl,Q1 hr hlt hsm HB hkp⟩,?_⟩
      exact WK BW.o _ _ _
   ·go_wp2_with (first | (go_at_call 138;refine (WI _ _).mono ?_;rintro e w' ⟨rfl,rfl⟩))
    exact ⟨⟨k+1,by omega,by omega,by go_num,CY hall hlt hbl⟩,by simp[intOf];omega⟩
  ·have hr:Hid (jD qx s i=k):=xP _ _ _ _ hk1 hk2 hall (fun h=>absurd h hlt)
   obtain rfl:k=s.size:=by omega
   go_wp2_with fail;refine bodyPost_ret (v:=.tuple #[.agg #[.int .i64 0,.string ⟨#[]⟩,.int .i64 (s.size:Int)],.bool true]) (by simp[results,results94,go_sem]) rfl ⟨⟨_,rfl,?_⟩,(aH _ _).alloc (aj _) _⟩
   have e:Px.tok s i=⟨0,s.size,s.size⟩:=by unfold Px.tok;rw[hr.o];exact KO (by omega)
   rw[e];exact ⟨0,⟨#[]⟩,rfl,fun _=>⟨rfl,by simp;rfl⟩⟩
theorem cells3 {b:fC}(hh:w.heap[k]?=some (.cells #[a,b,c] t)) :
  w.cell? ⟨k,0,none⟩=some a/\w.cell? ⟨k,1,none⟩=some b/\w.cell? ⟨k,2,none⟩=some c/\∀ o,w.frozen? ⟨k,o,none⟩=false:=by
 refine ⟨?_,?_,?_,?_⟩<;>simp[World.cell?,World.frozen?,hh]
structure uN (w:fu)(b:Nat)(s:fq)(t:Px.Tok)(dep:Int)(td:Option Addr):Prop where
 h:w.heap[b]?=some (.cells #[.string s,.int .i64 (kd t.k:Int),.string (s.extract t.a t.b),.int .i64 (t.a:Int),.int .i64 dep,.pointer td] 128)
def qZ:List fC:=[.string ⟨#[43]⟩,.int .i64 1,.int .i64 1,.int .i64 1,.string ⟨#[45]⟩,.int .i64 1,.int .i64 1,.int .i64 1,.string ⟨#[42]⟩,.int .i64 2,.int .i64 1,.int .i64 1,.string ⟨#[47]⟩,.int .i64 2,.int .i64 1,.int .i64 1,
 .string ⟨#[60]⟩,.int .i64 0,.int .i64 1,.int .i64 2,.string ⟨#[61]⟩,.int .i64 0,.int .i64 0,.int .i64 2,.string ⟨#[35]⟩,.int .i64 0,.int .i64 0,.int .i64 2]
structure Gl (w:fu)(b:Nat)(eT eN:Addr):Prop where
 t:w.cell? ⟨1,0,none⟩=some (.iface 337 (.pointer (some eT)))
 n:w.cell? ⟨3,0,none⟩=some (.iface 337 (.pointer (some eN)))
 ops:∀ j (hj:j < 28),w.cell? ⟨16,j,none⟩=some (qZ[j]'hj)
 lo:17<=b
variable {eN eT:Addr}
theorem Gl.keep (g:Gl w b eT eN)(k:Kp b w w'):Gl w' b eT eN :=
 ⟨by rw[k.cell (lt_of_cell g.t) (by have:=g.lo;omega)];exact g.t,by rw[k.cell (lt_of_cell g.n) (by have:=g.lo;omega)];exact g.n,fun j hj=>by rw[k.cell (lt_of_cell (g.ops 0 (by decide))) (by have:=g.lo;omega)];exact g.ops j hj,g.lo⟩
theorem Gl.gI (g:Gl w b eT eN)(hk:17<=k):Gl (w.setCell ⟨k,o,none⟩ v) b eT eN :=
 ⟨by rw[aF (w:=w) (bL _ _ _ _ (by show (_:Nat)≠k;dsimp only;omega))];exact g.t,by rw[aF (w:=w) (bL _ _ _ _ (by show (_:Nat)≠k;dsimp only;omega))];exact g.n,fun j hj=>by rw[aF (w:=w) (bL _ _ _ _ (by show (_:Nat)≠k;dsimp only;omega))];exact g.ops j hj,g.lo⟩
def jV (w':fu)(base:Nat)(eT:Addr)(p:Nat)(e:Ending):Prop :=
 ∃ f,base<=f/\e=.panicked [{ v:=.iface 70 (.pointer (some ⟨f,0,none⟩)),recovered:=false }]/\w'.heap[f]?=some (.cells #[.int .i64 (p:Int),.iface 337 (.pointer (some eT))] 75)
variable {e:Ending}
theorem jV.form (h:jV w' base eT p e):∃ c,e=.panicked c:=by
 obtain ⟨f,h1,h2,h3⟩:=h;exact ⟨_,h2⟩
theorem jV.low {base':Nat}(h:jV w' base eT p e)(hb:base'<=base):jV w' base' eT p e:=by
 obtain ⟨f,h1,h2,h3⟩:=h;exact ⟨f,aP hb h1,h2,h3⟩
theorem WL (w:fu)(eT:Addr)(pl:Nat):(jV (w.alloc (.cells #[.int .i64 (pl:Int),.iface 337 (.pointer (some eT))] 75)).drew w.heap.size eT pl (.panicked [{ v:=.iface 70 (.pointer (some ⟨w.heap.size,0,none⟩)),recovered:=false }])/\Below w.heap.size w (w.alloc (.cells #[.int .i64 (pl:Int),.iface 337 (.pointer (some eT))] 75)).drew):=by
 refine ⟨⟨w.heap.size,aj _,rfl,?_⟩,((aH _ _).alloc (aj _) _).drew⟩;show (w.heap.push _)[w.heap.size]?=_
 rw[aB,if_pos rfl]
theorem WM (b:Nat)(v0 v1 v2 v4 v5:fC)(pl:Nat)(eT eN:Addr)(w:fu)(p:w.heap[b]?=some (.cells #[v0,v1,v2,.int .i64 (pl:Int),v4,v5] 128))(g:Gl w b eT eN) :
  Calls prog 42 #[.pointer (some ⟨b,0,none⟩)] w fun e w'=>jV w' w.heap.size eT pl e/\Below w.heap.size w w':=by
 obtain ⟨c0,c1,c2,c3,c4,c5,f⟩:=nH p;have gt:=g.t;clear p g;go_enter func42,ntmps42
 go_wp2_with fail;refine wp_region_any (by kernel_rfl) ?_
 change wpAny _ _ _ _ _ _ _ (World.drew _)
 refine wpAny_take (i:=0) (v:=?_) rfl (by kernel_rfl) (by kernel_rfl) (by kernel_rfl) (fun _ _ _ h=>h) (ak ⟨by rfl,?hy0⟩) ?WO
 case hy0=>intro w;go_simp;first | done | with_reducible rfl
 refine wpAny_take (i:=1) (v:=?_) rfl (by kernel_rfl) (by kernel_rfl) (by kernel_rfl) (fun _ _ _ h=>h) (ak ⟨by rfl,?hy1⟩) ?WQ
 case hy1=>intro w;go_simp;first | done | with_reducible rfl
 refine wpAny_take (i:=2) (v:=?_) rfl (by kernel_rfl) (by kernel_rfl) (by kernel_rfl) (fun _ _ _ h=>h) (ak ⟨by rfl,?hy2⟩) ?WR
 case hy2=>intro w;go_simp;first | done | with_reducible rfl
 refine wpAny_take (i:=3) (v:=?_) rfl (by kernel_rfl) (by kernel_rfl) (by kernel_rfl) (fun _ _ _ h=>h) (ak ⟨by rfl,?hy3⟩) ?WS
 case hy3=>intro w;go_simp;first | done | with_reducible rfl
 refine wpAny_ready (rs:=[4,5]) (by kernel_rfl) (by simp) ?_
 refine AllReady.cons rfl (fun K hK=>?_) (AllReady.cons rfl (fun K hK=>?_) AllReady.nil)
 ·go_simp
  refine hK _ _ ?_;clear hK K;refine wpAny_ready (rs:=[5]) (by kernel_rfl) (by simp) ?_
  refine AllReady.cons rfl (fun K hK=>?_) AllReady.nil
  go_simp
  refine hK _ _ ?_;clear hK K;refine wpAny_ready (rs:=[6]) (by kernel_rfl) (by simp) ?_
  refine AllReady.cons rfl (fun K hK=>?_) AllReady.nil
  go_simp
  refine hK _ _ ?_;clear hK K;refine wpAny_ready (rs:=[7]) (by kernel_rfl) (by simp) ?_
  refine AllReady.cons rfl (fun K hK=>?_) AllReady.nil
  go_simp
  refine hK _ _ ?_;clear hK K;refine wpAny_ready (rs:=[8]) (by kernel_rfl) (by simp) ?_
  refine AllReady.cons rfl (fun K hK=>?_) AllReady.nil
  go_simp
  refine hK _ _ ?_;clear hK K;refine wpAny_ready (rs:=[9]) (by kernel_rfl) (by simp) ?_
  refine AllReady.cons rfl (fun K hK=>?_) AllReady.nil
  go_simp
  clear hK K;exact ⟨rfl,WL _ _ _⟩
 ·go_simp
  refine hK _ _ ?_;clear hK K;refine wpAny_ready (rs:=[4]) (by kernel_rfl) (by simp) ?_
  refine AllReady.cons rfl (fun K hK=>?_) AllReady.nil
  go_simp
  refine hK _ _ ?_;clear hK K;refine wpAny_ready (rs:=[6]) (by kernel_rfl) (by simp) ?_
  refine AllReady.cons rfl (fun K hK=>?_) AllReady.nil
  go_simp
  refine hK _ _ ?_;clear hK K;refine wpAny_ready (rs:=[7]) (by kernel_rfl) (by simp) ?_
  refine AllReady.cons rfl (fun K hK=>?_) AllReady.nil
  go_simp
  refine hK _ _ ?_;clear hK K;refine wpAny_ready (rs:=[8]) (by kernel_rfl) (by simp) ?_
  refine AllReady.cons rfl (fun K hK=>?_) AllReady.nil
  go_simp
  refine hK _ _ ?_;clear hK K;refine wpAny_ready (rs:=[9]) (by kernel_rfl) (by simp) ?_
  refine AllReady.cons rfl (fun K hK=>?_) AllReady.nil
  go_simp
  clear hK K;exact ⟨rfl,WL _ _ _⟩
theorem WT (b:Nat)(s:fq)(i:Nat)(v1 v2 v3:fC)(dep:Int)(td:Option Addr)(eT eN:Addr)(w:fu)(p:w.heap[b]?=some (.cells #[.string s,v1,v2,v3,.int .i64 dep,.pointer td] 128))(g:Gl w b eT eN)(hi:i<=s.size)(hs:s.size<=maxLen) :
  Calls prog 40 #[.pointer (some ⟨b,0,none⟩),.int .i64 (i:Int)] w fun e w'=>Kp b w w' /\
   ((Px.tok s i).k≠63->e=.returned (.tuple #[])/\uN w' b s (Px.tok s i) dep td)/\((Px.tok s i).k=63->jV w' w.heap.size eT (Px.tok s i).a e):=by
 obtain ⟨c0,c1,c2,c3,c4,c5,f⟩:=nH p;have hb:b < w.heap.size:=lt_of_cell c0;have G:Hid (_):=g;have P:Hid (_):=p;clear p g;go_enter func40,ntmps40
 go_wp2_with fail;refine (LC s i _ hi hs).mono ?_;rintro e w1 ⟨⟨v,rfl,k,x,rfl,hv⟩,hbw⟩;have K1:Hid (Kp b w w1):=(Kp.refl b w).below hbw;have hz1:w.heap.size<=w1.heap.size:=hbw.size;have p1:w1.heap[b]?=_:=(hbw.block b hb).trans P.o;obtain ⟨d0,d1,d2,d3,d4,d5,df⟩:=nH p1;have P1:Hid (_):=p1;have HV:Hid (_):=hv;have hne:¬ w1.heap.size=b:=by omega
 have hb1:b < w1.heap.size:=by omega
 clear p1 hbw hv c0 c1 c2 c3 c4 c5 f;cases hk:((Px.tok s i).k != 63)
 ·have hk':(Px.tok s i).k=63:=by simpa using hk
  have K2:Hid (Kp b w ((((w1.setCell ⟨b,1,none⟩ (.int .i64 (k:Int))).setCell ⟨b,2,none⟩ (.string x)).setCell ⟨b,3,none⟩ (.int .i64 ((Px.tok s i).a:Int))).alloc (.cells #[.int .i64 (k:Int),.string x,.int .i64 ((Px.tok s i).a:Int)] 126))):=((((K1.o.jC _).jC _).jC _).alloc _);go_wp2_with fail;refine (WM b (.string s) (.int .i64 (k:Int)) (.string x) (.int .i64 dep) (.pointer td) (Px.tok s i).a eT eN _ ?_ (G.o.keep K2.o)).mono ?_
  ·rw[aD _ _ _ (by simpa [World.setCell] using hb1),Ref.heap_set _ (Ref.heap_set _ (Ref.heap_set _ P1.o))]
   simp
  rintro e w2 ⟨ht,h2⟩;obtain ⟨c,rfl⟩:=ht.form;exact ⟨rfl,K2.o.below h2,fun h=>absurd hk' h,fun _=>ht.low K2.o.size⟩
 ·have hk':(Px.tok s i).k≠63:=by simpa using hk
  obtain ⟨rfl,rfl⟩:=HV.o hk';go_wp2_with fail;go_end0
  refine ⟨((((K1.o.jC _).jC _).jC _).alloc _),fun _=>⟨rfl,⟨?_⟩⟩,fun h=>absurd h hk'⟩
  rw[aD _ _ _ (by simpa [World.setCell] using hb1),Ref.heap_set _ (Ref.heap_set _ (Ref.heap_set _ P1.o))]
  simp
def kP (w:fu)(b:Nat)(eN:Addr)(fH:Int)(td:Option Addr):Prop :=
 (fH < 0/\td=none)\/(0<=fH/\∃ f,td=some ⟨f,0,none⟩/\f≠b/\w.heap[f]?=some (.cells #[.int .i64 fH,.iface 337 (.pointer (some eN))] 75))
variable {td:Option Addr}
theorem kP.keep {fH:Int}(h:kP w b eN fH td)(k:Kp b w w'):kP w' b eN fH td:=by
 rcases h with h | ⟨h1,f,h2,h3,h4⟩
 ·exact ak h
 ·exact ah ⟨h1,f,h2,h3,by rw[k.block f (aG.1 h4).1 h3];exact h4⟩
structure Rd (w:fu)(b:Nat)(s:fq)(st:Px.Ps)(eT eN:Addr):Prop where
 tk:Tk s st.t
 wX:st.t.k≠63
 gl:Gl w b eT eN
 mem:∃ td,uN w b s st.t st.fF td/\kP w b eN st.fH td
variable {st st':Px.Ps}
theorem Rd.lt (r:Rd w b s st eT eN):b < w.heap.size:=by
 obtain ⟨td,h,_⟩:=r.mem;exact (aG.1 h.h).1
theorem Rd.keep {w w':fu}{b:Nat}{s:fq}{st:Px.Ps}{eT eN:Addr}(r:Rd w b s st eT eN)(k:Kp b w w')(hb:w'.heap[b]?=w.heap[b]?):Rd w' b s st eT eN:=by
 obtain ⟨td,h,d⟩:=r.mem;exact ⟨r.tk,r.wX,r.gl.keep k,td,⟨by rw[hb];exact h.h⟩,d.keep k⟩
theorem Rd.alloc {w:fu}{b:Nat}{s:fq}{st:Px.Ps}{eT eN:Addr}(r:Rd w b s st eT eN)(o:Obj):Rd (w.alloc o) b s st eT eN:=r.keep ((Kp.refl _ _).alloc _) (aD _ _ _ r.lt)
theorem Rd.drew {w:fu}{b:Nat}{s:fq}{st:Px.Ps}{eT eN:Addr}(r:Rd w b s st eT eN):Rd w.drew b s st eT eN:=r.keep (Kp.refl _ _).drew rfl
theorem Rd.yj {c:Array fC}(r:Rd w b s st eT eN)(h:w.heap[k]?=some (.cells c t))(ht:t≠75)(hk:b < k)(v:fC):Rd (w.setCell ⟨k,o,none⟩ v) b s st eT eN:=by
 obtain ⟨td,a,d⟩:=r.mem;refine ⟨r.tk,r.wX,r.gl.gI (by have:=r.gl.lo;omega),td,⟨by rw[bL _ _ _ _ (by show b≠k;omega)];exact a.h⟩,?_⟩
 rcases d with d | ⟨d1,f,d2,d3,d4⟩
 ·exact ak d
 ·refine ah ⟨d1,f,d2,d3,?_⟩;rw[bL _ _ _ _ (by show f≠k;rintro rfl;rw[h] at d4;simp at d4;exact ht d4.2)]
  exact d4
def fin {α:Type}(r:Except Nat (α×Px.Ps)):Except Nat (α×Px.Ps) :=
 match r with
 | .ok (x,st)=>if st.t.k=63 then .error st.t.a else .ok (x,st)
 | .error p=>.error p
def Out {α:Type}(b:Nat)(s:fq)(eT eN:Addr)(w:fu)(r:Except Nat (α×Px.Ps))(V:fu->α->fC->Prop)(e:Ending)(w':fu):Prop :=
 Kp b w w'/\((∃ x st v,r=.ok (x,st)/\e=.returned v/\V w' x v/\Rd w' b s st eT eN)\/∃ p,fin r=.error p/\jV w' w.heap.size eT p e)
theorem MJ (b:Nat)(s:fq)(st:Px.Ps)(eT eN:Addr)(w:fu)(r:Rd w b s st eT eN)(hs:s.size<=maxLen) :
  Calls prog 170 #[.pointer (some ⟨b,0,none⟩)] w
   (Out b s eT eN w (.ok (st.t,Px.nx s st)) (fun _ t v=>v=.agg #[.int .i64 (kd t.k:Int),.string (s.extract t.a t.b),.int .i64 (t.a:Int)])):=by
 obtain ⟨td,ra,rd⟩:=r.mem;obtain ⟨c0,c1,c2,c3,c4,c5,f⟩:=nH ra.h;have hb:=r.lt;have R:Hid (_):=r;have RA:Hid (uN w b s st.t st.fF td/\kP w b eN st.fH td):=⟨ra,rd⟩;have hab:=r.tk.ab;have hle:=r.tk.le;have hse:(s.extract st.t.a st.t.b).size=st.t.b - st.t.a:=by simp;omega
 unfold maxLen at hs;clear r ra rd;go_enter func170,ntmps170
 have hi:((st.t.a:Int)+((st.t.b - st.t.a:Nat):Int))=((st.t.b:Nat):Int):=by omega
 go_wp2_with fail;have P1:Hid ((_:fu).heap[b]?=_):=(aD (w.alloc (.cells #[.int .i64 0,.string ⟨#[]⟩,.int .i64 0] 126)) (.cells #[.int .i64 (kd st.t.k:Int),.string (s.extract st.t.a st.t.b),.int .i64 (st.t.a:Int)] 126) b (by simp;omega)).trans ((aD w (.cells #[.int .i64 0,.string ⟨#[]⟩,.int .i64 0] 126) b hb).trans RA.o.1.h)
 have K0:Hid (Kp b w ((w.alloc (.cells #[.int .i64 0,.string ⟨#[]⟩,.int .i64 0] 126)).alloc (.cells #[.int .i64 (kd st.t.k:Int),.string (s.extract st.t.a st.t.b),.int .i64 (st.t.a:Int)] 126))):=((Kp.refl b w).alloc _).alloc _;refine (WT b s st.t.b _ _ _ _ _ eT eN _ P1.o (R.o.gl.keep K0.o) hle (by unfold maxLen;omega)).mono ?_
 rintro e w1 ⟨k1,h1,h2⟩;by_cases hk:(Px.tok s st.t.b).k=63
 ·have ht:=h2 hk;obtain ⟨c,rfl⟩:=ht.form;exact ⟨rfl,K0.o.trans k1,ah ⟨_,if_pos hk,ht.low K0.o.size⟩⟩
 ·obtain ⟨rfl,a1⟩:=h1 hk;obtain ⟨g1,g2,g3⟩:=Bo rfl k1 hb;obtain ⟨d0,d1,d2,df⟩:=cells3 g2;obtain ⟨u0,u1,u2,uf⟩:=cells3 g1;have A1:Hid (Kp b _ w1/\uN w1 b s (Px.tok s st.t.b) st.fF td):=⟨k1,a1⟩;clear k1 a1 h1 h2 g1 g2 c0 c1 c2 c3 c4 c5 f P1;go_wp2_with fail;have KW:∀ a1 a2 a3,Kp b w (((w1.setCell ⟨w.heap.size,0,none⟩ a1).setCell ⟨w.heap.size,1,none⟩ a2).setCell ⟨w.heap.size,2,none⟩ a3):=fun a1 a2 a3=>(((K0.o.trans A1.o.1).gI (aj _) _).gI (aj _) _).gI (aj _) _
  refine bodyPost_ret (v:=.agg #[.int .i64 (kd st.t.k:Int),.string (s.extract st.t.a st.t.b),.int .i64 (st.t.a:Int)]) (by simp[results,results170,go_sem, *]) rfl ⟨KW _ _ _,ak ⟨_,_,_,rfl,rfl,rfl,?_⟩⟩
  exact ⟨xR R.o.tk,hk,R.o.gl.keep (KW _ _ _),td,⟨by rw[jr _ (by omega),jr _ (by omega),jr _ (by omega)];exact A1.o.2.h⟩,RA.o.2.keep (KW _ _ _)⟩
theorem Q3 {x:fq}{v:Nat}(hx:x.size<=4)(hd:∀ j (hj:j < x.size),kC x[j]=true)(hk:k < x.size)(hv:v=Px.valOf (x.data.toList.take k)):v<=1000:=by
 have h1:=OL (x.data.toList.take k) 0 (by
  intro c hc;obtain ⟨j,hj,rfl⟩:=dY hc;simp only[bU,eD] at hj;have h2:=hd j (by show j < x.data.size;omega)
  unfold kC at h2;simp only[aZ,decide_eq_true_eq] at h2
  simpa using (show x.data[j].toNat<=57 from h2.2))
 have h3:(x.data.toList.take k).length<=3:=by simp;omega
 have h4:10 ^ (x.data.toList.take k).length<=10 ^ 3:=Nat.pow_le_pow_right (by omega) h3
 have h5:v=List.foldl (fun n c=>10 * n+(c.toNat - 48)) 0 (x.data.toList.take k):=hv
 omega
theorem Q4 (x:fq)(w:fu)(hx:x.size<=4)(hd:∀ j (hj:j < x.size),kC x[j]=true) :
  Calls prog 176 #[.string x] w fun e w'=>e=.returned (.int .i64 (Px.valOf x.toList:Nat))/\w'=w:=by
 have HD:Hid (_):=hd;clear hd;go_enter func176,ntmps176
 go_wp2;go_loop [3,7] (fun vv vi=>∃ (k v:Nat),k<=x.size/\vi=.int .i64 k/\vv=.int .i64 v/\Hid (v=Px.valOf (x.data.toList.take k))) (fun _ vi=>x.size - (RowKit.intOf vi).toNat)
 case atStart=>exact ⟨0,0,aK _,rfl,rfl,rfl⟩
 case round =>
  obtain ⟨k,v,hk,rfl,rfl,hv⟩:=hrel;by_cases hlt:k < x.size
  ·have hdk:=HD.o k hlt;unfold kC at hdk;simp only[aZ,decide_eq_true_eq] at hdk;have d1:(48:Int)<=x[k].toNat:=by omega
   have d2:(x[k].toNat:Int)<=57:=by omega
   have hb:v<=1000:=Q3 hx HD.o hlt hv.o;clear hdk;go_wp2;go_round
   case rel =>
    refine ⟨k+1,10 * v+(x[k].toNat - 48),by omega,by go_num,?_,?_⟩
    ·congr 1;omega
    ·show _=_
     rw[VO x k hlt,VN,<- hv.o]
   case measure=>simp[RowKit.intOf];omega
  ·obtain rfl:k=x.size:=by omega
   go_wp2;go_ret
   have:Px.valOf x.toList=v:=by rw[hv.o,aN,eU (by simp)]
   exact ⟨by rw[this];rfl,rfl⟩
variable {α β:Type}
theorem BA {x:α}{y:β}(h:fin (.ok (x,st))=.error p):fin (.ok (y,st))=.error p:=by
 unfold fin at h |-;simp only at h |-;split at h
 ·rename_i h1;rw[if_pos h1];cases h;rfl
 ·cases h
theorem rR {x:α}(h:fin (.ok (x,st))=.error p):st.t.k=63/\p=st.t.a:=by
 unfold fin at h;simp only at h;split at h
 ·rename_i h1;cases h;exact ⟨h1,rfl⟩
 ·cases h
theorem Qf:((kd k:Int) != 1)=!(k == 107):=by
 unfold kd;by_cases h:k=107
 ·simp[h]
 ·by_cases h1:k=119
  ·simp[h1]
  ·by_cases h2:k=110
   ·simp[h2]
   ·simp[h,h1,h2]
theorem WU:((kd k:Int) != 2)=!(k == 119):=by
 unfold kd;by_cases h:k=107
 ·simp[h]
 ·by_cases h1:k=119
  ·simp[h1]
  ·by_cases h2:k=110
   ·simp[h2]
   ·simp[h,h1,h2]
theorem WV:((kd k:Int) != 3)=!(k == 110):=by
 unfold kd;by_cases h:k=107
 ·simp[h]
 ·by_cases h1:k=119
  ·simp[h1]
  ·by_cases h2:k=110
   ·simp[h2]
   ·simp[h,h1,h2]
theorem Rd.cells (r:Rd w b s st eT eN):∃ td,
  w.cell? ⟨b,0,none⟩=some (.string s)/\w.cell? ⟨b,1,none⟩=some (.int .i64 (kd st.t.k:Int))/\w.cell? ⟨b,2,none⟩=some (.string (s.extract st.t.a st.t.b))/\w.cell? ⟨b,3,none⟩=some (.int .i64 (st.t.a:Int)) /\
  w.cell? ⟨b,4,none⟩=some (.int .i64 st.fF)/\w.cell? ⟨b,5,none⟩=some (.pointer td)/\∀ o,w.frozen? ⟨b,o,none⟩=false:=by
 obtain ⟨td,ra,rd⟩:=r.mem;exact ⟨td,nH ra.h⟩
theorem Qg (b:Nat)(s:fq)(st:Px.Ps)(eT eN:Addr)(w:fu)(r:Rd w b s st eT eN) :
  Calls prog 42 #[.pointer (some ⟨b,0,none⟩)] w fun e w'=>jV w' w.heap.size eT st.t.a e/\Kp b w w':=by
 obtain ⟨td,ra,rd⟩:=r.mem;refine (WM b _ _ _ _ _ st.t.a eT eN w ra.h r.gl).mono ?_;rintro e w' ⟨h1,h2⟩;exact ⟨h1,(Kp.refl _ _).below h2⟩
theorem wY (b:Nat)(s x:fq)(st:Px.Ps)(eT eN:Addr)(w:fu)(r:Rd w b s st eT eN)(hs:s.size<=maxLen)(ho:gy s st.t x=true) :
  Calls prog 144 #[.pointer (some ⟨b,0,none⟩),.string x] w (Out b s eT eN w (.ok ((),Px.nx s st)) (fun _ _ v=>v=.bool true)):=by
 obtain ⟨td,c0,c1,c2,c3,c4,c5,f⟩:=r.cells;have R:Hid (_):=r;unfold gy at ho;simp only[aZ] at ho;obtain ⟨h1,h2⟩:=ho;have k1:((kd st.t.k:Int) != 1)=false:=by rw[Qf,h1];rfl
 clear r h1;go_enter func144,ntmps144
 go_wp2_with fail;refine (MJ b s st eT eN _ R.o hs).mono ?_;rintro e w1 ⟨k1,⟨t,st1,v,he,rfl,rfl,r1⟩ | ⟨p,hp,ht⟩⟩
 ·cases he;have R1:Hid (_/\_):=⟨k1,r1⟩;clear k1 r1 c0 c1 c2 c3 c4 c5 f;go_wp2_with fail;go_ret;exact ⟨R1.o.1,ak ⟨_,_,_,rfl,rfl,rfl,R1.o.2⟩⟩
 ·obtain ⟨c,rfl⟩:=ht.form;exact ⟨rfl,k1,ah ⟨p,BA hp,ht⟩⟩
theorem nV (b:Nat)(s x:fq)(st:Px.Ps)(eT eN:Addr)(w:fu)(r:Rd w b s st eT eN)(ho:gy s st.t x=false) :
  Calls prog 144 #[.pointer (some ⟨b,0,none⟩),.string x] w fun e w'=>e=.returned (.bool false)/\w=w':=by
 obtain ⟨td,c0,c1,c2,c3,c4,c5,f⟩:=r.cells;clear r;unfold gy at ho;cases hk:(st.t.k == 107)
 ·have k1:((kd st.t.k:Int) != 1)=true:=by rw[Qf,hk];rfl
  clear ho hk;go_enter func144,ntmps144
  go_wp2_with fail;go_ret;exact ⟨rfl,rfl⟩
 ·have k1:((kd st.t.k:Int) != 1)=false:=by rw[Qf,hk];rfl
  rw[hk,Bool.true_and] at ho;clear hk;go_enter func144,ntmps144
  go_wp2_with fail;go_ret;exact ⟨rfl,rfl⟩
def kI (s:fq)(x:fq)(st:Px.Ps):Except Nat (Unit×Px.Ps):=if gy s st.t x then .ok ((),Px.nx s st) else .error st.t.a
theorem Ad (b:Nat)(s x:fq)(st:Px.Ps)(eT eN:Addr)(w:fu)(r:Rd w b s st eT eN)(hs:s.size<=maxLen) :
  Calls prog 151 #[.pointer (some ⟨b,0,none⟩),.string x] w (Out b s eT eN w (kI s x st) (fun _ _ v=>v=.tuple #[])):=by
 have R:Hid (_):=r;clear r;cases ho:gy s st.t x
 ·go_enter func151,ntmps151
  go_wp2_with fail;refine (nV b s x st eT eN _ R.o ho).mono ?_;rintro e w1 ⟨rfl,rfl⟩;go_wp2_with fail;refine (Qg b s st eT eN _ R.o).mono ?_;rintro e w1 ⟨ht,k1⟩;obtain ⟨c,rfl⟩:=ht.form;exact ⟨rfl,k1,ah ⟨_,by rw[kI,if_neg (by simp[ho])];rfl,ht⟩⟩
 ·go_enter func151,ntmps151
  go_wp2_with fail;refine (wY b s x st eT eN _ R.o hs ho).mono ?_;rintro e w1 ⟨k1,⟨t,st1,v,he,rfl,rfl,r1⟩ | ⟨p,hp,ht⟩⟩
  ·cases he;have R1:Hid (_/\_):=⟨k1,r1⟩;clear k1 r1;go_wp2_with fail;go_end0
   exact ⟨R1.o.1,ak ⟨_,_,_,by rw[kI,if_pos ho],rfl,rfl,R1.o.2⟩⟩
  ·obtain ⟨c,rfl⟩:=ht.form;exact ⟨rfl,k1,ah ⟨p,by rw[kI,if_pos ho];exact hp,ht⟩⟩
def lT (s:fq)(k:Nat)(st:Px.Ps):Except Nat (Px.Tok×Px.Ps):=if st.t.k=k then .ok (st.t,Px.nx s st) else .error st.t.a
def Ae (s:fq)(t:Px.Tok)(v:fC):Prop:=v=.agg #[.int .i64 (kd t.k:Int),.string (s.extract t.a t.b),.int .i64 (t.a:Int)]
theorem Qh (b:Nat)(s:fq)(k kk:Nat)(hkk:(k=119/\kk=2)\/(k=110/\kk=3))(st:Px.Ps)(eT eN:Addr)(w:fu)(r:Rd w b s st eT eN)(hs:s.size<=maxLen) :
  Calls prog 175 #[.pointer (some ⟨b,0,none⟩),.int .i64 (kk:Int)] w (Out b s eT eN w (lT s k st) (fun _ t v=>Ae s t v)):=by
 obtain ⟨td,c0,c1,c2,c3,c4,c5,f⟩:=r.cells;have hb:=r.lt;have R:Hid (_):=r;have hq:((kd st.t.k:Int) != (kk:Int))=!(st.t.k == k):=by
  rcases hkk with ⟨rfl,rfl⟩ | ⟨rfl,rfl⟩
  ·exact WU
  ·exact WV
 clear r hkk;cases ho:(st.t.k == k)
 ·rw[ho] at hq;have ho':¬ st.t.k=k:=by simpa using ho
  go_enter func175,ntmps175
  go_wp2_with fail;refine (Qg b s st eT eN _ (R.o.alloc _)).mono ?_;rintro e w1 ⟨ht,k1⟩;obtain ⟨c,rfl⟩:=ht.form;exact ⟨rfl,k1.vR,ah ⟨_,by rw[lT,if_neg ho'];rfl,ht.low (by simp)⟩⟩
 ·rw[ho] at hq;have ho':Hid (st.t.k=k):=(by simpa using ho:st.t.k=k)
  clear ho;go_enter func175,ntmps175
  go_wp2_with fail;refine (MJ b s st eT eN _ (R.o.alloc _) hs).mono ?_;rintro e w1 ⟨k1,⟨t,st1,v,he,rfl,rfl,r1⟩ | ⟨p,hp,ht⟩⟩
  ·cases he;have g1:=xQ k1 hb;obtain ⟨d0,d1,d2,df⟩:=cells3 g1;have R1:Hid (_/\_/\_):=⟨k1,r1,g1⟩;clear k1 r1 c0 c1 c2 c3 c4 c5 f g1;go_wp2_with fail;refine bodyPost_ret (v:=.agg #[.int .i64 (kd st.t.k:Int),.string (s.extract st.t.a st.t.b),.int .i64 (st.t.a:Int)]) (by simp[results,results175,go_sem, *]) rfl ?_
   have g2:=R1.o.2.2;have g3:=Ref.heap_set (o:=0) (.int .i64 (kd st.t.k:Int)) g2;have g4:=Ref.heap_set (o:=1) (.string (s.extract st.t.a st.t.b)) g3;exact ⟨((R1.o.1.vR.gI (aj _) _).gI (aj _) _).gI (aj _) _,ak ⟨_,_,_,by rw[lT,if_pos ho'.o],rfl,rfl,((R1.o.2.1.yj g2 (by decide) hb _).yj g3 (by decide) hb _).yj g4 (by decide) hb _⟩⟩
  ·obtain ⟨c,rfl⟩:=ht.form;exact ⟨rfl,k1.vR,ah ⟨p,by rw[lT,if_pos ho'.o];exact hp,ht.low (by simp)⟩⟩
def jQ (w:fu)(x:fq)(a:Nat)(ok:Nat->Prop)(q:Nat):Prop:=ok q/\w.heap[q]?=some (.cells #[.string x,.int .i64 (a:Int)] 236)
def ji (w:fu)(n a:Nat)(ok:Nat->Prop)(q:Nat):Prop:=ok q/\w.heap[q]?=some (.cells #[.int .i64 (n:Int),.int .i64 (a:Int)] 287)
theorem new1 {o:Obj}:(w.alloc o).heap[w.heap.size]?=some o:=by
 show (w.heap.push o)[w.heap.size]?=_
 rw[aB,if_pos rfl]
theorem IJ {o:Obj}(h:w.heap.size=n):(w.alloc o).heap[n]?=some o:=by rw[<- h];exact new1
theorem new2 {o p:Obj}:((w.alloc o).alloc p).heap[w.heap.size+1]?=some p:=wV
theorem Dm (b:Nat)(s:fq)(st:Px.Ps)(eT eN:Addr)(w:fu)(r:Rd w b s st eT eN)(hs:s.size<=maxLen) :
  Calls prog 173 #[.pointer (some ⟨b,0,none⟩)] w (Out b s eT eN w (lT s 119 st) (fun _ t v=>v=.string (s.extract t.a t.b))):=by
 have R:Hid (_):=r;clear r;go_enter func173,ntmps173
 go_wp2_with fail;refine (Qh b s 119 2 (ak ⟨rfl,rfl⟩) st eT eN _ R.o hs).mono ?_;rintro e w1 ⟨k1,⟨t,st1,v,he,rfl,hv,r1⟩ | ⟨p,hp,ht⟩⟩
 ·unfold Ae at hv;subst hv;have R1:Hid (_/\_/\_):=⟨k1,r1,he⟩;clear k1 r1 he;have vM:∀ W:fu,(Instr.field 126 (.agg #[.int .i64 (kd t.k:Int),.string (s.extract t.a t.b),.int .i64 (t.a:Int)]) 1).run prog W=.ok (.string (s.extract t.a t.b)) W:=fun _=>by kernel_rfl
  go_wp2_with fail;go_ret;exact ⟨R1.o.1,ak ⟨_,_,_,R1.o.2.2,rfl,rfl,R1.o.2.1⟩⟩
 ·obtain ⟨c,rfl⟩:=ht.form;exact ⟨rfl,k1,ah ⟨p,hp,ht⟩⟩
theorem zw (b:Nat)(s:fq)(st:Px.Ps)(eT eN:Addr)(w:fu)(r:Rd w b s st eT eN)(hs:s.size<=maxLen) :
  Calls prog 171 #[.pointer (some ⟨b,0,none⟩)] w (Out b s eT eN w (lT s 119 st) (fun w' t v=>∃ q,v=Ref.ptr q/\jQ w' (s.extract t.a t.b) t.a (Ref.In w w') q)):=by
 have R:Hid (_):=r;clear r;go_enter func171,ntmps171
 go_wp2_with fail;refine (Qh b s 119 2 (ak ⟨rfl,rfl⟩) st eT eN _ R.o hs).mono ?_;rintro e w1 ⟨k1,⟨t,st1,v,he,rfl,hv,r1⟩ | ⟨p,hp,ht⟩⟩
 ·unfold Ae at hv;subst hv;have R1:Hid (_/\_/\_):=⟨k1,r1,he⟩;clear k1 r1 he;go_wp2_with fail;go_ret;have z:=R1.o.1.size;exact ⟨(R1.o.1.alloc _).alloc _,ak ⟨_,_,_,R1.o.2.2,rfl,⟨_,rfl,⟨⟨by omega,by simp⟩,new2⟩⟩,(R1.o.2.1.alloc _).alloc _⟩⟩
 ·obtain ⟨c,rfl⟩:=ht.form;exact ⟨rfl,k1,ah ⟨p,hp,ht⟩⟩
theorem Af (b:Nat)(s:fq)(st:Px.Ps)(eT eN:Addr)(w:fu)(r:Rd w b s st eT eN)(hs:s.size<=maxLen) :
  Calls prog 149 #[.pointer (some ⟨b,0,none⟩)] w (Out b s eT eN w (lT s 110 st) (fun w' t v=>∃ q,v=Ref.ptr q/\ji w' (Px.valOf (s.extract t.a t.b).toList) t.a (Ref.In w w') q)):=by
 have R:Hid (_):=r;clear r;go_enter func149,ntmps149
 go_wp2_with fail;refine (Qh b s 110 3 (ah ⟨rfl,rfl⟩) st eT eN _ R.o hs).mono ?_;rintro e w1 ⟨k1,⟨t,st1,v,he,rfl,hv,r1⟩ | ⟨p,hp,ht⟩⟩
 ·unfold Ae at hv;subst hv;have hT:t=st.t/\st.t.k=110:=by
   unfold lT at he;split at he
   ·rename_i hk;cases he;exact ⟨rfl,hk⟩
   ·cases he
  obtain ⟨rfl,hk⟩:=hT;obtain ⟨hn1,hn2⟩:=R.o.tk.num hk;have hlt:=R.o.tk.lt (by omega) (by omega)
  have hle:=R.o.tk.le;have hx:(s.extract st.t.a st.t.b).size<=4:=by simp;omega
  have HX:Hid (∀ j (hj:j < (s.extract st.t.a st.t.b).size),kC (s.extract st.t.a st.t.b)[j]=true):=fun j hj=>by
   rw[dX];simp only[dF] at hj;exact hn2 _ (by omega) (by omega) (by omega)
  have R1:Hid (_/\_/\_):=⟨k1,r1,he⟩;clear k1 r1 he hn1 hn2 hlt hle hk;go_wp2_with fail;go_region_with (go_at_call 176;refine (Q4 _ _ hx HX.o).mono ?_;rintro e w2 ⟨rfl,rfl⟩)
  all_goals
   go_wp2_with fail;go_ret;have z:=R1.o.1.size;refine ⟨((R1.o.1.alloc _).alloc _).drew,ak ⟨_,_,_,R1.o.2.2,rfl,⟨_,rfl,⟨⟨by omega,by simp⟩,?_⟩⟩,((R1.o.2.1.alloc _).alloc _).drew⟩⟩
   exact new2
 ·obtain ⟨c,rfl⟩:=ht.form;exact ⟨rfl,k1,ah ⟨p,hp,ht⟩⟩
theorem WX {x:α}{y:β}(h:fin (.ok (x,st))=.error p)(ht:st'.t=st.t):fin (.ok (y,st'))=.error p:=by
 obtain ⟨h1,h2⟩:=rR h;unfold fin;simp only;rw[ht,if_pos h1,h2]
def Ag (s:fq)(x:fq)(st:Px.Ps):Except Nat (Unit×Px.Ps):=if gy s st.t x then .ok ((),Px.nx s (Px.dn st)) else .error st.t.a
def Ah (s:fq)(x:fq)(st:Px.Ps):Except Nat (Unit×Px.Ps):=if gy s st.t x then .ok ((),qy (Px.nx s st)) else .error st.t.a
theorem Rd.with (r:Rd w b s st eT eN)(k:Kp b w w')(ht:st'.t=st.t)(ha:uN w' b s st.t st'.fF td)(hd:kP w' b eN st'.fH td):Rd w' b s st' eT eN :=
 ⟨by rw[ht];exact r.tk,by rw[ht];exact r.wX,r.gl.keep k,td,by rw[ht];exact ha,hd⟩
theorem WY (b:Nat)(s x:fq)(st:Px.Ps)(eT eN:Addr)(w:fu)(r:Rd w b s st eT eN)(hs:s.size<=maxLen)(hn0:0<=st.fF)(hn1:st.fF<=1000000) :
  Calls prog 177 #[.pointer (some ⟨b,0,none⟩),.string x] w (Out b s eT eN w (Ag s x st) (fun _ _ v=>v=.tuple #[])):=by
 obtain ⟨td,c0,c1,c2,c3,c4,c5,f⟩:=r.cells;have R:Hid (_):=r;clear r;go_enter func177,ntmps177
 go_wp2_with fail;refine (Ad b s x st eT eN _ R.o hs).mono ?_;rintro e w1 ⟨k1,⟨t,st1,v,he,rfl,rfl,r1⟩ | ⟨p,hp,ht⟩⟩
 ·clear c0 c1 c2 c3 c4 c5 f;obtain ⟨Dn,ra,rd⟩:=r1.mem;obtain ⟨c0,c1,c2,c3,c4,c5,f⟩:=nH ra.h;have ho:gy s st.t x=true/\st1=Px.nx s st:=by
   unfold kI at he;split at he
   ·rename_i ho;cases he;exact ⟨ho,rfl⟩
   ·cases he
  obtain ⟨ho,rfl⟩:=ho;have e1:Ag s x st=.ok ((),Px.nx s (Px.dn st)):=by rw[Ag,if_pos ho]
  have gn:=r1.gl.n;have hb1:=r1.lt;have qC:(Px.nx s st).fF=st.fF:=rfl;have IK:(Px.nx s st).fH=st.fH:=rfl;rw[qC] at c4;rw[IK] at rd;have R1:Hid (Kp b w w1/\Rd w1 b s (Px.nx s st) eT eN/\uN w1 b s (Px.nx s st).t (Px.nx s st).fF Dn/\Ag s x st=.ok ((),Px.nx s (Px.dn st))):=⟨k1,r1,ra,e1⟩;clear k1 r1 ra he ho e1;by_cases h4:4<=st.fF
  ·rcases rd with ⟨d1,rfl⟩ | ⟨d1,ff,rfl,d3,d4⟩
   ·go_wp2_with fail;go_end0
    have hz:((w1.setCell ⟨b,4,none⟩ (.int .i64 (st.fF+1))).setCell ⟨b,5,none⟩ (.pointer (some ⟨w1.heap.size,0,none⟩))).heap.size=w1.heap.size:=by simp[World.setCell]
    refine ⟨((R1.o.1.jC _).jC _).alloc _,ak ⟨_,_,_,R1.o.2.2.2,rfl,rfl,R1.o.2.1.with (td:=some ⟨w1.heap.size,0,none⟩) ((((Kp.refl _ _).jC _).jC _).alloc _) rfl ⟨?_⟩ ?_⟩⟩
    ·rw[aD _ _ _ (by rw[hz];exact hb1),Ref.heap_set _ (Ref.heap_set _ R1.o.2.2.1.h)];simp;rfl
    ·refine ah ⟨?_,w1.heap.size,rfl,by omega,?_⟩
     ·show 0<=rW st.fF st.fH st.t.a
      unfold rW;rw[if_pos ⟨h4,d1⟩];omega
     ·show (World.alloc _ _).heap[w1.heap.size]?=some (Obj.cells #[.int .i64 (rW st.fF st.fH st.t.a),_] _)
      unfold rW;rw[if_pos ⟨h4,d1⟩];exact IJ hz
   ·have D4:Hid (_):=d4;clear d4;go_wp2_with fail;go_end0
    refine ⟨R1.o.1.jC _,ak ⟨_,_,_,R1.o.2.2.2,rfl,rfl,R1.o.2.1.with (td:=some ⟨ff,0,none⟩) ((Kp.refl _ _).jC _) rfl ⟨?_⟩ (kP.keep ?_ ((Kp.refl _ _).jC _))⟩⟩
    ·rw[Ref.heap_set _ R1.o.2.2.1.h];simp;rfl
    ·refine ah ⟨?_,ff,rfl,d3,?_⟩
     ·show 0<=rW st.fF st.fH st.t.a
      unfold rW;rw[if_neg (by omega)];exact d1
     ·show _=some (Obj.cells #[.int .i64 (rW st.fF st.fH st.t.a),_] _)
      unfold rW;rw[if_neg (by omega)];exact D4.o
  ·have RD:Hid (_):=rd;clear rd;go_wp2_with fail;go_end0
   refine ⟨R1.o.1.jC _,ak ⟨_,_,_,R1.o.2.2.2,rfl,rfl,R1.o.2.1.with (td:=Dn) ((Kp.refl _ _).jC _) rfl ⟨?_⟩ (kP.keep ?_ ((Kp.refl _ _).jC _))⟩⟩
   ·rw[Ref.heap_set _ R1.o.2.2.1.h];simp;rfl
   ·show kP w1 b eN (rW st.fF st.fH st.t.a) Dn
    unfold rW;rw[if_neg (by omega)];exact RD.o
 ·obtain ⟨c,rfl⟩:=ht.form;refine ⟨rfl,k1,ah ⟨p,?_,ht⟩⟩;unfold kI at hp;unfold Ag;split at hp
  ·rename_i ho;rw[if_pos ho];exact WX hp rfl
  ·rename_i ho;rw[if_neg ho];exact hp
theorem WZ (b:Nat)(s x:fq)(st:Px.Ps)(eT eN:Addr)(w:fu)(r:Rd w b s st eT eN)(hs:s.size<=maxLen)(hn0:0<=st.fF)(hn1:st.fF<=2000000) :
  Calls prog 178 #[.pointer (some ⟨b,0,none⟩),.string x] w (Out b s eT eN w (Ah s x st) (fun _ _ v=>v=.tuple #[])):=by
 have R:Hid (_):=r;clear r;go_enter func178,ntmps178
 go_wp2_with fail;refine (Ad b s x st eT eN _ R.o hs).mono ?_;rintro e w1 ⟨k1,⟨t,st1,v,he,rfl,rfl,r1⟩ | ⟨p,hp,ht⟩⟩
 ·obtain ⟨Dn,ra,rd⟩:=r1.mem;obtain ⟨c0,c1,c2,c3,c4,c5,f⟩:=nH ra.h;have ho:gy s st.t x=true/\st1=Px.nx s st:=by
   unfold kI at he;split at he
   ·rename_i ho;cases he;exact ⟨ho,rfl⟩
   ·cases he
  obtain ⟨ho,rfl⟩:=ho;have e1:Ah s x st=.ok ((),qy (Px.nx s st)):=by rw[Ah,if_pos ho]
  have qC:(Px.nx s st).fF=st.fF:=rfl;rw[qC] at c4;have R1:Hid (Kp b w w1/\Rd w1 b s (Px.nx s st) eT eN/\uN w1 b s (Px.nx s st).t (Px.nx s st).fF Dn/\kP w1 b eN (Px.nx s st).fH Dn/\Ah s x st=.ok ((),qy (Px.nx s st))):=⟨k1,r1,ra,rd,e1⟩;clear k1 r1 ra rd he ho e1;go_wp2_with fail;go_end0
  refine ⟨R1.o.1.jC _,ak ⟨_,_,_,R1.o.2.2.2.2,rfl,rfl,R1.o.2.1.with (td:=Dn) ((Kp.refl _ _).jC _) rfl ⟨?_⟩ (kP.keep R1.o.2.2.2.1 ((Kp.refl _ _).jC _))⟩⟩
  rw[Ref.heap_set _ R1.o.2.2.1.h];simp;rfl
 ·obtain ⟨c,rfl⟩:=ht.form;refine ⟨rfl,k1,ah ⟨p,?_,ht⟩⟩;unfold kI at hp;unfold Ah;split at hp
  ·rename_i ho;rw[if_pos ho];exact WX hp rfl
  ·rename_i ho;rw[if_neg ho];exact hp
def sD:Array fC:=qZ.toArray
def tx:Nat->fq
 | 0=>⟨#[43]⟩ | 1=>⟨#[45]⟩ | 2=>⟨#[42]⟩ | 3=>⟨#[47]⟩ | 4=>⟨#[60]⟩ | 5=>⟨#[61]⟩ | _=>⟨#[35]⟩
def lv:Nat->Int
 | 0=>1 | 1=>1 | 2=>2 | 3=>2 | _=>0
def BD:Nat->Int
 | 5=>0 | 6=>0 | _=>1
def BF:Nat->Int
 | 0=>1 | 1=>1 | 2=>1 | 3=>1 | _=>2
theorem Rc (W:fu):(Instr.index 336 (.agg sD) (.int .i64 0)).run prog W=.ok (.agg #[.string (tx 0),.int .i64 (lv 0),.int .i64 (BD 0),.int .i64 (BF 0)]) W:=by kernel_rfl
theorem Re (W:fu):(Instr.index 336 (.agg sD) (.int .i64 1)).run prog W=.ok (.agg #[.string (tx 1),.int .i64 (lv 1),.int .i64 (BD 1),.int .i64 (BF 1)]) W:=by kernel_rfl
theorem Rg (W:fu):(Instr.index 336 (.agg sD) (.int .i64 2)).run prog W=.ok (.agg #[.string (tx 2),.int .i64 (lv 2),.int .i64 (BD 2),.int .i64 (BF 2)]) W:=by kernel_rfl
theorem Rr (W:fu):(Instr.index 336 (.agg sD) (.int .i64 3)).run prog W=.ok (.agg #[.string (tx 3),.int .i64 (lv 3),.int .i64 (BD 3),.int .i64 (BF 3)]) W:=by kernel_rfl
theorem Sa (W:fu):(Instr.index 336 (.agg sD) (.int .i64 4)).run prog W=.ok (.agg #[.string (tx 4),.int .i64 (lv 4),.int .i64 (BD 4),.int .i64 (BF 4)]) W:=by kernel_rfl
theorem Se (W:fu):(Instr.index 336 (.agg sD) (.int .i64 5)).run prog W=.ok (.agg #[.string (tx 5),.int .i64 (lv 5),.int .i64 (BD 5),.int .i64 (BF 5)]) W:=by kernel_rfl
theorem Sf (W:fu):(Instr.index 336 (.agg sD) (.int .i64 6)).run prog W=.ok (.agg #[.string (tx 6),.int .i64 (lv 6),.int .i64 (BD 6),.int .i64 (BF 6)]) W:=by kernel_rfl
theorem Qi (i:Nat)(hi:i < 7)(W:fu):(Instr.index 336 (.agg sD) (.int .i64 (i:Int))).run prog W=.ok (.agg #[.string (tx i),.int .i64 (lv i),.int .i64 (BD i),.int .i64 (BF i)]) W:=by
 have h:i=0\/i=1\/i=2\/i=3\/i=4\/i=5\/i=6:=by omega
 rcases h with rfl | rfl | rfl | rfl | rfl | rfl | rfl
 ·exact Rc W
 ·exact Re W
 ·exact Rg W
 ·exact Rr W
 ·exact Sa W
 ·exact Se W
 ·exact Sf W
theorem Gl.range (g:Gl w b eT eN):w.rangeAt 16 0 qZ:=fun j v hv=>by
 obtain ⟨h1,h2⟩:=aU.1 hv;rw[bX,<- h2];exact g.ops j h1
theorem Sh {Q:Exit->Act->fu->Prop}{ops:Array Oper}{rest:List Oper}{op:Oper}{a:Act}(g:Gl w b eT eN)(hgd:op.guard=none)(x:Operand)(ho:op.op=.load 336 x)(hx:a.eval x=.pointer (some ⟨16,0,none⟩))(h:wpList prog ops Q rest (a.put op.dst (.agg sD)) w):wpList prog ops Q (op::rest) a w :=
 wpList_load_mid hgd _ x ho _ 0 hx qZ (.array 7 335) g.range (by kernel_rfl) rfl (by kernel_rfl) h
def nI (s:fq)(t:Px.Tok)(l:Int):Nat->Nat->Option Nat
 | 0,_=>none
 | n+1,i=>if lv i=l/\gy s t (tx i)=true then some i else nI s t l n (i+1)
def p9 (s:fq)(l:Int)(st:Px.Ps):Except Nat (Option Nat×Px.Ps) :=
 match nI s st.t l 7 0 with
 | some i=>.ok (some i,Px.nx s st)
 | none=>.ok (none,st)
theorem Qj (b:Nat)(s:fq)(l:Int)(st:Px.Ps)(eT eN:Addr)(w:fu)(r:Rd w b s st eT eN)(hs:s.size<=maxLen) :
  Calls prog 188 #[.pointer (some ⟨b,0,none⟩),.int .i64 l] w
   (Out b s eT eN w (p9 s l st) (fun _ o v=>v=.tuple #[.int .i64 (o.getD 0:Nat),.int .i64 (st.t.a:Int),.bool o.isSome])):=by
 obtain ⟨td,c0,c1,c2,c3,c4,c5,f⟩:=r.cells;have hb:=r.lt;have R:Hid (_):=r;clear r;go_enter func188,ntmps188
 go_upto_region 2 with fail
 refine wp_region_lit (Sh R.o.gl rfl _ rfl rfl ?_);go_wp2_with fail;clear c0 c1 c2 c3 c4 c5 f;go_loopw [16] (fun vi wr=>∃ i:Nat,vi=.int .i64 i/\i<=7/\Hid (Kp b w wr/\Rd wr b s st eT eN/\nI s st.t l 7 0=nI s st.t l (7 - i) i)) (fun vi _=>7 - (intOf vi).toNat)
 case atStart=>exact ⟨0,rfl,by omega,Kp.refl _ _,R.o,rfl⟩
 case round =>
  obtain ⟨i,rfl,hi,HR⟩:=hrel;by_cases hlt:i < 7
  ·have hix:=Qi i hlt;by_cases hl:lv i=l
   ·subst hl;cases ho:gy s st.t (tx i)
    ·have hnext:Hid (nI s st.t (lv i) 7 0=nI s st.t (lv i) (7 - (i+1)) (i+1)):=HR.o.2.2.trans (by rw[show 7 - i=(7 - (i+1))+1 by omega,nI,if_neg (by simp[ho])])
     go_wp2_with fail;refine (nV b s (tx i) st eT eN _ (HR.o.2.1.alloc _) ho).mono ?_;rintro e w1 ⟨rfl,rfl⟩;go_wp2_with fail;exact ⟨⟨i+1,by go_num,by omega,HR.o.1.alloc _,HR.o.2.1.alloc _,hnext.o⟩,by simp[intOf];omega⟩
    ·have hfound:Hid (p9 s (lv i) st=.ok (some i,Px.nx s st)):=by
      unfold Hid p9;rw[HR.o.2.2,show 7 - i=(7 - (i+1))+1 by omega,nI,if_pos ⟨rfl,ho⟩]
     go_wp2_with fail;refine (wY b s (tx i) st eT eN _ (HR.o.2.1.alloc _) hs ho).mono ?_;rintro e w1 ⟨k1,⟨t,st1,v,he,rfl,rfl,r1⟩ | ⟨p,hp,ht⟩⟩
     ·cases he;have R1:Hid (_/\_):=⟨k1,r1⟩;clear k1 r1;go_wp2_with fail;go_ret3
      exact ⟨HR.o.1.trans R1.o.1.vR,ak ⟨_,_,_,hfound.o,rfl,rfl,R1.o.2⟩⟩
     ·obtain ⟨c,rfl⟩:=ht.form;exact ⟨rfl,HR.o.1.trans k1.vR,ah ⟨p,by rw[hfound.o];exact BA hp,ht.low (by have:=HR.o.1.size;simp;omega)⟩⟩
   ·have hl':(lv i == l)=false:=by simpa using hl
    have hnext:Hid (nI s st.t l 7 0=nI s st.t l (7 - (i+1)) (i+1)):=HR.o.2.2.trans (by rw[show 7 - i=(7 - (i+1))+1 by omega,nI,if_neg (by simp[hl])])
    clear hl;go_wp2_with fail;exact ⟨⟨i+1,by go_num,by omega,HR.o.1.alloc _,HR.o.2.1.alloc _,hnext.o⟩,by simp[intOf];omega⟩
  ·obtain rfl:i=7:=by omega
   have hnone:Hid (p9 s l st=.ok (none,st)):=by
    unfold Hid p9;rw[HR.o.2.2];rfl
   go_wp2_with fail;go_ret3
   exact ⟨HR.o.1,ak ⟨_,_,_,hnone.o,rfl,rfl,HR.o.2.1⟩⟩
theorem So (s:fq)(st:Px.Ps):nI s st.t 1 7 0=if gy s st.t ⟨#[43]⟩=true then some 0 else if gy s st.t ⟨#[45]⟩=true then some 1 else none:=by
 simp[nI,lv,tx]
theorem Su (s:fq)(st:Px.Ps):nI s st.t 2 7 0=if gy s st.t ⟨#[42]⟩=true then some 2 else if gy s st.t ⟨#[47]⟩=true then some 3 else none:=by
 simp[nI,lv,tx]
theorem W9 (s:fq)(st:Px.Ps):nI s st.t 0 7 0=if gy s st.t ⟨#[60]⟩=true then some 4 else if gy s st.t ⟨#[61]⟩=true then some 5 else if gy s st.t ⟨#[35]⟩=true then some 6 else none:=by
 simp[nI,lv,tx]
def jd (o:Nat):Nat:=if o=43 then 0 else if o=45 then 1 else if o=42 then 2 else if o=47 then 3 else if o=60 then 4 else if o=61 then 5 else 6
def jv (w:fu):Px.Ex->(Nat->Prop)->fC->Prop
 | ⟨op,n,fD,_,own,none,none⟩,ok,v=>∃ q,ok q /\
   ((op=110/\v=.iface 277 (Ref.ptr q)/\w.heap[q]?=some (.cells #[.int .i64 (n:Int),.int .i64 (own:Int)] 287)) \/
    (op=119/\v=.iface 228 (Ref.ptr q)/\w.heap[q]?=some (.cells #[.string fD,.int .i64 (own:Int)] 236)) \/
    (op=116/\v=.iface 288 (Ref.ptr q)/\w.heap[q]?=some (.cells #[.bool (n == 1)] 290)))
 | ⟨op,_,_,_,own,some l,none⟩,ok,v=>op=33/\∃ q tl ql,ok q/\v=.iface 291 (Ref.ptr q)/\w.heap[q]?=some (.cells #[.iface tl (Ref.ptr ql),.int .i64 (own:Int)] 293)/\jv w l ok (.iface tl (Ref.ptr ql))
 | ⟨op,_,_,_,own,some l,some r⟩,ok,v=>∃ q tl ql tr qr,ok q/\v=.iface 294 (Ref.ptr q)/\w.heap[q]?=some (.cells #[.int .i64 (jd op:Int),.iface tl (Ref.ptr ql),.iface tr (Ref.ptr qr),.int .i64 (own:Int)] 297)/\jv w l ok (.iface tl (Ref.ptr ql))/\jv w r ok (.iface tr (Ref.ptr qr))
 | ⟨_,_,_,_,_,none,some _⟩,_,_=>False
variable {x y:Px.Ex}{ok:Nat->Prop}
theorem jv.form (h:jv w x ok v):∃ t q,v=.iface t (Ref.ptr q):=by
 match x with
 | ⟨op,n,fD,pl,own,none,none⟩ =>
  obtain ⟨q,h1,⟨h2,h3,h4⟩ | ⟨h2,h3,h4⟩ | ⟨h2,h3,h4⟩⟩:=h<;>exact ⟨_,q,h3⟩
 | ⟨op,n,fD,pl,own,some l,none⟩=>obtain ⟨h0,q,tl,ql,h1,h2,h3⟩:=h;exact ⟨_,q,h2⟩
 | ⟨op,n,fD,pl,own,some l,some r⟩=>obtain ⟨q,tl,ql,tr,qr,h1,h2,h3⟩:=h;exact ⟨_,q,h2⟩
 | ⟨_,_,_,_,_,none,some _⟩=>exact h.elim
theorem jv.mono {w:fu}{x:Px.Ex}{ok ok':Nat->Prop}{v:fC}(h:jv w x ok v)(hk:∀ k,ok k->ok' k):jv w x ok' v:=by
 match x with
 | ⟨op,n,fD,pl,own,none,none⟩=>obtain ⟨q,h1,h2⟩:=h;exact ⟨q,hk _ h1,h2⟩
 | ⟨op,n,fD,pl,own,some l,none⟩=>obtain ⟨h0,q,tl,ql,h1,h2,h3,h4⟩:=h;exact ⟨h0,q,tl,ql,hk _ h1,h2,h3,h4.mono hk⟩
 | ⟨op,n,fD,pl,own,some l,some r⟩=>obtain ⟨q,tl,ql,tr,qr,h1,h2,h3,h4,h5⟩:=h;exact ⟨q,tl,ql,tr,qr,hk _ h1,h2,h3,h4.mono hk,h5.mono hk⟩
 | ⟨_,_,_,_,_,none,some _⟩=>exact h.elim
theorem jv.keep {w w':fu}{x:Px.Ex}{ok:Nat->Prop}{v:fC}(h:jv w x ok v)(hk:∀ k,ok k->w'.heap[k]?=w.heap[k]?):jv w' x ok v:=by
 match x with
 | ⟨op,n,fD,pl,own,none,none⟩=>obtain ⟨q,h1,h2⟩:=h;exact ⟨q,h1,by rw[hk _ h1];exact h2⟩
 | ⟨op,n,fD,pl,own,some l,none⟩=>obtain ⟨h0,q,tl,ql,h1,h2,h3,h4⟩:=h;exact ⟨h0,q,tl,ql,h1,h2,by rw[hk _ h1];exact h3,h4.keep hk⟩
 | ⟨op,n,fD,pl,own,some l,some r⟩=>obtain ⟨q,tl,ql,tr,qr,h1,h2,h3,h4,h5⟩:=h;exact ⟨q,tl,ql,tr,qr,h1,h2,by rw[hk _ h1];exact h3,h4.keep hk,h5.keep hk⟩
 | ⟨_,_,_,_,_,none,some _⟩=>exact h.elim
theorem jv.fE (h:jv w x ok v)(a:Nat):jv w { x with pl:=a } ok v:=by
 match x with
 | ⟨op,n,fD,pl,own,none,none⟩=>exact h
 | ⟨op,n,fD,pl,own,some l,none⟩=>exact h
 | ⟨op,n,fD,pl,own,some l,some r⟩=>exact h
 | ⟨_,_,_,_,_,none,some _⟩=>exact h.elim
theorem jv.kp (h:jv w1 x (Ref.In w w1) v)(hb:b < w.heap.size)(k:Kp b w1 w2):jv w2 x (Ref.In w w2) v :=
 (h.keep fun i hi=>k.block i hi.2 (by have:=hi.1;omega)).mono fun i hi=>⟨hi.1,aV hi.2 k.size⟩
theorem jv.pair {own:Nat}(hb:b < w.heap.size)(hx:jv wr x (Ref.In w wr) (.iface tl (Ref.ptr ql)))(k:Kp b wr w3)(h1:Kp b w wr)(hy:jv w3 y (Ref.In wr w3) (.iface tr (Ref.ptr qr))) :
  jv (w3.alloc (.cells #[.int .i64 (jd o:Int),.iface tl (Ref.ptr ql),.iface tr (Ref.ptr qr),.int .i64 (own:Int)] 297)) ⟨o,0,gM,pl,own,some x,some y⟩ (Ref.In w (w3.alloc (.cells #[.int .i64 (jd o:Int),.iface tl (Ref.ptr ql),.iface tr (Ref.ptr qr),.int .i64 (own:Int)] 297))) (.iface 294 (Ref.ptr w3.heap.size)):=by
 have s1:=h1.size;have s2:=k.size;refine ⟨w3.heap.size,tl,ql,tr,qr,⟨by omega,by simp⟩,rfl,new1,?_,?_⟩
 ·exact (hx.kp hb k).kp hb ((Kp.refl b w3).alloc _)
 ·exact ((hy.keep fun i hi=>aD _ _ _ hi.2).mono fun i hi=>⟨by have:=hi.1;omega,by have:=hi.2;simp;omega⟩)
def Dp (s:fq)(b:Nat)(w:fu):Nat :=
 match w.heap[b]? with
 | some (Obj.cells c _ _)=>(match c[3]? with
  | some (Value.int _ a)=>s.size+1 - a.toNat
  | _=>0)
 | _=>0
theorem IL (r:Rd w b s st eT eN):Dp s b w=s.size+1 - st.t.a:=by
 obtain ⟨td,ra,_⟩:=r.mem;simp[Dp,ra.h]
theorem q9 {t:Px.Tok}(h:t.k=63)(x:fq):gy s t x=false:=by
 unfold gy;rw[h];rfl
theorem wZ {r:Except Nat (α×Px.Ps)}(h:fin r=.error p):r=.error p\/∃ x st,r=.ok (x,st)/\st.t.k=63/\p=st.t.a:=by
 cases r with
 | error q=>left;exact h
 | ok y =>
  obtain ⟨x,st⟩:=y;obtain ⟨h1,h2⟩:=rR h;exact ah ⟨x,st,rfl,h1,h2⟩
theorem mJ (x:α)(h:st.t.k=63):fin (.ok (x,st))=.error st.t.a:=by
 unfold fin;simp only;rw[if_pos h]
def Late {α:Type}(g:Px.Ps->Except Nat (α×Px.Ps)):Prop:=∀ st,st.t.k=63->fin (g st)=.error st.t.a
theorem Sx (s:fq)(g:Px.Ps->Except Nat (Px.Ex×Px.Ps))(a b:UInt8)(m pl:Nat)(e:Px.Ex)(st:Px.Ps)(h:st.t.k=63):fin (Px.chain s g a b m pl e st)=.error st.t.a:=by
 cases m with
 | zero=>rfl
 | succ m=>rw[Px.chain,if_neg (by simp[q9 h]),if_neg (by simp[q9 h])];exact mJ _ h
variable {g:Px.Ps->Except Nat (Px.Ex×Px.Ps)}
theorem Dq {a b:UInt8}{f:Px.Ex->Px.Ex}{r:Except Nat (Px.Ex×Px.Ps)}(h:fin r=.error p) :
  fin (match r with
   | .error p=>.error p
   | .ok (k,st')=>Px.chain s g a b m pl (f k) st')=.error p:=by
 rcases wZ h with rfl | ⟨x,st,rfl,h1,rfl⟩
 ·rfl
 ·exact Sx s g a b m pl _ st h1
theorem Qk (s:fq)(hg:Late g)(a b:UInt8):Late (Px.row s g a b):=by
 intro st h
 have:=hg st h
 unfold Px.row;exact Dq (f:=id) this
theorem Xa (s:fq)(hg:Late g):Late (Px.sum s g):=Qk s (Qk s hg _ _) _ _
theorem Xb {t:Px.Tok}(h:t.k=63):qj s t=none:=by
 unfold qj;rw[q9 h,q9 h,q9 h];rfl
theorem Xc (s:fq)(hg:Late g):Late (Px.expr s g):=by
 intro st h
 have:=Xa s hg st h
 unfold Px.expr;rcases wZ this with h1 | ⟨x,st1,h1,h2,h3⟩
 ·rw[h1];rfl
 ·rw[h1];simp only;rw[Xb h2];simp only;rw[h3];exact mJ _ h2
theorem IQ (s:fq)(n:Nat):Late (Px.atom s n):=by
 intro st h;cases n with
 | zero=>rfl
 | succ n =>
  rw[Px.atom,if_neg (by omega),if_neg (by omega),if_neg (by simp[q9 h]),if_neg (by simp[q9 h]),if_neg (by simp[q9 h]),if_neg (by simp[q9 h])]
  rfl
theorem Ql (s:fq):Late (jN s):=Xc s (IQ s _)
def XV (w:fu):fu->Px.Ex->fC->Prop:=fun w' x v=>jv w' x (Ref.In w w') v
def xg (b:Nat)(s:fq)(n:Nat)(eT eN:Addr)(F:Nat)(g:Px.Ps->Except Nat (Px.Ex×Px.Ps)):Prop :=
 ∀ (st:Px.Ps) (w:fu),Ref.Dom s n st->Rd w b s st eT eN->Calls prog F #[.pointer (some ⟨b,0,none⟩)] w (Out b s eT eN w (g st) (XV w))
def IU (b:Nat)(s:fq)(n:Nat)(eT eN:Addr)(g:Px.Ps->Except Nat (Px.Ex×Px.Ps))(oa ob:UInt8)(pl:Nat)(R:Except Nat (Px.Ex×Px.Ps))(w wr:fu)(v:fC):Prop :=
 Kp b w wr/\∃ x st m,jv wr x (Ref.In w wr) v/\Rd wr b s st eT eN/\Ref.Dom s n st/\Px.chain s g oa ob m pl x st=R/\s.size - st.t.a < m
variable {oa ob:UInt8}{l:Int}
theorem ML (hop:∀ st:Px.Ps,nI s st.t l 7 0=if gy s st.t ⟨#[oa]⟩=true then some (jd oa.toNat) else if gy s st.t ⟨#[ob]⟩=true then some (jd ob.toNat) else none)(h:nI s st.t l 7 0=some i):st.t.k=107/\∃ o:Nat,i=jd o/\Px.chain s g oa ob (m+1) pl x st=(match g (Px.nx s st) with
   | .error p=>.error p
   | .ok (k,st')=>Px.chain s g oa ob m pl ⟨o,0,gM,pl,st.t.a,some x,some k⟩ st'):=by
 rw[hop] at h;split at h
 ·rename_i h1;cases h;refine ⟨sU h1,oa.toNat,rfl,?_⟩;rw[Px.chain,if_pos h1];cases g (Px.nx s st)<;>rfl
 ·split at h
  ·rename_i h1 h2;cases h;refine ⟨sU h2,ob.toNat,rfl,?_⟩;rw[Px.chain,if_neg h1,if_pos h2];cases g (Px.nx s st)<;>rfl
  ·cases h
theorem Xd (hop:∀ st:Px.Ps,nI s st.t l 7 0=if gy s st.t ⟨#[oa]⟩=true then some (jd oa.toNat) else if gy s st.t ⟨#[ob]⟩=true then some (jd ob.toNat) else none)(h:nI s st.t l 7 0=none):Px.chain s g oa ob (m+1) pl x st=.ok (x,st):=by
 rw[hop] at h;split at h
 ·cases h
 ·split at h
  ·cases h
  ·rename_i h1 h2;rw[Px.chain,if_neg h1,if_neg h2]
theorem Xe {R:Except Nat (Px.Ex×Px.Ps)}{st1:Px.Ps}(hb:b < w.heap.size)(hg:Px.Goes s g)(KR:Kp b w wr)(X:jv wr x (Ref.In w wr) (.iface tl (Ref.ptr ql)))(D1:Ref.Dom s n st1)(hk:st1.t.k=107)(K2:Kp b wr w2)(K3:Kp b w2 w3)(hm:s.size - st1.t.a < m+1)(CH:(match g (Px.nx s st1) with
   | .error p=>.error p
   | .ok (k,st')=>Px.chain s g oa ob m pl ⟨o,0,gM,pl,st1.t.a,some x,some k⟩ st')=R)(hr:g (Px.nx s st1)=.ok (y,st'))(Y:jv w3 y (Ref.In w2 w3) (.iface tr (Ref.ptr qr)))(R3:Rd w3 b s st' eT eN) :
  IU b s n eT eN g oa ob pl R w (w3.alloc (.cells #[.int .i64 (jd o:Int),.iface tl (Ref.ptr ql),.iface tr (Ref.ptr qr),.int .i64 (st1.t.a:Int)] 297)) (.iface 294 (Ref.ptr w3.heap.size)) /\
   Dp s b (w3.alloc (.cells #[.int .i64 (jd o:Int),.iface tl (Ref.ptr ql),.iface tr (Ref.ptr qr),.int .i64 (st1.t.a:Int)] 297)) < s.size+1 - st1.t.a:=by
 have g0:Px.Good s st1 (Px.nx s st1):=vg D1.tk (by omega) (by omega)
 have g1:=g0.trans (hg _ _ _ g0.tk hr);have g2:=g1.lt;have g3:=g1.tk.ab;have g4:=g1.tk.le;have z2:=K2.size;have Y':jv w3 y (Ref.In wr w3) (.iface tr (Ref.ptr qr)):=Y.mono fun i hi=>⟨by have:=hi.1;omega,hi.2⟩
 rw[hr] at CH;refine ⟨⟨((KR.trans K2).trans K3).alloc _,_,st',m,jv.pair hb X (K2.trans K3) KR Y',R3.alloc _,D1.good g1,CH,by omega⟩,?_⟩
 rw[IL (R3.alloc _)];omega
theorem S6 (b:Nat)(s:fq)(n:Nat)(eT eN:Addr)(g:Px.Ps->Except Nat (Px.Ex×Px.Ps))(hp:xg b s n eT eN 192 g)(hg:Px.Goes s g)(hl:Late g)(hs:s.size<=maxLen)(st:Px.Ps)(w:fu)(hD:Ref.Dom s n st)(r:Rd w b s st eT eN) :
  Calls prog 190 #[.pointer (some ⟨b,0,none⟩),.int .i64 2,.func (.func 192) #[.pointer (some ⟨b,0,none⟩)] #[]] w (Out b s eT eN w (Px.row s g 42 47 st) (XV w)):=by
 have hb:=r.lt;have R:Hid (Rd w b s st eT eN/\Ref.Dom s n st):=⟨r,hD⟩;have HP:Hid (_):=hp;have HG:Hid (Px.Goes s g/\Late g):=⟨hg,hl⟩;have Dt:Hid (∀ st:Px.Ps,nI s st.t 2 7 0=if gy s st.t ⟨#[42]⟩=true then some (jd (42:UInt8).toNat) else if gy s st.t ⟨#[47]⟩=true then some (jd (47:UInt8).toNat) else none):=fun st=>Su s st
 clear r hp hD hg hl;go_enter func190,ntmps190
 go_wp2_with fail;refine (HP.o st _ R.o.2 R.o.1).mono ?_;rintro e w1 ⟨k1,⟨x,st1,v,he,rfl,hv,r1⟩ | ⟨p,hp,ht⟩⟩
 ·have hrow:Px.row s g 42 47 st=Px.chain s g 42 47 (s.size+1) st.t.a x st1:=by unfold Px.row;rw[he]
  generalize hRR:Px.row s g 42 47 st=RR at *;have D1:=R.o.2.good (HG.o.1 _ _ _ R.o.1.tk he);have HS:Hid (IU b s n eT eN g 42 47 st.t.a RR w w1 v):=⟨k1,x,st1,s.size+1,hv,r1,D1,hrow.symm,by omega⟩
  clear k1 hv r1 D1 hrow he hRR;go_wp2_with fail;go_loopw [7] (fun v wr=>Hid (IU b s n eT eN g 42 47 st.t.a RR w wr v)) (fun _ wr=>Dp s b wr)
  case atStart=>exact HS.o
  case round =>
   obtain ⟨kr,x,st1,m,hx,r1,D1,CH,hm⟩:=hrel.o;clear hrel;obtain ⟨tl,ql,rfl⟩:=hx.form;unfold Ref.ptr at hx |-;obtain ⟨m,rfl⟩:∃ m',m=m'+1:=⟨m - 1,by omega⟩
   have KR:Hid (Kp b w wr/\jv wr x (Ref.In w wr) (.iface tl (.pointer (some ⟨ql,0,none⟩)))/\Rd wr b s st1 eT eN/\Ref.Dom s n st1/\Px.chain s g 42 47 (m+1) st.t.a x st1=RR):=⟨kr,hx,r1,D1,CH⟩;clear kr hx r1 D1 CH;go_wp2_with fail;refine (Qj b s 2 st1 eT eN _ KR.o.2.2.1 hs).mono ?_;rintro e w2 ⟨k2,⟨o,st2,v,he,rfl,rfl,r2⟩ | ⟨p,hp,ht⟩⟩
   ·cases hf:nI s st1.t 2 7 0 with
    | none =>
     have he':p9 s 2 st1=.ok (none,st1):=by unfold p9;rw[hf]
     rw[he'] at he;cases he;have hR:Hid (RR=.ok (x,st1)):=KR.o.2.2.2.2.symm.trans (Xd Dt.o hf);have R2:Hid (Kp b wr w2/\Rd w2 b s st1 eT eN):=⟨k2,r2⟩;clear k2 r2 he' hf;go_wp2_with fail;go_ret;refine ⟨KR.o.1.trans R2.o.1,ak ⟨x,st1,_,hR.o,rfl,?_,R2.o.2⟩⟩;exact jv.kp KR.o.2.1 hb R2.o.1
    | some i =>
     have he':p9 s 2 st1=.ok (some i,Px.nx s st1):=by unfold p9;rw[hf]
     rw[he'] at he;cases he;obtain ⟨hk,o,rfl,hch⟩:=ML (g:=g) (m:=m) (pl:=st.t.a) (x:=x) Dt.o hf;have HC:Hid (_/\_):=⟨hk,hch.symm.trans KR.o.2.2.2.2⟩;have R2:Hid (Kp b wr w2/\Rd w2 b s (Px.nx s st1) eT eN):=⟨k2,r2⟩;have D2:Hid (Ref.Dom s n (Px.nx s st1)):=KR.o.2.2.2.1.good (vg KR.o.2.2.1.tk (by omega) (by omega))
     clear k2 r2 he' hf hk hch;go_wp2_with fail;refine (HP.o (Px.nx s st1) _ D2.o R2.o.2).mono ?_;rintro e w3 ⟨k3,⟨y,gV,v,hy,rfl,hv,r3⟩ | ⟨p,hp,ht⟩⟩
     ·obtain ⟨tr,qr,rfl⟩:=jv.form hv;have M:=IL KR.o.2.2.1;have ST:Hid (_/\_):=Xe hb HG.o.1 KR.o.1 KR.o.2.1 KR.o.2.2.2.1 HC.o.1 R2.o.1 k3 hm HC.o.2 hy hv r3;rw[<- M] at ST;clear k3 hy hv r3 M;unfold Ref.ptr at ST |-;go_wp2_with fail;exact ST.o
     ·obtain ⟨c,rfl⟩:=ht.form;exact ⟨rfl,(KR.o.1.trans R2.o.1).trans k3,ah ⟨p,by rw[<- HC.o.2];exact Dq hp,ht.low (KR.o.1.trans R2.o.1).size⟩⟩
   ·obtain ⟨c,rfl⟩:=ht.form;have hfin:fin RR=.error p:=by
     cases hf:nI s st1.t 2 7 0 with
     | none =>
      have he':p9 s 2 st1=.ok (none,st1):=by unfold p9;rw[hf]
      rw[he'] at hp;exact absurd (rR hp).1 KR.o.2.2.1.wX
     | some i =>
      have he':p9 s 2 st1=.ok (some i,Px.nx s st1):=by unfold p9;rw[hf]
      rw[he'] at hp;obtain ⟨h1,rfl⟩:=rR hp;obtain ⟨hk,o,rfl,hch⟩:=ML (g:=g) (m:=m) (pl:=st.t.a) (x:=x) Dt.o hf;rw[<- KR.o.2.2.2.2,hch];exact Dq (HG.o.2 _ h1)
    exact ⟨rfl,KR.o.1.trans k2,ah ⟨p,hfin,ht.low KR.o.1.size⟩⟩
 ·obtain ⟨c,rfl⟩:=ht.form;exact ⟨rfl,k1,ah ⟨p,by unfold Px.row;exact Dq (f:=id) hp,ht⟩⟩
theorem S7 (b:Nat)(s:fq)(n:Nat)(eT eN:Addr)(g:Px.Ps->Except Nat (Px.Ex×Px.Ps))(hp:xg b s n eT eN 191 g)(hg:Px.Goes s g)(hl:Late g)(hs:s.size<=maxLen)(st:Px.Ps)(w:fu)(hD:Ref.Dom s n st)(r:Rd w b s st eT eN) :
  Calls prog 190 #[.pointer (some ⟨b,0,none⟩),.int .i64 1,.func (.func 191) #[.pointer (some ⟨b,0,none⟩)] #[]] w (Out b s eT eN w (Px.row s g 43 45 st) (XV w)):=by
 have hb:=r.lt;have R:Hid (Rd w b s st eT eN/\Ref.Dom s n st):=⟨r,hD⟩;have HP:Hid (_):=hp;have HG:Hid (Px.Goes s g/\Late g):=⟨hg,hl⟩;have Dt:Hid (∀ st:Px.Ps,nI s st.t 1 7 0=if gy s st.t ⟨#[43]⟩=true then some (jd (43:UInt8).toNat) else if gy s st.t ⟨#[45]⟩=true then some (jd (45:UInt8).toNat) else none):=fun st=>So s st
 clear r hp hD hg hl;go_enter func190,ntmps190
 go_wp2_with fail;refine (HP.o st _ R.o.2 R.o.1).mono ?_;rintro e w1 ⟨k1,⟨x,st1,v,he,rfl,hv,r1⟩ | ⟨p,hp,ht⟩⟩
 ·have hrow:Px.row s g 43 45 st=Px.chain s g 43 45 (s.size+1) st.t.a x st1:=by unfold Px.row;rw[he]
  generalize hRR:Px.row s g 43 45 st=RR at *;have D1:=R.o.2.good (HG.o.1 _ _ _ R.o.1.tk he);have HS:Hid (IU b s n eT eN g 43 45 st.t.a RR w w1 v):=⟨k1,x,st1,s.size+1,hv,r1,D1,hrow.symm,by omega⟩
  clear k1 hv r1 D1 hrow he hRR;go_wp2_with fail;go_loopw [7] (fun v wr=>Hid (IU b s n eT eN g 43 45 st.t.a RR w wr v)) (fun _ wr=>Dp s b wr)
  case atStart=>exact HS.o
  case round =>
   obtain ⟨kr,x,st1,m,hx,r1,D1,CH,hm⟩:=hrel.o;clear hrel;obtain ⟨tl,ql,rfl⟩:=hx.form;unfold Ref.ptr at hx |-;obtain ⟨m,rfl⟩:∃ m',m=m'+1:=⟨m - 1,by omega⟩
   have KR:Hid (Kp b w wr/\jv wr x (Ref.In w wr) (.iface tl (.pointer (some ⟨ql,0,none⟩)))/\Rd wr b s st1 eT eN/\Ref.Dom s n st1/\Px.chain s g 43 45 (m+1) st.t.a x st1=RR):=⟨kr,hx,r1,D1,CH⟩;clear kr hx r1 D1 CH;go_wp2_with fail;refine (Qj b s 1 st1 eT eN _ KR.o.2.2.1 hs).mono ?_;rintro e w2 ⟨k2,⟨o,st2,v,he,rfl,rfl,r2⟩ | ⟨p,hp,ht⟩⟩
   ·cases hf:nI s st1.t 1 7 0 with
    | none =>
     have he':p9 s 1 st1=.ok (none,st1):=by unfold p9;rw[hf]
     rw[he'] at he;cases he;have hR:Hid (RR=.ok (x,st1)):=KR.o.2.2.2.2.symm.trans (Xd Dt.o hf);have R2:Hid (Kp b wr w2/\Rd w2 b s st1 eT eN):=⟨k2,r2⟩;clear k2 r2 he' hf;go_wp2_with fail;go_ret;refine ⟨KR.o.1.trans R2.o.1,ak ⟨x,st1,_,hR.o,rfl,?_,R2.o.2⟩⟩;exact jv.kp KR.o.2.1 hb R2.o.1
    | some i =>
     have he':p9 s 1 st1=.ok (some i,Px.nx s st1):=by unfold p9;rw[hf]
     rw[he'] at he;cases he;obtain ⟨hk,o,rfl,hch⟩:=ML (g:=g) (m:=m) (pl:=st.t.a) (x:=x) Dt.o hf;have HC:Hid (_/\_):=⟨hk,hch.symm.trans KR.o.2.2.2.2⟩;have R2:Hid (Kp b wr w2/\Rd w2 b s (Px.nx s st1) eT eN):=⟨k2,r2⟩;have D2:Hid (Ref.Dom s n (Px.nx s st1)):=KR.o.2.2.2.1.good (vg KR.o.2.2.1.tk (by omega) (by omega))
     clear k2 r2 he' hf hk hch;go_wp2_with fail;refine (HP.o (Px.nx s st1) _ D2.o R2.o.2).mono ?_;rintro e w3 ⟨k3,⟨y,gV,v,hy,rfl,hv,r3⟩ | ⟨p,hp,ht⟩⟩
     ·obtain ⟨tr,qr,rfl⟩:=jv.form hv;have M:=IL KR.o.2.2.1;have ST:Hid (_/\_):=Xe hb HG.o.1 KR.o.1 KR.o.2.1 KR.o.2.2.2.1 HC.o.1 R2.o.1 k3 hm HC.o.2 hy hv r3;rw[<- M] at ST;clear k3 hy hv r3 M;unfold Ref.ptr at ST |-;go_wp2_with fail;exact ST.o
     ·obtain ⟨c,rfl⟩:=ht.form;exact ⟨rfl,(KR.o.1.trans R2.o.1).trans k3,ah ⟨p,by rw[<- HC.o.2];exact Dq hp,ht.low (KR.o.1.trans R2.o.1).size⟩⟩
   ·obtain ⟨c,rfl⟩:=ht.form;have hfin:fin RR=.error p:=by
     cases hf:nI s st1.t 1 7 0 with
     | none =>
      have he':p9 s 1 st1=.ok (none,st1):=by unfold p9;rw[hf]
      rw[he'] at hp;exact absurd (rR hp).1 KR.o.2.2.1.wX
     | some i =>
      have he':p9 s 1 st1=.ok (some i,Px.nx s st1):=by unfold p9;rw[hf]
      rw[he'] at hp;obtain ⟨h1,rfl⟩:=rR hp;obtain ⟨hk,o,rfl,hch⟩:=ML (g:=g) (m:=m) (pl:=st.t.a) (x:=x) Dt.o hf;rw[<- KR.o.2.2.2.2,hch];exact Dq (HG.o.2 _ h1)
    exact ⟨rfl,KR.o.1.trans k2,ah ⟨p,hfin,ht.low KR.o.1.size⟩⟩
 ·obtain ⟨c,rfl⟩:=ht.form;exact ⟨rfl,k1,ah ⟨p,by unfold Px.row;exact Dq (f:=id) hp,ht⟩⟩
theorem S8 (b:Nat)(s:fq)(n:Nat)(eT eN:Addr)(g:Px.Ps->Except Nat (Px.Ex×Px.Ps))(hp:xg b s n eT eN 192 g)(hg:Px.Goes s g)(hl:Late g)(hs:s.size<=maxLen):xg b s n eT eN 191 (Px.term s g):=by
 intro st w hD r;have H:Hid (_/\_/\_):=⟨hp,hD,r⟩;clear hp hD r;go_enter func191,ntmps191
 go_wp2_with fail;refine (S6 b s n eT eN g H.o.1 hg hl hs st _ H.o.2.1 H.o.2.2).mono ?_;rintro e w1 ⟨k1,⟨x,st1,v,he,rfl,hv,r1⟩ | ⟨p,hp,ht⟩⟩
 ·have H1:Hid (_/\_/\_/\_):=⟨k1,he,hv,r1⟩;clear k1 he hv r1;go_wp2_with fail;go_ret;exact ⟨H1.o.1,ak ⟨x,st1,_,H1.o.2.1,rfl,H1.o.2.2.1,H1.o.2.2.2⟩⟩
 ·obtain ⟨c,rfl⟩:=ht.form;exact ⟨rfl,k1,ah ⟨p,hp,ht⟩⟩
theorem Tb (b:Nat)(s:fq)(n:Nat)(eT eN:Addr)(g:Px.Ps->Except Nat (Px.Ex×Px.Ps))(hp:xg b s n eT eN 192 g)(hg:Px.Goes s g)(hl:Late g)(hs:s.size<=maxLen):xg b s n eT eN 187 (Px.sum s g):=by
 intro st w hD r;have H:Hid (_/\_/\_):=⟨S8 b s n eT eN g hp hg hl hs,hD,r⟩;clear hp hD r;go_enter func187,ntmps187
 go_wp2_with fail;refine (S7 b s n eT eN (Px.term s g) H.o.1 (Co hg) (Qk s hl _ _) hs st _ H.o.2.1 H.o.2.2).mono ?_;rintro e w1 ⟨k1,⟨x,st1,v,he,rfl,hv,r1⟩ | ⟨p,hp,ht⟩⟩
 ·have H1:Hid (_/\_/\_/\_):=⟨k1,he,hv,r1⟩;clear k1 he hv r1;go_wp2_with fail;go_ret;exact ⟨H1.o.1,ak ⟨x,st1,_,H1.o.2.1,rfl,H1.o.2.2.1,H1.o.2.2.2⟩⟩
 ·obtain ⟨c,rfl⟩:=ht.form;exact ⟨rfl,k1,ah ⟨p,hp,ht⟩⟩
theorem Xf (h:nI s st.t 0 7 0=some i):st.t.k=107/\∃ o,i=jd o/\qj s st.t=some o:=by
 rw[W9] at h;unfold qj;split at h
 ·rename_i h1;cases h;exact ⟨sU h1,60,rfl,by rw[if_pos h1]⟩
 ·split at h
  ·rename_i h1 h2;cases h;exact ⟨sU h2,61,rfl,by rw[if_neg h1,if_pos h2]⟩
  ·split at h
   ·rename_i h1 h2 h3;cases h;exact ⟨sU h3,35,rfl,by rw[if_neg h1,if_neg h2,if_pos h3]⟩
   ·cases h
theorem OT (h:nI s st.t 0 7 0=none):qj s st.t=none:=by
 rw[W9] at h;unfold qj;split at h
 ·cases h
 ·split at h
  ·cases h
  ·split at h
   ·cases h
   ·rename_i h1 h2 h3;rw[if_neg h1,if_neg h2,if_neg h3]
theorem Xg (h:nI s st.t l 7 0=some i):p9 s l st=.ok (some i,Px.nx s st):=by unfold p9;rw[h]
theorem Xh (h:nI s st.t l 7 0=none):p9 s l st=.ok (none,st):=by unfold p9;rw[h]
theorem Dv (b:Nat)(s:fq)(n:Nat)(eT eN:Addr)(g:Px.Ps->Except Nat (Px.Ex×Px.Ps))(hp:xg b s n eT eN 192 g)(hg:Px.Goes s g)(hl:Late g)(hs:s.size<=maxLen):xg b s n eT eN 172 (Px.expr s g):=by
 intro st w hD r;have hb:=r.lt;have HS:Hid (xg b s n eT eN 187 (Px.sum s g)):=Tb b s n eT eN g hp hg hl hs;have H:Hid (Ref.Dom s n st/\Rd w b s st eT eN/\Px.Goes s (Px.sum s g)/\Late (Px.sum s g)):=⟨hD,r,zJ hg,Xa s hl⟩;clear hp hD r hg hl;go_enter func172,ntmps172
 go_wp2_with fail;refine (HS.o st _ H.o.1 H.o.2.1).mono ?_;rintro e w1 ⟨k1,⟨x,st1,v,he,rfl,hv,r1⟩ | ⟨p,hp,ht⟩⟩
 ·obtain ⟨tl,ql,rfl⟩:=jv.form hv;unfold Ref.ptr at hv |-;have H1:Hid (Kp b w w1/\Px.sum s g st=.ok (x,st1)/\jv w1 x (Ref.In w w1) (.iface tl (.pointer (some ⟨ql,0,none⟩)))/\Rd w1 b s st1 eT eN):=⟨k1,he,hv,r1⟩;have G1:Hid (Px.Good s st st1):=H.o.2.2.1 _ _ _ H.o.2.1.tk he;clear k1 he hv r1;go_wp2_with fail;refine (Qj b s 0 st1 eT eN _ H1.o.2.2.2 hs).mono ?_;rintro e w2 ⟨k2,⟨o,st2,v,he,rfl,rfl,r2⟩ | ⟨p,hp,ht⟩⟩
  ·cases hf:nI s st1.t 0 7 0 with
   | none =>
    rw[Xh hf] at he;cases he;have E:Hid (Px.expr s g st=.ok (x,st1)):=by unfold Hid Px.expr;rw[H1.o.2.1];simp only;rw[OT hf]
    have R2:Hid (Kp b w1 w2/\Rd w2 b s st1 eT eN):=⟨k2,r2⟩;clear k2 r2 hf;go_wp2_with fail;go_ret;exact ⟨H1.o.1.trans R2.o.1,ak ⟨x,st1,_,E.o,rfl,jv.kp H1.o.2.2.1 hb R2.o.1,R2.o.2⟩⟩
   | some i =>
    rw[Xg hf] at he;cases he;obtain ⟨hk,o,rfl,hc⟩:=Xf hf;have HC:Hid (st1.t.k=107/\qj s st1.t=some o):=⟨hk,hc⟩;have R2:Hid (Kp b w1 w2/\Rd w2 b s (Px.nx s st1) eT eN):=⟨k2,r2⟩;have D2:Hid (Ref.Dom s n (Px.nx s st1)):=H.o.1.good (G1.o.trans (vg H1.o.2.2.2.tk (by omega) (by omega)))
    clear k2 r2 hf hk hc;go_wp2_with fail;refine (HS.o (Px.nx s st1) _ D2.o R2.o.2).mono ?_;rintro e w3 ⟨k3,⟨y,gV,v,hy,rfl,hv,r3⟩ | ⟨p,hp,ht⟩⟩
    ·obtain ⟨tr,qr,rfl⟩:=jv.form hv;have E:Hid (Px.expr s g st=.ok (⟨o,0,gM,st.t.a,st1.t.a,some x,some y⟩,gV)):=by unfold Hid Px.expr;rw[H1.o.2.1];simp only;rw[HC.o.2];simp only;rw[hy]
     have z2:=R2.o.1.size;have X3:Hid (_):=jv.pair (pl:=st.t.a) (o:=o) (own:=st1.t.a) hb H1.o.2.2.1 (R2.o.1.trans k3) H1.o.1 (jv.mono hv fun i hi=>⟨by have:=hi.1;omega,hi.2⟩)
     have K3:Hid (Kp b w w3/\Rd w3 b s gV eT eN):=⟨(H1.o.1.trans R2.o.1).trans k3,r3⟩;clear k3 hy hv r3;unfold Ref.ptr at X3 |-;go_wp2_with fail;go_ret;exact ⟨K3.o.1.alloc _,ak ⟨_,_,_,E.o,rfl,X3.o,K3.o.2.alloc _⟩⟩
    ·obtain ⟨c,rfl⟩:=ht.form;refine ⟨rfl,(H1.o.1.trans R2.o.1).trans k3,ah ⟨p,?_,ht.low (H1.o.1.trans R2.o.1).size⟩⟩;unfold Px.expr;rw[H1.o.2.1];simp only;rw[HC.o.2];simp only;rcases wZ hp with h1 | ⟨y,gV,h1,h2,rfl⟩
     ·rw[h1];rfl
     ·rw[h1];exact mJ _ h2
  ·obtain ⟨c,rfl⟩:=ht.form;refine ⟨rfl,H1.o.1.trans k2,ah ⟨p,?_,ht.low H1.o.1.size⟩⟩;cases hf:nI s st1.t 0 7 0 with
   | none=>rw[Xh hf] at hp;exact absurd (rR hp).1 H1.o.2.2.2.wX
   | some i =>
    rw[Xg hf] at hp;obtain ⟨h1,rfl⟩:=rR hp;obtain ⟨hk,o,rfl,hc⟩:=Xf hf;unfold Px.expr;rw[H1.o.2.1];simp only;rw[hc];simp only;rcases wZ (H.o.2.2.2 _ h1) with h2 | ⟨y,gV,h2,h3,h4⟩
    ·rw[h2];rfl
    ·rw[h2,h4];exact mJ _ h3
 ·obtain ⟨c,rfl⟩:=ht.form;refine ⟨rfl,k1,ah ⟨p,?_,ht⟩⟩;unfold Px.expr;rcases wZ hp with h1 | ⟨y,gV,h1,h2,rfl⟩
  ·rw[h1];rfl
  ·rw[h1];simp only;rw[Xb h2];exact mJ _ h2
