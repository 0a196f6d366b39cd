import Derived.Test.YtokkhhekekeokaaGreatDoorProg
import Derived.Test.YtokkhhekekeokaaGreatDoorC00
import Derived.WalkLawsBesides
import Derived.Deep.RegionWith
set_option maxRecDepth 100000
set_option maxHeartbeats 4000000
namespace Go.Proofs.YtokkhhekekeokaaGreatDoor
open Go.RowKit Tryz
namespace Ref
open Px
theorem uK {a b:Bool}(h:a=b):Ending.returned (.bool a)=.returned (.bool b):=by rw[h]
theorem Bn (c:UInt8)(w:fu) :
  Calls prog 110 #[.int .u8 c.toNat] w fun e w'=>e=.returned (.bool (ku c))/\w'=w:=by
 have e1:Hid (ku c=(decide (97<=(c.toNat:Int)) && decide ((c.toNat:Int)<=122))):=by
  unfold Hid ku;rw[bA];simp;omega
 go_enter func110,ntmps110
 go_wp2
 all_goals
  go_ret;exact ⟨uK (by rw[e1.o,bA];simp;try omega),rfl⟩
theorem zq (c:UInt8)(w:fu) :
  Calls prog 112 #[.int .u8 c.toNat] w fun e w'=>e=.returned (.bool (kC c))/\w'=w:=by
 have e1:Hid (kC c=(decide (48<=(c.toNat:Int)) && decide ((c.toNat:Int)<=57))):=by
  unfold Hid kC;rw[bA];simp;omega
 go_enter func112,ntmps112
 go_wp2
 all_goals
  go_ret;exact ⟨uK (by rw[e1.o,bA];simp;try omega),rfl⟩
variable {c:UInt8}{b i k n pl q q2:Nat}
theorem sT (hk:k < 12)(h:((((⟨#[61,59,40,41,123,125,60,35,43,45,42,47]⟩:fq)[k]'hk).toNat:Int) == c.toNat)=false)(hno:c ∉ Px.marks.take k):c ∉ Px.marks.take (k+1):=by
 have e:Px.marks.take (k+1)=Px.marks.take k++[(⟨#[61,59,40,41,123,125,60,35,43,45,42,47]⟩:fq)[k]'hk]:=by
  rw[bg (by simpa [Px.marks] using hk)];rfl
 rw[e,bR];rintro (h1 | h1)
 ·exact hno h1
 ·simp only[bq] at h1;exact absurd h (by rw[h1];simp)
theorem sX (hk:k < 12)(h:((((⟨#[61,59,40,41,123,125,60,35,43,45,42,47]⟩:fq)[k]'hk).toNat:Int) == c.toNat)=true):vQ c=true:=by
 have e:c=Px.marks[k]'(by simpa [Px.marks] using hk):=by
  apply UInt8.toNat_inj.1
  have:((⟨#[61,59,40,41,123,125,60,35,43,45,42,47]⟩:fq)[k]'hk).toNat=c.toNat:=by have:=beq_iff_eq.1 h;omega
  rw[<- this];rfl
 unfold vQ;rw[List.contains_iff_mem,e];exact dV _
theorem sY (c:UInt8)(w:fu) :
  Calls prog 113 #[.int .u8 c.toNat] w fun e w'=>e=.returned (.bool (vQ c))/\w'=w:=by
 go_enter func113,ntmps113
 go_wp2;go_loop [4] (fun i=>∃ k:Nat,k<=12/\i=.int .i64 k/\Hid (c ∉ Px.marks.take k)) (fun i=>12 - (intOf i).toNat)
 case atStart=>exact ⟨0,by omega,rfl,by simp[Hid]⟩
 case round =>
  obtain ⟨k,hk,rfl,hno⟩:=hrel;by_cases hlt:k < 12
  ·go_wp2
   ·go_ret;exact ⟨uK (sX hlt ‹_›).symm,rfl⟩
   ·exact ⟨⟨k+1,by omega,by go_num,sT hlt ‹_› hno⟩,by simp[intOf];omega⟩
  ·obtain rfl:k=12:=by omega
   go_wp2;go_ret;exact ⟨uK (by simpa [vQ,Px.marks,Hid] using hno),rfl⟩
theorem tA (h:k<=12):k=0\/k=1\/k=2\/k=3\/k=4\/k=5\/k=6\/k=7\/k=8\/k=9\/k=10\/k=11\/k=12:=by omega
variable {l m:List UInt8}
theorem tB (h:(l == m)=true)(hl:l∈wP):qR m=true:=by
 rw[beq_iff_eq] at h;unfold qR;rw[List.contains_iff_mem,<- h];exact hl
theorem tD (h:(l == m)=false)(hk:k < wP.length)(hl:wP[k]=l)(hno:m ∉ wP.take k):m ∉ wP.take (k+1):=by
 rw[bg hk,bR];rintro (h1 | h1)
 ·exact hno h1
 ·simp only[bq] at h1;rw[h1,hl] at h;simp at h
theorem tE (hno:m ∉ wP.take 12):(m == [110,111,116])=qR m:=by
 unfold qR;rw[bA,List.contains_iff_mem,beq_iff_eq];have e:wP=wP.take 12++[[110,111,116]]:=rfl;constructor
 ·rintro rfl;rw[e];simp
 ·intro h;rw[e,bR] at h;rcases h with h | h
  ·exact absurd h hno
  ·simpa using h
theorem CX (c:fq)(w:fu) :
  Calls prog 111 #[.string c] w fun e w'=>e=.returned (.bool (qR c.toList))/\Below w.heap.size w w':=by
 go_enter func111,ntmps111
 go_wp2;go_loop [4] (fun i=>∃ k:Nat,k<=12/\i=.int .i64 k/\Hid (c.toList ∉ wP.take k)) (fun i=>12 - (intOf i).toNat)
 case atStart=>exact ⟨0,by omega,rfl,by simp[Hid]⟩
 case round =>
  obtain ⟨k,hk,rfl,hno⟩:=hrel;rcases tA hk with rfl | rfl | rfl | rfl | rfl | rfl | rfl | rfl | rfl | rfl | rfl | rfl | rfl
  case inr.inr.inr.inr.inr.inr.inr.inr.inr.inr.inr.inr =>
   go_wp2;go_ret;exact ⟨uK (tE hno),(aH _ _).alloc (aj _) _⟩
  all_goals
   go_wp2
   ·go_ret;exact ⟨uK (tB ‹_› (by simp[wP])).symm,(aH _ _).alloc (aj _) _⟩
   ·exact ⟨⟨_,by decide,rfl,tD ‹_› (by decide) rfl hno⟩,by simp[intOf]⟩
def kY (s:fq)(t:Px.Tok):Array fC:=#[.int .u8 (t.k:Int),.string (s.extract t.a t.b),.int .i64 (t.a:Int),.int .i64 (t.b:Int)]
variable {s:fq}
theorem CY {p:UInt8->Bool}(h:Hid (∀ j (hj:j < s.size),i<=j->j < k->p s[j]=true))(hk:k < s.size)(hp:p s[k]=true) :
  Hid (∀ j (hj:j < s.size),i<=j->j < k+1->p s[j]=true):=by
 intro j hj h1 h2;by_cases e:j=k
 ·subst e;exact hp
 ·exact h j hj h1 (by omega)
theorem tG (h:((c.toNat:Int) == 32)=true):qx c=true:=by
 have:c=32:=UInt8.toNat_inj.1 (by have:=beq_iff_eq.1 h;simp;omega)
 subst this;rfl
theorem tI (h:((c.toNat:Int) == 10)=true):qx c=true:=by
 have:c=10:=UInt8.toNat_inj.1 (by have:=beq_iff_eq.1 h;simp;omega)
 subst this;rfl
theorem tM (h:((c.toNat:Int) == 32)=false)(h':((c.toNat:Int) == 10)=false):qx c=false:=by
 unfold qx;rw[dS];constructor
 ·rw[beq_eq_false_iff_ne];rintro rfl;simp at h
 ·rw[beq_eq_false_iff_ne];rintro rfl;simp at h'
variable {W w w1 w2 w3 wr:fu}
theorem LA (hb:Below W.heap.size W w1):(∀ b o,b < W.heap.size->w1.cell? ⟨b,o,none⟩=W.cell? ⟨b,o,none⟩)/\(∀ b o,b < W.heap.size->w1.frozen? ⟨b,o,none⟩=W.frozen? ⟨b,o,none⟩) :=
 ⟨fun b o h=>hb.cell (p:=⟨b,o,none⟩) h,fun b o h=>hb.frozen (p:=⟨b,o,none⟩) h⟩
variable {t:Px.Tok}
theorem wm (h:Hid (jD qx s i=k))(ht:pJ s k=t):Ending.returned (.agg (kY s t))=.returned (.agg (kY s (Px.tok s i))):=by
 unfold Px.tok;rw[h.o,ht]
theorem CZ (w:fu)(o p:Obj):Below w.heap.size w ((w.alloc o).alloc p):=((aH _ _).alloc (aj _) _).alloc (by simp) _
variable {o p:Obj}
theorem LB {a b c d:fC}{t:TypeId}(h:Below ((w.alloc (.cells #[a,b,c,d] t)).alloc o).heap.size ((w.alloc (.cells #[a,b,c,d] t)).alloc o) w1) :
  (w1.cell? ⟨w.heap.size,0,none⟩).isSome=true/\(w1.cell? ⟨w.heap.size,1,none⟩).isSome=true/\(w1.cell? ⟨w.heap.size,2,none⟩).isSome=true/\(w1.cell? ⟨w.heap.size,3,none⟩).isSome=true:=by
 have hlt:w.heap.size < ((w.alloc (.cells #[a,b,c,d] t)).alloc o).heap.size:=by simp;omega
 rw[h.cell (p:=⟨w.heap.size,0,none⟩) hlt,h.cell (p:=⟨w.heap.size,1,none⟩) hlt,h.cell (p:=⟨w.heap.size,2,none⟩) hlt,h.cell (p:=⟨w.heap.size,3,none⟩) hlt];refine ⟨?_,?_,?_,?_⟩<;>simp[go_sem]
theorem EW (h:Below ((w.alloc o).alloc p).heap.size ((w.alloc o).alloc p) w1)(a b c d:fC) :
  Below w.heap.size w ((((w1.setCell ⟨w.heap.size,0,none⟩ a).setCell ⟨w.heap.size,1,none⟩ b).setCell ⟨w.heap.size,2,none⟩ c).setCell ⟨w.heap.size,3,none⟩ d) :=
 (((((CZ _ _ _).trans (h.mono (by simp;omega))).setCell (aj _) _).setCell (aj _) _).setCell (aj _) _).setCell (aj _) _
theorem wo:(⟨#[]⟩:fq)=ByteArray.empty:=rfl
theorem LC (s:fq)(i:Nat)(w:fu)(hi:i<=s.size)(hs:s.size<=maxLen) :
  Calls prog 83 #[.string s,.int .i64 i] w fun e w'=>e=.returned (.agg (kY s (Px.tok s i)))/\Below w.heap.size w w':=by
 unfold maxLen at hs;go_enter func83,ntmps83
 go_wp2;go_loop [1] (fun x=>∃ k:Nat,i<=k/\k<=s.size/\x=.int .i64 k/\Hid (∀ j (hj:j < s.size),i<=j->j < k->qx s[j]=true)) (fun x=>s.size - (intOf x).toNat)
 case atStart=>exact ⟨i,by omega,hi,rfl,by intro j hj h1 h2;omega⟩
 case round =>
  obtain ⟨k,hk1,hk2,rfl,hall⟩:=hrel;by_cases hlt:k < s.size
  ·cases h32:((s[k].toNat:Int) == 32)
   ·cases h10:((s[k].toNat:Int) == 10)
    ·have hr:Hid (jD qx s i=k):=xP _ _ _ _ hk1 hk2 hall (fun _=>tM h32 h10)
     clear hall;cases hsm:ku s[k]
     ·cases hdg:kC s[k]
      ·cases hmk:vQ s[k]
       all_goals
        go_wp2_with (first | (go_at_call 110;refine (Bn _ _).mono ?_;rintro e w' ⟨rfl,rfl⟩) | (go_at_call 112;refine (zq _ _).mono ?_;rintro e w' ⟨rfl,rfl⟩) | (go_at_call 113;refine (sY _ _).mono ?_;rintro e w' ⟨rfl,rfl⟩))
       ·refine bodyPost_ret (v:=.agg (kY s ⟨63,k,k⟩)) (by simp[results,results83,go_sem,kY,wo]) rfl ⟨wm hr (KQ hlt hsm hdg hmk),?_⟩
        exact CZ _ _ _
       ·refine bodyPost_ret (v:=.agg (kY s ⟨107,k,k+1⟩)) (by simp[results,results83,go_sem,kY,wo]) rfl ⟨wm hr (KP hlt hsm hdg hmk),?_⟩
        exact CZ _ _ _
      ·go_wp2_with (first | (go_at_call 110;refine (Bn _ _).mono ?_;rintro e w' ⟨rfl,rfl⟩) | (go_at_call 112;refine (zq _ _).mono ?_;rintro e w' ⟨rfl,rfl⟩))
       go_loop [5] (fun x=>∃ b:Nat,k<=b/\b<=s.size/\x=.int .i64 b/\Hid (∀ j (hj:j < s.size),k<=j->j < b->kC s[j]=true)) (fun x=>s.size - (intOf x).toNat)
       case atStart=>exact ⟨k,by omega,hk2,rfl,by intro j hj h1 h2;omega⟩
       case round =>
        obtain ⟨b,hb1,hb2,rfl,om⟩:=hrel;have last:(∀ h:b < s.size,kC s[b]=false)->Hid (jD kC s k=b):=fun h=>xP _ _ _ _ hb1 hb2 om h
        by_cases hblt:b < s.size
        ·cases hsb:kC s[b]
         ·have hb:=last (fun _=>hsb)
          clear last om;by_cases h4:4 < b - k
          all_goals
           go_wp2_with (first | (go_at_call 112;refine (zq _ _).mono ?_;rintro e w' ⟨rfl,rfl⟩))
          ·refine bodyPost_ret (v:=.agg (kY s ⟨63,k,k⟩)) (by simp[results,results83,go_sem,kY,wo]) rfl ⟨wm hr (Gu hlt hsm hdg hb.o h4),CZ _ _ _⟩
          ·refine bodyPost_ret (v:=.agg (kY s ⟨110,k,b⟩)) (by simp[results,results83,go_sem,kY,wo]) rfl ⟨wm hr (Gv hlt hsm hdg hb.o h4),CZ _ _ _⟩
         ·clear last;go_wp2_with (first | (go_at_call 112;refine (zq _ _).mono ?_;rintro e w' ⟨rfl,rfl⟩))
          exact ⟨⟨b+1,by omega,by omega,by go_num,CY om hblt hsb⟩,by simp[intOf];omega⟩
        ·have hb:=last (fun h=>absurd h hblt)
         clear last om;by_cases h4:4 < b - k
         all_goals
          go_wp2_with (first | (go_at_call 112;refine (zq _ _).mono ?_;rintro e w' ⟨rfl,rfl⟩))
         ·refine bodyPost_ret (v:=.agg (kY s ⟨63,k,k⟩)) (by simp[results,results83,go_sem,kY,wo]) rfl ⟨wm hr (Gu hlt hsm hdg hb.o h4),CZ _ _ _⟩
         ·refine bodyPost_ret (v:=.agg (kY s ⟨110,k,b⟩)) (by simp[results,results83,go_sem,kY,wo]) rfl ⟨wm hr (Gv hlt hsm hdg hb.o h4),CZ _ _ _⟩
     ·go_wp2_with (first | (go_at_call 110;refine (Bn _ _).mono ?_;rintro e w' ⟨rfl,rfl⟩))
      go_loop [5] (fun x=>∃ b:Nat,k<=b/\b<=s.size/\x=.int .i64 b/\Hid (∀ j (hj:j < s.size),k<=j->j < b->ku s[j]=true)) (fun x=>s.size - (intOf x).toNat)
      case atStart=>exact ⟨k,by omega,hk2,rfl,by intro j hj h1 h2;omega⟩
      case round =>
       obtain ⟨b,hb1,hb2,rfl,om⟩:=hrel;have last:(∀ h:b < s.size,ku s[b]=false)->Hid (jD ku s k=b):=fun h=>xP _ _ _ _ hb1 hb2 om h
       by_cases hblt:b < s.size
       ·cases hsb:ku s[b]
        ·have hb:=last (fun _=>hsb)
         clear last om;cases hkp:qR (s.extract k b).toList
         ·by_cases h8:8 < b - k
          all_goals
           go_wp2_with (first | (go_at_call 110;refine (Bn _ _).mono ?_;rintro e w' ⟨rfl,rfl⟩))
           refine (CX _ _).mono ?_;rintro e w1 ⟨rfl,hbw⟩;obtain ⟨hcw,hfw⟩:=LA hbw;obtain ⟨i0,i1,i2,i3⟩:=LB hbw;have OH:w.heap.size+1 < w1.heap.size:=by have:=hbw.size;simp at this;omega
           go_wp2
          ·refine bodyPost_ret (v:=.agg (kY s ⟨63,k,k⟩)) (by simp[results,results83,go_sem,kY,wo,i0,i1,i2,i3]) rfl ⟨wm hr (Gs hlt hsm hb.o hkp h8),?_⟩
           exact EW hbw _ _ _ _
          ·refine bodyPost_ret (v:=.agg (kY s ⟨119,k,b⟩)) (by simp[results,results83,go_sem,kY,wo,i0,i1,i2,i3]) rfl ⟨wm hr (Gt hlt hsm hb.o hkp h8),?_⟩
           exact EW hbw _ _ _ _
         ·go_wp2_with (first | (go_at_call 110;refine (Bn _ _).mono ?_;rintro e w' ⟨rfl,rfl⟩))
          refine (CX _ _).mono ?_;rintro e w1 ⟨rfl,hbw⟩;obtain ⟨hcw,hfw⟩:=LA hbw;obtain ⟨i0,i1,i2,i3⟩:=LB hbw;have OH:w.heap.size+1 < w1.heap.size:=by have:=hbw.size;simp at this;omega
          go_wp2;refine bodyPost_ret (v:=.agg (kY s ⟨107,k,b⟩)) (by simp[results,results83,go_sem,kY,wo,i0,i1,i2,i3]) rfl ⟨wm hr (Gq hlt hsm hb.o hkp),?_⟩
          exact EW hbw _ _ _ _
        ·clear last;go_wp2_with (first | (go_at_call 110;refine (Bn _ _).mono ?_;rintro e w' ⟨rfl,rfl⟩))
         exact ⟨⟨b+1,by omega,by omega,by go_num,CY om hblt hsb⟩,by simp[intOf];omega⟩
       ·have hb:=last (fun h=>absurd h hblt)
        clear last om;cases hkp:qR (s.extract k b).toList
        ·by_cases h8:8 < b - k
         all_goals
          go_wp2_with (first | (go_at_call 110;refine (Bn _ _).mono ?_;rintro e w' ⟨rfl,rfl⟩))
          refine (CX _ _).mono ?_;rintro e w1 ⟨rfl,hbw⟩;obtain ⟨hcw,hfw⟩:=LA hbw;obtain ⟨i0,i1,i2,i3⟩:=LB hbw;have OH:w.heap.size+1 < w1.heap.size:=by have:=hbw.size;simp at this;omega
          go_wp2
         ·refine bodyPost_ret (v:=.agg (kY s ⟨63,k,k⟩)) (by simp[results,results83,go_sem,kY,wo,i0,i1,i2,i3]) rfl ⟨wm hr (Gs hlt hsm hb.o hkp h8),?_⟩
          exact EW hbw _ _ _ _
         ·refine bodyPost_ret (v:=.agg (kY s ⟨119,k,b⟩)) (by simp[results,results83,go_sem,kY,wo,i0,i1,i2,i3]) rfl ⟨wm hr (Gt hlt hsm hb.o hkp h8),?_⟩
          exact EW hbw _ _ _ _
        ·go_wp2_with (first | (go_at_call 110;refine (Bn _ _).mono ?_;rintro e w' ⟨rfl,rfl⟩))
         refine (CX _ _).mono ?_;rintro e w1 ⟨rfl,hbw⟩;obtain ⟨hcw,hfw⟩:=LA hbw;obtain ⟨i0,i1,i2,i3⟩:=LB hbw;have OH:w.heap.size+1 < w1.heap.size:=by have:=hbw.size;simp at this;omega
         go_wp2;refine bodyPost_ret (v:=.agg (kY s ⟨107,k,b⟩)) (by simp[results,results83,go_sem,kY,wo,i0,i1,i2,i3]) rfl ⟨wm hr (Gq hlt hsm hb.o hkp),?_⟩
         exact EW hbw _ _ _ _
    ·go_wp2;exact ⟨⟨k+1,by omega,by omega,by go_num,CY hall hlt (tI h10)⟩,by simp[intOf];omega⟩
   ·go_wp2;exact ⟨⟨k+1,by omega,by omega,by go_num,CY hall hlt (tG h32)⟩,by simp[intOf];omega⟩
  ·have hr:Hid (jD qx s i=k):=xP _ _ _ _ hk1 hk2 hall (fun h=>absurd h hlt)
   obtain rfl:k=s.size:=by omega
   go_wp2;refine bodyPost_ret (v:=.agg (kY s ⟨0,s.size,s.size⟩)) (by simp[results,results83,go_sem,kY,wo]) rfl ⟨wm hr (KO (by omega)),(aH _ _).alloc (aj _) _⟩
structure fQ (w:fu)(b:Nat)(s:fq)(t:Px.Tok)(bad fF fH:Int):Prop where
 h:w.heap[b]?=some (.cells #[.string s,.int .u8 (t.k:Int),.string (s.extract t.a t.b),.int .i64 (t.a:Int),.int .i64 (t.b:Int),.int .i64 bad,.int .i64 fF,.int .i64 fH] 182)
variable {bad fH fF:Int}
theorem fQ.cells (p:fQ w b s t bad fF fH) :
  w.cell? ⟨b,0,none⟩=some (.string s)/\w.cell? ⟨b,1,none⟩=some (.int .u8 (t.k:Int))/\w.cell? ⟨b,2,none⟩=some (.string (s.extract t.a t.b))/\w.cell? ⟨b,3,none⟩=some (.int .i64 (t.a:Int)) /\
  w.cell? ⟨b,4,none⟩=some (.int .i64 (t.b:Int))/\w.cell? ⟨b,5,none⟩=some (.int .i64 bad)/\w.cell? ⟨b,6,none⟩=some (.int .i64 fF)/\w.cell? ⟨b,7,none⟩=some (.int .i64 fH)/\(∀ o,w.frozen? ⟨b,o,none⟩=false)/\b < w.heap.size:=by
 have hb:b < w.heap.size:=by
  rcases dD b w.heap.size with hb | hb
  ·exact hb
  ·have:=p.h;simp[hb] at this
 refine ⟨?_,?_,?_,?_,?_,?_,?_,?_,?_,hb⟩<;>simp[World.cell?,World.frozen?,p.h]
theorem fQ.lt (p:fQ w b s t bad fF fH):b < w.heap.size:=p.cells.2.2.2.2.2.2.2.2.2
theorem fQ.later {B:Nat}(p:fQ w b s t bad fF fH)(h:Below B w w1)(hB:b < B):fQ w1 b s t bad fF fH:=⟨by rw[h.block b hB];exact p.h⟩
theorem fQ.alloc {w:fu}{b:Nat}{s:fq}{t:Px.Tok}{bad fF fH:Int}(p:fQ w b s t bad fF fH)(o:Obj):fQ (w.alloc o) b s t bad fF fH:=p.later ((aH _ _).alloc (aj _) _) p.lt
theorem fQ.drew {w:fu}{b:Nat}{s:fq}{t:Px.Tok}{bad fF fH:Int}(p:fQ w b s t bad fF fH):fQ w.drew b s t bad fF fH:=⟨p.h⟩
theorem fQ.gI {o:Nat}(p:fQ w b s t bad fF fH)(h:b≠k)(v:fC):fQ (w.setCell ⟨k,o,none⟩ v) b s t bad fF fH:=⟨by rw[bL _ _ _ _ h];exact p.h⟩
theorem heap_set {o:Nat}{c:Array fC}{t:TypeId}{f:Nat×Nat}(v:fC)(h:w.heap[b]?=some (.cells c t f)):(w.setCell ⟨b,o,none⟩ v).heap[b]?=some (.cells (c.setIfInBounds o v) t f):=by
 simp[World.setCell,Array.getElem?_modify,h]
theorem jr {o:Nat}(v:fC)(h:b≠k):(w.setCell ⟨k,o,none⟩ v).heap[b]?=w.heap[b]?:=bL _ _ _ _ h
theorem vD (b:Nat)(s x:fq)(t:Px.Tok)(fF fH:Int)(w:fu)(p:fQ w b s t (-1) fF fH) :
  Calls prog 156 #[.pointer (some ⟨b,0,none⟩),.string x] w fun e w'=>e=.returned (.bool (gy s t x))/\w=w':=by
 obtain ⟨c0,c1,c2,c3,c4,c5,c6,c7,f,hb⟩:=p.cells;clear p;cases hk:((t.k:Int) == 107)
 all_goals
  go_enter func156,ntmps156
  go_wp2;go_ret
 ·exact ⟨uK (by unfold gy;rw[(by rw[beq_eq_false_iff_ne] at hk |-;omega:(t.k == 107)=false)];rfl),rfl⟩
 ·exact ⟨uK (by unfold gy;rw[(by rw[beq_iff_eq] at hk |-;omega:(t.k == 107)=true)];rfl),rfl⟩
theorem C9 (b:Nat)(s x:fq)(t:Px.Tok)(bad fF fH:Int)(w:fu)(p:fQ w b s t bad fF fH)(h0:0<=bad) :
  Calls prog 156 #[.pointer (some ⟨b,0,none⟩),.string x] w fun e w'=>e=.returned (.bool false)/\w=w':=by
 obtain ⟨c0,c1,c2,c3,c4,c5,c6,c7,f,hb⟩:=p.cells;clear p;go_enter func156,ntmps156
 go_wp2;go_ret;exact ⟨rfl,rfl⟩
theorem G5 (b:Nat)(s:fq)(t:Px.Tok)(fF fH:Int)(w:fu)(p:fQ w b s t (-1) fF fH) :
  Calls prog 158 #[.pointer (some ⟨b,0,none⟩)] w fun e w'=>e=.returned (.tuple #[])/\fQ w' b s t t.a fF fH/\Kp b w w':=by
 obtain ⟨c0,c1,c2,c3,c4,c5,c6,c7,f,hb⟩:=p.cells;have H:=p.h;have HH:Hid (_):=H;clear p H;go_enter func158,ntmps158
 go_wp2;go_end0
 exact ⟨rfl,⟨by rw[heap_set _ HH.o];simp⟩,(Kp.refl _ _).jC _⟩
theorem OI (b:Nat)(s:fq)(t:Px.Tok)(bad fF fH:Int)(w:fu)(p:fQ w b s t bad fF fH)(h0:0<=bad) :
  Calls prog 158 #[.pointer (some ⟨b,0,none⟩)] w fun e w'=>e=.returned (.tuple #[])/\w=w':=by
 obtain ⟨c0,c1,c2,c3,c4,c5,c6,c7,f,hb⟩:=p.cells;clear p;go_enter func158,ntmps158
 go_wp2;go_end0
 exact ⟨rfl,rfl⟩
theorem VH (b:Nat)(s:fq)(t:Px.Tok)(fF fH:Int)(w:fu)(p:fQ w b s t (-1) fF fH)(hn:0<=fF)(hn':fF<=1000000) :
  Calls prog 160 #[.pointer (some ⟨b,0,none⟩)] w fun e w'=>e=.returned (.tuple #[])/\fQ w' b s t (-1) (fF+1) (rW fF fH t.a)/\Kp b w w':=by
 obtain ⟨c0,c1,c2,c3,c4,c5,c6,c7,f,hb⟩:=p.cells;have H:=p.h;have HH:Hid (_):=H;clear p H;by_cases h4:4<=fF
 ·by_cases hd:fH < 0
  ·go_enter func160,ntmps160
   go_wp2;go_end0
   exact ⟨rfl,⟨by rw[rW,if_pos ⟨h4,hd⟩,heap_set _ (heap_set _ HH.o)];simp⟩,((Kp.refl _ _).jC _).jC _⟩
  ·go_enter func160,ntmps160
   go_wp2;go_end0
   exact ⟨rfl,⟨by rw[rW,if_neg (by omega),heap_set _ HH.o];simp⟩,(Kp.refl _ _).jC _⟩
 ·go_enter func160,ntmps160
  go_wp2;go_end0
  exact ⟨rfl,⟨by rw[rW,if_neg (by omega),heap_set _ HH.o];simp⟩,(Kp.refl _ _).jC _⟩
theorem OJ (b:Nat)(s:fq)(t:Px.Tok)(bad fF fH:Int)(w:fu)(p:fQ w b s t bad fF fH) :
  Calls prog 161 #[.pointer (some ⟨b,0,none⟩)] w fun e w'=>e=.returned (.tuple #[])/\fQ w' b s t bad (wrap64 (fF - 1)) fH/\Kp b w w':=by
 obtain ⟨c0,c1,c2,c3,c4,c5,c6,c7,f,hb⟩:=p.cells;have H:=p.h;have HH:Hid (_):=H;clear p H;go_enter func161,ntmps161
 go_wp2;go_end0
 exact ⟨rfl,⟨by rw[heap_set _ HH.o];simp⟩,(Kp.refl _ _).jC _⟩
theorem vF (b:Nat)(s:fq)(t:Px.Tok)(fF fH:Int)(w:fu)(p:fQ w b s t (-1) fF fH)(ht:t.b<=s.size)(hs:s.size<=maxLen) :
  Calls prog 157 #[.pointer (some ⟨b,0,none⟩)] w fun e w'=>e=.returned (.agg (kY s t))/\fQ w' b s (Px.tok s t.b) (-1) fF fH/\Kp b w w':=by
 obtain ⟨c0,c1,c2,c3,c4,c5,c6,c7,f,hb⟩:=p.cells;have P2:=(fun (o q:Obj)=>((p.alloc o).alloc q).drew)
 have HP:Hid (_):=P2;clear p P2;go_enter func157,ntmps157
 go_wp2;go_region_with (go_at_call 83;refine (LC s t.b _ ht hs).mono ?_;unfold kY;rintro e w1 ⟨rfl,hbw⟩;have p1:=(HP.o _ _).later hbw (by simp;omega);obtain ⟨d0,d1,d2,d3,d4,d5,d6,d7,df,hdb⟩:=p1.cells;have hp1:Hid (fQ w1 b s t (-1) fF fH):=p1;clear p1;obtain ⟨n0,n1⟩:=Z7 (w:=w) (by rfl) hbw;obtain ⟨a0,a1,a2,a3,af⟩:=pq n0;obtain ⟨g0,g1,g2,g3,gf⟩:=pq n1;clear n0 n1)
 all_goals
  have hne:¬ w.heap.size=b:=by omega
  have hne':¬ w.heap.size+1=b:=by omega
  go_wp2;refine bodyPost_ret (v:=.agg (kY s t)) (by simp[results,results157,go_sem,kY, *]) rfl ⟨rfl,?_,?_⟩
  ·exact ⟨by rw[jr _ (by omega),jr _ (by omega),jr _ (by omega),jr _ (by omega),heap_set _ (heap_set _ (heap_set _ (heap_set _ hp1.o.h)))];simp⟩
  ·exact (((((((((((Kp.refl b w).alloc _).alloc _).drew.below hbw).jC _).jC _).jC _).jC _).gI (aj _) _).gI (aj _) _).gI (aj _) _).gI (aj _) _
theorem Db (b:Nat)(s x:fq)(t:Px.Tok)(fF fH:Int)(w:fu)(p:fQ w b s t (-1) fF fH)(ht:t.b<=s.size)(hs:s.size<=maxLen)(ho:gy s t x=true) :
  Calls prog 114 #[.pointer (some ⟨b,0,none⟩),.string x] w fun e w'=>e=.returned (.bool true)/\fQ w' b s (Px.tok s t.b) (-1) fF fH/\Kp b w w':=by
 have HP:Hid (_):=p;clear p;go_enter func114,ntmps114
 go_wp2_with fail;refine (vD b s x t fF fH _ HP.o).mono ?_;rintro e w' ⟨rfl,rfl⟩;go_wp2_with fail;refine (vF b s t fF fH _ HP.o ht hs).mono ?_;rintro e w1 ⟨rfl,p1,k1⟩;have P1:Hid (_/\_):=⟨p1,k1⟩;clear p1 k1;go_wp2_with fail;go_ret;exact ⟨rfl,P1.o⟩
theorem sV (b:Nat)(s x:fq)(t:Px.Tok)(fF fH:Int)(w:fu)(p:fQ w b s t (-1) fF fH)(ho:gy s t x=false) :
  Calls prog 114 #[.pointer (some ⟨b,0,none⟩),.string x] w fun e w'=>e=.returned (.bool false)/\w=w':=by
 have HP:Hid (_):=p;clear p;go_enter func114,ntmps114
 go_wp2_with fail;refine (vD b s x t fF fH _ HP.o).mono ?_;rintro e w' ⟨rfl,rfl⟩;go_wp2_with fail;go_ret;exact ⟨rfl,rfl⟩
theorem VI (b:Nat)(s x:fq)(t:Px.Tok)(bad fF fH:Int)(w:fu)(p:fQ w b s t bad fF fH)(h0:0<=bad) :
  Calls prog 114 #[.pointer (some ⟨b,0,none⟩),.string x] w fun e w'=>e=.returned (.bool false)/\w=w':=by
 have HP:Hid (_):=p;clear p;go_enter func114,ntmps114
 go_wp2_with fail;refine (C9 b s x t bad fF fH _ HP.o h0).mono ?_;rintro e w' ⟨rfl,rfl⟩;go_wp2_with fail;go_ret;exact ⟨rfl,rfl⟩
theorem VJ (b:Nat)(s x:fq)(t:Px.Tok)(fF fH:Int)(w:fu)(p:fQ w b s t (-1) fF fH)(ht:t.b<=s.size)(hs:s.size<=maxLen)(ho:gy s t x=true) :
  Calls prog 116 #[.pointer (some ⟨b,0,none⟩),.string x] w fun e w'=>e=.returned (.tuple #[])/\fQ w' b s (Px.tok s t.b) (-1) fF fH/\Kp b w w':=by
 have HP:Hid (_):=p;clear p;go_enter func116,ntmps116
 go_wp2_with fail;refine (Db b s x t fF fH _ HP.o ht hs ho).mono ?_;rintro e w1 ⟨rfl,p1,k1⟩;have P1:Hid (_/\_):=⟨p1,k1⟩;clear p1 k1;go_wp2_with fail;go_end0
 exact ⟨rfl,P1.o⟩
theorem tP (b:Nat)(s x:fq)(t:Px.Tok)(fF fH:Int)(w:fu)(p:fQ w b s t (-1) fF fH)(ho:gy s t x=false) :
  Calls prog 116 #[.pointer (some ⟨b,0,none⟩),.string x] w fun e w'=>e=.returned (.tuple #[])/\fQ w' b s t t.a fF fH/\Kp b w w':=by
 have HP:Hid (_):=p;clear p;go_enter func116,ntmps116
 go_wp2_with fail;refine (sV b s x t fF fH _ HP.o ho).mono ?_;rintro e w1 ⟨rfl,rfl⟩;go_wp2_with fail;refine (G5 b s t fF fH _ HP.o).mono ?_;rintro e w1 ⟨rfl,p1,k1⟩;have P1:Hid (_/\_):=⟨p1,k1⟩;clear p1 k1;go_wp2_with fail;go_end0
 exact ⟨rfl,P1.o⟩
theorem VK (b:Nat)(s x:fq)(t:Px.Tok)(bad fF fH:Int)(w:fu)(p:fQ w b s t bad fF fH)(h0:0<=bad) :
  Calls prog 116 #[.pointer (some ⟨b,0,none⟩),.string x] w fun e w'=>e=.returned (.tuple #[])/\w=w':=by
 have HP:Hid (_):=p;clear p;go_enter func116,ntmps116
 go_wp2_with fail;refine (VI b s x t bad fF fH _ HP.o h0).mono ?_;rintro e w1 ⟨rfl,rfl⟩;go_wp2_with fail;refine (OI b s t bad fF fH _ HP.o h0).mono ?_;rintro e w1 ⟨rfl,rfl⟩;go_wp2_with fail;go_end0
 exact ⟨rfl,rfl⟩
theorem tR (b:Nat)(s:fq)(k:Nat)(t:Px.Tok)(fF fH:Int)(w:fu)(p:fQ w b s t (-1) fF fH)(ht:t.b<=s.size)(hs:s.size<=maxLen)(ho:(t.k:Int)=k) :
  Calls prog 115 #[.pointer (some ⟨b,0,none⟩),.int .u8 k] w fun e w'=>e=.returned (.agg (kY s t))/\fQ w' b s (Px.tok s t.b) (-1) fF fH/\Kp b w w':=by
 obtain ⟨c0,c1,c2,c3,c4,c5,c6,c7,f,hb⟩:=p.cells;have HP:Hid (∀ o:Obj,fQ (w.alloc o) b s t (-1) fF fH):=fun o=>p.alloc o
 have hk:((t.k:Int) != k)=false:=by simp[ho]
 have HO:Hid (_):=ho;clear p ho;go_enter func115,ntmps115
 go_wp2_with fail;refine (vF b s t fF fH _ (HP.o _) ht hs).mono ?_;unfold kY;rintro e w1 ⟨rfl,p1,k1⟩;obtain ⟨a0,a1,a2,a3,af⟩:=pq (xQ k1 hb);have P1:Hid (_/\_):=⟨p1,k1⟩;clear p1 k1;go_wp2_with fail;refine bodyPost_ret (v:=.agg (kY s t)) (by simp[results,results115,go_sem,kY, *]) rfl ⟨rfl,?_,?_⟩
 ·exact (((P1.o.1.gI (by omega) _).gI (by omega) _).gI (by omega) _).gI (by omega) _
 ·exact (((P1.o.2.vR.gI (aj _) _).gI (aj _) _).gI (aj _) _).gI (aj _) _
def Dc:Array fC:=#[.int .u8 0,.string ⟨#[]⟩,.int .i64 0,.int .i64 0]
theorem tS (b:Nat)(s:fq)(k:Nat)(t:Px.Tok)(fF fH:Int)(w:fu)(p:fQ w b s t (-1) fF fH)(ho:(t.k:Int)≠k) :
  Calls prog 115 #[.pointer (some ⟨b,0,none⟩),.int .u8 k] w fun e w'=>e=.returned (.agg Dc)/\fQ w' b s t t.a fF fH/\Kp b w w':=by
 obtain ⟨c0,c1,c2,c3,c4,c5,c6,c7,f,hb⟩:=p.cells;have HP:Hid (∀ o:Obj,fQ (w.alloc o) b s t (-1) fF fH):=fun o=>p.alloc o
 have hk:((t.k:Int) != k)=true:=by simp[ho]
 clear p ho;go_enter func115,ntmps115
 go_wp2_with fail;refine (G5 b s t fF fH _ (HP.o _)).mono ?_;rintro e w1 ⟨rfl,p1,k1⟩;obtain ⟨a0,a1,a2,a3,af⟩:=pq (xQ k1 hb);have P1:Hid (_/\_):=⟨p1,k1⟩;clear p1 k1;go_wp2_with fail;refine bodyPost_ret (v:=.agg Dc) (by simp[results,results115,go_sem,Dc, *]) rfl ⟨rfl,?_,?_⟩
 ·exact (((P1.o.1.gI (by omega) _).gI (by omega) _).gI (by omega) _).gI (by omega) _
 ·exact (((P1.o.2.vR.gI (aj _) _).gI (aj _) _).gI (aj _) _).gI (aj _) _
theorem tU (b:Nat)(s:fq)(k:Nat)(t:Px.Tok)(bad fF fH:Int)(w:fu)(p:fQ w b s t bad fF fH)(h0:0<=bad) :
  Calls prog 115 #[.pointer (some ⟨b,0,none⟩),.int .u8 k] w fun e w'=>e=.returned (.agg Dc)/\fQ w' b s t bad fF fH/\Kp b w w':=by
 obtain ⟨c0,c1,c2,c3,c4,c5,c6,c7,f,hb⟩:=p.cells;have HP:Hid (∀ o:Obj,fQ (w.alloc o) b s t bad fF fH):=fun o=>p.alloc o
 clear p;go_enter func115,ntmps115
 go_wp2_with fail;refine (OI b s t bad fF fH _ (HP.o _) h0).mono ?_;rintro e w1 ⟨rfl,rfl⟩;go_wp2_with fail;refine bodyPost_ret (v:=.agg Dc) (by simp[results,results115,go_sem,Dc, *]) rfl ⟨rfl,?_,?_⟩
 ·exact HP.o _
 ·exact (Kp.refl _ _).alloc _
def ig (w:fu):Px.Ex->(Nat->Prop)->Nat->Prop
 | ⟨op,n,fD,pl,own,none,none⟩,ok,q=>ok q/\w.heap[q]?=some (.cells #[.int .u8 (op:Int),.int .i64 (n:Int),.string fD,.int .i64 (pl:Int),.int .i64 (own:Int),.slice none 0 0] 260)
 | ⟨op,n,fD,pl,own,some l,none⟩,ok,q=>ok q/\∃ kb lq,ok kb/\kb≠q/\w.heap[q]?=some (.cells #[.int .u8 (op:Int),.int .i64 (n:Int),.string fD,.int .i64 (pl:Int),.int .i64 (own:Int),.slice (some ⟨kb,0,none⟩) 1 1] 260) /\
   w.heap[kb]?=some (.cells #[.pointer (some ⟨lq,0,none⟩)] 248)/\ig w l (fun k=>ok k/\k≠q/\k≠kb) lq
 | ⟨op,n,fD,pl,own,some l,some r⟩,ok,q=>ok q/\∃ kb lq rq,ok kb/\kb≠q/\w.heap[q]?=some (.cells #[.int .u8 (op:Int),.int .i64 (n:Int),.string fD,.int .i64 (pl:Int),.int .i64 (own:Int),.slice (some ⟨kb,0,none⟩) 2 2] 260) /\
   w.heap[kb]?=some (.cells #[.pointer (some ⟨lq,0,none⟩),.pointer (some ⟨rq,0,none⟩)] 248)/\ig w l (fun k=>ok k/\k≠q/\k≠kb) lq/\ig w r (fun k=>ok k/\k≠q/\k≠kb) rq
 | ⟨_,_,_,_,_,none,some _⟩,_,_=>False
theorem ig.mono {w:fu}{x:Px.Ex}{ok ok':Nat->Prop}{q:Nat}(h:ig w x ok q)(hk:∀ k,ok k->ok' k):ig w x ok' q:=by
 match x with
 | ⟨op,n,fD,pl,own,none,none⟩=>exact ⟨hk _ h.1,h.2⟩
 | ⟨op,n,fD,pl,own,some l,none⟩ =>
  obtain ⟨h1,kb,lq,h2,h3,h4,h5,h6⟩:=h;exact ⟨hk _ h1,kb,lq,hk _ h2,h3,h4,h5,h6.mono fun k hk'=>⟨hk _ hk'.1,hk'.2⟩⟩
 | ⟨op,n,fD,pl,own,some l,some r⟩ =>
  obtain ⟨h1,kb,lq,rq,h2,h3,h4,h5,h6,h7⟩:=h;exact ⟨hk _ h1,kb,lq,rq,hk _ h2,h3,h4,h5,h6.mono fun k hk'=>⟨hk _ hk'.1,hk'.2⟩,h7.mono fun k hk'=>⟨hk _ hk'.1,hk'.2⟩⟩
 | ⟨_,_,_,_,_,none,some _⟩=>exact h.elim
theorem ig.keep {w w':fu}{x:Px.Ex}{ok:Nat->Prop}{q:Nat}(h:ig w x ok q)(hk:∀ k,ok k->w'.heap[k]?=w.heap[k]?):ig w' x ok q:=by
 match x with
 | ⟨op,n,fD,pl,own,none,none⟩=>exact ⟨h.1,by rw[hk _ h.1];exact h.2⟩
 | ⟨op,n,fD,pl,own,some l,none⟩ =>
  obtain ⟨h1,kb,lq,h2,h3,h4,h5,h6⟩:=h;exact ⟨h1,kb,lq,h2,h3,by rw[hk _ h1];exact h4,by rw[hk _ h2];exact h5,h6.keep fun k hk'=>hk _ hk'.1⟩
 | ⟨op,n,fD,pl,own,some l,some r⟩ =>
  obtain ⟨h1,kb,lq,rq,h2,h3,h4,h5,h6,h7⟩:=h;exact ⟨h1,kb,lq,rq,h2,h3,by rw[hk _ h1];exact h4,by rw[hk _ h2];exact h5,h6.keep fun k hk'=>hk _ hk'.1,h7.keep fun k hk'=>hk _ hk'.1⟩
 | ⟨_,_,_,_,_,none,some _⟩=>exact h.elim
variable {x:Px.Ex}{ok:Nat->Prop}
theorem ig.root (h:ig w x ok q):ok q/\∃ v,w.heap[q]?=some (.cells #[.int .u8 (x.op:Int),.int .i64 (x.n:Int),.string x.fD,.int .i64 (x.pl:Int),.int .i64 (x.own:Int),v] 260):=by
 match x with
 | ⟨op,n,fD,pl,own,none,none⟩=>exact ⟨h.1,_,h.2⟩
 | ⟨op,n,fD,pl,own,some l,none⟩ =>
  obtain ⟨h1,kb,lq,h2,h3,h4,h5,h6⟩:=h;exact ⟨h1,_,h4⟩
 | ⟨op,n,fD,pl,own,some l,some r⟩ =>
  obtain ⟨h1,kb,lq,rq,h2,h3,h4,h5,h6,h7⟩:=h;exact ⟨h1,_,h4⟩
 | ⟨_,_,_,_,_,none,some _⟩=>exact h.elim
theorem ig.fE (h:ig w x ok q)(a:Nat):ig (w.setCell ⟨q,3,none⟩ (.int .i64 (a:Int))) { x with pl:=a } ok q:=by
 match x with
 | ⟨op,n,fD,pl,own,none,none⟩=>exact ⟨h.1,by rw[heap_set _ h.2];simp⟩
 | ⟨op,n,fD,pl,own,some l,none⟩ =>
  obtain ⟨h1,kb,lq,h2,h3,h4,h5,h6⟩:=h;exact ⟨h1,kb,lq,h2,h3,by rw[heap_set _ h4];simp,by rw[jr _ h3];exact h5,h6.keep fun k hk'=>jr _ hk'.2.1⟩
 | ⟨op,n,fD,pl,own,some l,some r⟩ =>
  obtain ⟨h1,kb,lq,rq,h2,h3,h4,h5,h6,h7⟩:=h;exact ⟨h1,kb,lq,rq,h2,h3,by rw[heap_set _ h4];simp,by rw[jr _ h3];exact h5,h6.keep fun k hk'=>jr _ hk'.2.1,h7.keep fun k hk'=>jr _ hk'.2.1⟩
 | ⟨_,_,_,_,_,none,some _⟩=>exact h.elim
def In (w w':fu)(k:Nat):Prop:=w.heap.size<=k/\k < w'.heap.size
theorem ig.kp (h:ig w1 x (In w w1) q)(hb:b < w.heap.size)(k:Kp b w1 w2):ig w2 x (In w w1) q :=
 h.keep fun i hi=>k.block i hi.2 (by have:=hi.1;omega)
variable {h:Array Obj}
theorem LD (hk:k < h.size):((h.push o).push p)[k]?=h[k]?:=by
 rw[aB,if_neg (by simp;omega),aB,if_neg (by omega)]
theorem G6:((h.push o).push p)[h.size]?=some o:=by
 rw[aB,if_neg (by simp),aB,if_pos rfl]
theorem wV:((h.push o).push p)[h.size+1]?=some p:=by
 rw[aB,if_pos (by simp)]
theorem ig.pair {wq:fu}{y:Px.Ex}{o own:Nat}(hx:ig w3 x (In w wr) q)(hy:ig w3 y (In wq w3) q2)(h1:w.heap.size<=wq.heap.size)(h2:wr.heap.size<=w3.heap.size)(h3:w.heap.size<=w3.heap.size)(hW:W.heap=(w3.heap.push (.cells #[.pointer (some ⟨q,0,none⟩),.pointer (some ⟨q2,0,none⟩)] 248)).push (.cells #[.int .u8 (o:Int),.int .i64 0,.string ⟨#[]⟩,.int .i64 (pl:Int),.int .i64 (own:Int),.slice (some ⟨w3.heap.size,0,none⟩) 2 2] 260)) :
  ig W ⟨o,0,gM,pl,own,some x,some y⟩ (In w W) (w3.heap.size+1):=by
 have hz:W.heap.size=w3.heap.size+2:=by rw[hW];simp
 refine ⟨⟨by omega,by omega⟩,w3.heap.size,q,q2,⟨by omega,by omega⟩,by omega,?_,?_,?_,?_⟩
 ·rw[hW];exact wV
 ·rw[hW];exact G6
 ·exact (hx.keep fun k hk=>by rw[hW];exact LD (by have:=hk.2;omega)).mono fun k hk=>⟨⟨hk.1,by have:=hk.2;omega⟩,by have:=hk.2;omega,by have:=hk.2;omega⟩
 ·exact (hy.keep fun k hk=>by rw[hW];exact LD (by have:=hk.2;omega)).mono fun k hk=>⟨⟨by have:=hk.1;omega,by have:=hk.2;omega⟩,by have:=hk.2;omega,by have:=hk.2;omega⟩
def mQ (b:Nat)(s:fq)(w:fu)(r:Except Nat (Px.Ex×Px.Ps))(e:Ending)(w':fu):Prop :=
 Kp b w w'/\∃ q,e=.returned (.pointer (some ⟨q,0,none⟩)) /\
  match r with
  | .ok (x,st)=>ig w' x (In w w') q/\fQ w' b s st.t (-1) st.fF st.fH
  | .error p=>w.heap.size<=q/\(∃ v0 v1 v2 v3 v4 v5,w'.heap[q]?=some (.cells #[v0,v1,v2,v3,v4,v5] 260))/\∃ t fF fH,fQ w' b s t (p:Int) fF fH
theorem OL (l:List UInt8)(n:Nat):(∀ c∈l,c.toNat<=57)->l.foldl (fun n c=>10 * n+(c.toNat - 48)) n<=(n+1) * 10 ^ l.length - 1:=by
 induction l generalizing n with
 | nil=>intro _;simp
 | cons c l ih =>
  intro h;have h1:=h c (by simp)
  have h2:=ih (10 * n+(c.toNat - 48)) (fun d hd=>h d (by simp[hd]))
  simp only[List.foldl_cons,aC];refine aP h2 ?_
  have:(10 * n+(c.toNat - 48)+1) * 10 ^ l.length<=(n+1) * 10 ^ (l.length+1):=by
   rw[Nat.pow_succ,<- Nat.mul_assoc,Nat.mul_right_comm];exact Nat.mul_le_mul_right _ (by omega)
  omega
theorem VN (l:List UInt8)(c:UInt8):Px.valOf (l++[c])=10 * Px.valOf l+(c.toNat - 48):=by
 simp[Px.valOf]
theorem LG {k:IntKind}{a b:Int}(h:a=b):Ending.returned (.int k a)=.returned (.int k b):=by rw[h]
theorem VO (s:fq)(k:Nat)(h:k < s.size):s.data.toList.take (k+1)=s.data.toList.take k++[s[k]]:=by
 rw[bg (by simpa using h)];rfl
theorem OM (x:fq)(w:fu)(hx:x.size<=4)(hd:∀ j (hj:j < x.size),kC x[j]=true) :
  Calls prog 120 #[.string x] w fun e w'=>e=.returned (.int .i64 (Px.valOf x.toList:Nat))/\w'=w:=by
 have HD:Hid (_):=hd;clear hd;go_enter func120,ntmps120
 go_wp2;go_loop [3,4] (fun n i=>∃ k v:Nat,k<=x.size/\i=.int .i64 k/\n=.int .i64 v/\Hid (v=Px.valOf (x.data.toList.take k))) (fun _ i=>x.size - (intOf i).toNat)
 case atStart=>exact ⟨0,0,by omega,rfl,rfl,rfl⟩
 case round =>
  obtain ⟨k,v,hk,rfl,rfl,hv⟩:=hrel;by_cases hlt:k < x.size
  ·have hdk:=HD.o k hlt;unfold kC at hdk;simp only[aZ,decide_eq_true_eq] at hdk;have d1:(48:Int)<=x[k].toNat:=by omega
   have d2:(x[k].toNat:Int)<=57:=by omega
   have hb:v<=1000:=by
    have h1:=OL (x.data.toList.take k) 0 (by
     intro c hc;obtain ⟨j,hj,rfl⟩:=dY hc;simp only[bU,eD] at hj;have h2:=HD.o j (by show j < x.data.size;omega)
     unfold kC at h2;simp only[aZ,decide_eq_true_eq] at h2
     simpa using (show x.data[j].toNat<=57 from h2.2))
    have h3:(x.data.toList.take k).length<=3:=by simp;omega
    have h4:10 ^ (x.data.toList.take k).length<=10 ^ 3:=Nat.pow_le_pow_right (by omega) h3
    have h5:v=List.foldl (fun n c=>10 * n+(c.toNat - 48)) 0 (x.data.toList.take k):=hv
    omega
   clear hdk;go_wp2;refine ⟨⟨k+1,10 * v+(x[k].toNat - 48),by omega,by go_num,?_,?_⟩,by simp[intOf];omega⟩
   ·have:(10 * (v:Int)+((x[k].toNat:Int) - 48))=((10 * v+(x[k].toNat - 48):Nat):Int):=by omega
    rw[this]
   ·show _=_
    rw[VO x k hlt,VN,<- hv.o]
  ·obtain rfl:k=x.size:=by omega
   go_wp2;go_ret;exact ⟨LG (by rw[hv.o,aN,eU (by simp)]),rfl⟩
structure Dom (s:fq)(n:Nat)(st:Px.Ps):Prop where
 tk:Tk s st.t
 room:s.size - st.t.a < n
 n0:0<=st.fF
 n1:st.fF+n<=1000000
theorem Dom.good {st st':Px.Ps}(h:Dom s n st)(g:Px.Good s st st'):Dom s n st' :=
 ⟨g.tk,by have:=h.room;have:=g.lt;omega,by rw[g.fF];exact h.n0,by rw[g.fF];exact h.n1⟩
theorem G7 {x:fq}(h:gy s t x=true):s.extract t.a t.b=x:=by
 unfold gy at h;simp only[aZ,beq_iff_eq] at h
 have:=h.2
 rw[aN,aN] at this;exact Go.WideShapes.bytes_inj this
def OO (b:Nat)(s:fq)(n:Nat)(sum:Bool)(g:Px.Ps->Except Nat (Px.Ex×Px.Ps)):Prop :=
 ∀ (st:Px.Ps) (w:fu),Dom s n st->fQ w b s st.t (-1) st.fF st.fH ->
  Calls prog 181 #[.pointer (some ⟨b,0,none⟩),.bool sum] w (mQ b s w (g st))
def qW (s:fq)(b:Nat)(w:fu):Nat :=
 match w.heap[b]? with
 | some (Obj.cells c _ _)=>(match c[5]?,c[3]? with
  | some (Value.int _ bad),some (Value.int _ a)=>if 0<=bad then 0 else s.size+1 - a.toNat
  | _,_=>0)
 | _=>0
theorem EX (p:fQ w b s t (-1) fF fH):qW s b w=s.size+1 - t.a:=by
 simp[qW,p.h]
theorem VP (p:fQ w b s t bad fF fH)(h:0<=bad):qW s b w=0:=by
 simp[qW,p.h,h]
def OQ (b:Nat)(s:fq)(n:Nat)(g:Px.Ps->Except Nat (Px.Ex×Px.Ps))(oa ob:UInt8)(pl:Nat)(R:Except Nat (Px.Ex×Px.Ps))(w wr:fu)(q:Nat):Prop :=
 Kp b w wr /\
 ((∃ x st m,ig wr x (In w wr) q/\fQ wr b s st.t (-1) st.fF st.fH/\Dom s n st/\Px.chain s g oa ob m pl x st=R/\s.size - st.t.a < m) \/
  (∃ p t fF fH,R=.error p/\w.heap.size<=q/\(∃ v0 v1 v2 v3 v4 v5,wr.heap[q]?=some (.cells #[v0,v1,v2,v3,v4,v5] 260))/\fQ wr b s t ((p:Nat):Int) fF fH))
theorem row_step {g:Px.Ps->Except Nat (Px.Ex×Px.Ps)}{oa ob:UInt8}{R:Except Nat (Px.Ex×Px.Ps)}{st1:Px.Ps}{m:Nat}{o:UInt8}{O:Obj}(hb:b < w.heap.size)(hg:Px.Goes s g)(KR:Kp b w wr)(X:ig wr x (In w wr) q)(D1:Dom s n st1)(hd:Px.Good s st1 (Px.nx s st1))(K2:Kp b wr w2)(hm:s.size - st1.t.a < m+1)(_ho:o.toNat < 256)(CH:(match g (Px.nx s st1) with
   | .error p=>.error p
   | .ok (k,st')=>Px.chain s g oa ob m pl ⟨o.toNat,0,gM,pl,st1.t.a,some x,some k⟩ st')=R)(H3:mQ b s (w2.alloc O) (g (Px.nx s st1)) (.returned (.pointer (some ⟨q2,0,none⟩))) w3)(hW:W.heap=(w3.heap.push (.cells #[.pointer (some ⟨q,0,none⟩),.pointer (some ⟨q2,0,none⟩)] 248)).push (.cells #[.int .u8 (o.toNat:Int),.int .i64 0,.string ⟨#[]⟩,.int .i64 (pl:Int),.int .i64 (st1.t.a:Int),.slice (some ⟨w3.heap.size,0,none⟩) 2 2] 260))(hK:Kp b w3 W):OQ b s n g oa ob pl R w W (w3.heap.size+1)/\qW s b W < s.size+1 - st1.t.a:=by
 obtain ⟨k3,q2',he,h3⟩:=H3;obtain rfl:q2=q2':=by simpa using he
 have Df:Kp b wr w3:=K2.trans k3.vR;have kw:Kp b w W:=(KR.trans Df).trans hK;have s1:=KR.size;have s2:=Df.size;have s3:=K2.size;have hz:W.heap.size=w3.heap.size+2:=by rw[hW];simp
 have oo:∀ {t:Px.Tok} {bad fF fH:Int},fQ w3 b s t bad fF fH->fQ W b s t bad fF fH:=fun p=>⟨by rw[hW,LD p.lt];exact p.h⟩
 have hd1:=D1.tk.le;have hd2:=D1.tk.ab;cases hr:g (Px.nx s st1) with
 | error p =>
  rw[hr] at CH h3;obtain ⟨hq,hv,t,fF,fH,hp⟩:=h3;refine ⟨⟨kw,ah ⟨p,t,fF,fH,CH.symm,by omega,⟨_,_,_,_,_,_,by rw[hW];exact wV⟩,oo hp⟩⟩,?_⟩
  rw[VP (oo hp) (by omega)]
  omega
 | ok r =>
  obtain ⟨k,st'⟩:=r;rw[hr] at CH h3;obtain ⟨hk,hp⟩:=h3;have g1:=hd.trans (hg _ _ _ hd.tk hr);have g2:=g1.lt;have g3:=g1.tk.ab;have g4:=g1.tk.le;refine ⟨⟨kw,ak ⟨_,st',m,ig.pair (X.kp hb Df) hk (by simp;omega) s2 (by omega) hW,oo hp,D1.good g1,CH,by omega⟩⟩,?_⟩
  rw[EX (oo hp)];omega
theorem VQ (b:Nat)(s:fq)(n:Nat)(sum:Bool)(g:Px.Ps->Except Nat (Px.Ex×Px.Ps))(hp:OO b s n sum g)(hg:Px.Goes s g)(oa ob:UInt8)(st:Px.Ps)(w:fu)(hD:Dom s n st)(p:fQ w b s st.t (-1) st.fF st.fH)(hs:s.size<=maxLen) :
  Calls prog 159 #[.pointer (some ⟨b,0,none⟩),.string ⟨#[oa]⟩,.string ⟨#[ob]⟩,.bool sum] w (mQ b s w (Px.row s g oa ob st)):=by
 obtain ⟨c0,c1,c2,c3,c4,c5,c6,c7,f,hb⟩:=p.cells;have HP:Hid (_):=p;have HD:Hid (_):=hD;have HG:Hid (_):=hg;clear p hD hg;go_enter func159,ntmps159
 go_wp2_with fail;refine (hp st _ HD.o HP.o).mono ?_;rintro e w1 ⟨k1,q,rfl,h1⟩;have R0:Hid (OQ b s n g oa ob st.t.a (Px.row s g oa ob st) w w1 q):=by
  refine ⟨k1,?_⟩;unfold Px.row;cases hr:g st with
  | error p1 =>
   rw[hr] at h1;obtain ⟨hq,hv,t,fF,fH,oo⟩:=h1;exact ah ⟨p1,t,fF,fH,rfl,hq,hv,oo⟩
  | ok r =>
   obtain ⟨x,st1⟩:=r;rw[hr] at h1;have g1:=HG.o _ _ _ HD.o.tk hr;exact ak ⟨x,st1,s.size+1,h1.1,h1.2,HD.o.good g1,rfl,by omega⟩
 clear h1 k1 c0 c1 c2 c3 c4 c5 c6 c7 f;go_wp2_with fail;go_loopw [10] (fun v wr=>∃ q,v=.pointer (some ⟨q,0,none⟩)/\Hid (OQ b s n g oa ob st.t.a (Px.row s g oa ob st) w wr q)) (fun _ wr=>qW s b wr)
 case atStart=>exact ⟨q,rfl,R0⟩
 case round =>
  obtain ⟨q,rfl,hR⟩:=hrel;obtain ⟨kr,hcase⟩:=hR.o;clear hR R0;have KR:Hid (_):=kr;clear kr;rcases hcase with ⟨x,st1,m,hx,p1,hD1,hch,hm⟩ | ⟨pe,t,fF,fH,hRe,hq,hv,p1⟩
  ·obtain ⟨m,rfl⟩:∃ m',m=m'+1:=⟨m - 1,by omega⟩
   have X:Hid (_):=hx;have P1:Hid (_):=p1;have D1:Hid (_):=hD1;have CH:Hid (_):=hch;clear hx p1 hD1 hch;cases ha:gy s st1.t ⟨#[oa]⟩
   ·cases oP:gy s st1.t ⟨#[ob]⟩
    ·go_wp2_with (first | (go_at_call 156;refine (vD b s _ st1.t st1.fF st1.fH _ P1.o).mono ?_;rintro e w' ⟨rfl,rfl⟩))
     go_ret;refine ⟨KR.o,q,rfl,?_⟩;rw[<- CH.o,Px.chain,if_neg (by simp[ha]),if_neg (by simp[oP])]
     exact ⟨X.o,P1.o⟩
    ·go_wp2_with (first | (go_at_call 156;refine (vD b s _ st1.t st1.fF st1.fH _ P1.o).mono ?_;rintro e w' ⟨rfl,rfl⟩))
     refine (vF b s st1.t st1.fF st1.fH _ P1.o D1.o.tk.le hs).mono ?_;unfold kY;rw[G7 oP];rintro e w2 ⟨rfl,p2,k2⟩;have P2:Hid (_):=p2;have K2:Hid (_):=k2;have hb2:b < w2.heap.size:=p2.lt;clear p2 k2;go_wp2_with fail;refine (hp (Px.nx s st1) _ (D1.o.good (gX D1.o.tk oP)) (P2.o.alloc _)).mono ?_;rintro e w3 ⟨k3,q2,rfl,h3⟩;obtain ⟨a0,a1,a2,a3,af⟩:=pq (xQ k3 hb2);have hz3:w2.heap.size < w3.heap.size:=by have:=k3.size;simp at this;omega
     have H3:Hid (mQ b s (w2.alloc _) (g (Px.nx s st1)) (.returned (.pointer (some ⟨q2,0,none⟩))) w3):=⟨k3,q2,rfl,h3⟩;clear k3 h3;go_wp2_with fail;go_region
     go_wp2;obtain ⟨r1,r2⟩:=row_step (n:=n) (oa:=oa) (ob:=ob) (R:=Px.row s g oa ob st) (pl:=st.t.a) (o:=ob) (W:=((w3.alloc (.cells #[.pointer (some ⟨q,0,none⟩),.pointer (some ⟨q2,0,none⟩)] 248)).alloc (.cells #[.int .u8 (ob.toNat:Int),.int .i64 0,.string ⟨#[]⟩,.int .i64 (st.t.a:Int),.int .i64 (st1.t.a:Int),.slice (some ⟨w3.heap.size,0,none⟩) 2 2] 260)).drew)
      hb HG.o KR.o X.o D1.o (gX D1.o.tk oP) K2.o hm ob.toNat_lt (by rw[<- CH.o,Px.chain,if_neg (by simp[ha]),if_pos oP];cases g (Px.nx s st1)<;>rfl) H3.o rfl (((Kp.refl _ _).alloc _).alloc _).drew
     exact ⟨⟨w3.heap.size+1,rfl,r1⟩,by rw[EX P1.o];exact r2⟩
   ·go_wp2_with (first | (go_at_call 156;refine (vD b s _ st1.t st1.fF st1.fH _ P1.o).mono ?_;rintro e w' ⟨rfl,rfl⟩))
    refine (vF b s st1.t st1.fF st1.fH _ P1.o D1.o.tk.le hs).mono ?_;unfold kY;rw[G7 ha];rintro e w2 ⟨rfl,p2,k2⟩;have P2:Hid (_):=p2;have K2:Hid (_):=k2;have hb2:b < w2.heap.size:=p2.lt;clear p2 k2;go_wp2_with fail;refine (hp (Px.nx s st1) _ (D1.o.good (gX D1.o.tk ha)) (P2.o.alloc _)).mono ?_;rintro e w3 ⟨k3,q2,rfl,h3⟩;obtain ⟨a0,a1,a2,a3,af⟩:=pq (xQ k3 hb2);have hz3:w2.heap.size < w3.heap.size:=by have:=k3.size;simp at this;omega
    have H3:Hid (mQ b s (w2.alloc _) (g (Px.nx s st1)) (.returned (.pointer (some ⟨q2,0,none⟩))) w3):=⟨k3,q2,rfl,h3⟩;clear k3 h3;go_wp2_with fail;go_region
    go_wp2;obtain ⟨r1,r2⟩:=row_step (n:=n) (oa:=oa) (ob:=ob) (R:=Px.row s g oa ob st) (pl:=st.t.a) (o:=oa) (W:=((w3.alloc (.cells #[.pointer (some ⟨q,0,none⟩),.pointer (some ⟨q2,0,none⟩)] 248)).alloc (.cells #[.int .u8 (oa.toNat:Int),.int .i64 0,.string ⟨#[]⟩,.int .i64 (st.t.a:Int),.int .i64 (st1.t.a:Int),.slice (some ⟨w3.heap.size,0,none⟩) 2 2] 260)).drew)
     hb HG.o KR.o X.o D1.o (gX D1.o.tk ha) K2.o hm oa.toNat_lt (by rw[<- CH.o,Px.chain,if_pos ha];cases g (Px.nx s st1)<;>rfl) H3.o rfl (((Kp.refl _ _).alloc _).alloc _).drew
    exact ⟨⟨w3.heap.size+1,rfl,r1⟩,by rw[EX P1.o];exact r2⟩
  ·have P1:Hid (_):=p1;have V:Hid (_/\_/\_):=⟨hRe,hq,hv⟩;clear p1 hRe hq hv;go_wp2_with (first | (go_at_call 156;refine (C9 b s _ t (pe:Int) fF fH _ P1.o (by omega)).mono ?_;rintro e w' ⟨rfl,rfl⟩))
   go_ret;refine ⟨KR.o,q,rfl,?_⟩;rw[V.o.1];exact ⟨V.o.2.1,V.o.2.2,t,fF,fH,P1.o⟩
