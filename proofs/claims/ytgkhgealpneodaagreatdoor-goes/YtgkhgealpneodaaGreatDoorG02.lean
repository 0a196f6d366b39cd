import Derived.Test.YtgkhgealpneodaaGreatDoorG00
import Derived.WalkLawsBesides
set_option maxRecDepth 100000
set_option maxHeartbeats 4000000
namespace Go.Proofs.YtgkhgealpneodaaGreatDoor
open Go.RowKit Tryz
namespace Ref
open Px
theorem vX{a b:Bool}(h:a=b):Ending.returned (.bool a)=fM (.bool b):=by rw[h]
theorem CW(c:UInt8)(w:dY):fI 64 #[.int .u8 c.toNat] w fun e w'=>e=fM (.bool (mg c))/\w'=w:=by
 have e1:Hid (mg c=(decide (97<=(c.toNat:Int))&&decide ((c.toNat:Int)<=122))):=by unfold Hid mg;rw[bI];simp;omega
 go_enter func64,ntmps64;go_wp2;all_goals
  go_ret;exact⟨vX (by rw[e1.o,bI];simp;try omega),rfl⟩
theorem Au(c:UInt8)(w:dY):fI 66 #[.int .u8 c.toNat] w fun e w'=>e=fM (.bool (lT c))/\w'=w:=by
 have e1:Hid (lT c=(decide (48<=(c.toNat:Int))&&decide ((c.toNat:Int)<=57))):=by unfold Hid lT;rw[bI];simp;omega
 go_enter func66,ntmps66;go_wp2;all_goals
  go_ret;exact⟨vX (by rw[e1.o,bI];simp;try omega),rfl⟩
variable{c:UInt8}{b i k n pl q q2:Nat}
theorem Nm(hk:k<12)(h:((((⟨#[61,59,40,41,123,125,60,35,43,45,42,47]⟩:dX)[k]'hk).toNat:Int)==c.toNat)=false)(hno:c∉kT.take k):c∉kT.take (k+1):=by
 have e:kT.take (k+1)=kT.take k++[(⟨#[61,59,40,41,123,125,60,35,43,45,42,47]⟩:dX)[k]'hk]:=by rw[aZ (by simpa[kT]using hk)];rfl
 rw[e,bT];rintro(h1|h1);·exact hno h1
 simp only[bD]at h1;exact absurd h (by rw[h1];simp)
theorem Nx(hk:k<12)(h:((((⟨#[61,59,40,41,123,125,60,35,43,45,42,47]⟩:dX)[k]'hk).toNat:Int)==c.toNat)=true):yg c=true:=by
 have e:c=kT[k]'(by simpa[kT]using hk):=by
  apply UInt8.toNat_inj.1;have:((⟨#[61,59,40,41,123,125,60,35,43,45,42,47]⟩:dX)[k]'hk).toNat=c.toNat:=by have:=beq_iff_eq.1 h;omega
  rw[<- this];rfl
 unfold yg;rw[List.contains_iff_mem,e];exact List.getElem_mem _
theorem N0(c:UInt8)(w:dY):fI 67 #[.int .u8 c.toNat] w fun e w'=>e=fM (.bool (yg c))/\w'=w:=by
 go_enter func67,ntmps67;go_wp2;go_loop [4] (fun i=>∃k:Nat,k<=12/\i=eF k/\Hid (c∉kT.take k)) (fun i=>12-(intOf i).toNat)
 case atStart=>exact⟨0,by omega,rfl,by simp[Hid]⟩
 case round=>
  obtain⟨k,hk,rfl,hno⟩:=hrel;by_cases hlt:k<12
  ·go_wp2
   ·go_ret;exact⟨vX (Nx hlt ‹_›).symm,rfl⟩
   exact⟨⟨k+1,by omega,by go_num,Nm hlt ‹_› hno⟩,by simp[intOf];omega⟩
  obtain rfl:k=12:=by omega
  go_wp2;go_ret;exact⟨vX (by simpa[yg,kT,Hid]using hno),rfl⟩
theorem N5(h:k<=12):k=0\/k=1\/k=2\/k=3\/k=4\/k=5\/k=6\/k=7\/k=8\/k=9\/k=10\/k=11\/k=12:=by omega
variable{l m:List UInt8}
theorem N6(h:(l==m)=true)(hl:l∈yh):tN m=true:=by rw[beq_iff_eq]at h;unfold tN;rw[List.contains_iff_mem,<- h];exact hl
theorem Of(h:(l==m)=false)(hk:k<yh.length)(hl:yh[k]=l)(hno:m∉yh.take k):m∉yh.take (k+1):=by
 rw[aZ hk,bT];rintro(h1|h1);·exact hno h1
 simp only[bD]at h1;rw[h1,hl]at h;simp at h
theorem On(hno:m∉yh.take 12):(m==[110,111,116])=tN m:=by
 unfold tN;rw[bI,List.contains_iff_mem,beq_iff_eq];have e:yh=yh.take 12++[[110,111,116]]:=rfl;constructor;·rintro rfl;rw[e];simp
 intro h;rw[e,bT]at h;obtain h|h:=h;·exact absurd h hno
 simpa using h
theorem Eo(c:dX)(w:dY):fI 65 #[.string c] w fun e w'=>e=fM (.bool (tN c.toList))/\gU w w':=by
 go_enter func65,ntmps65;go_wp2;go_loop [4] (fun i=>∃k:Nat,k<=12/\i=eF k/\Hid (c.toList∉yh.take k)) (fun i=>12-(intOf i).toNat)
 case atStart=>exact⟨0,by omega,rfl,by simp[Hid]⟩
 case round=>
  obtain⟨k,hk,rfl,hno⟩:=hrel;obtain rfl|rfl|rfl|rfl|rfl|rfl|rfl|rfl|rfl|rfl|rfl|rfl|rfl:=N5 hk;case inr.inr.inr.inr.inr.inr.inr.inr.inr.inr.inr.inr=>
   go_wp2;go_ret;exact⟨vX (On hno),(aF _ _).alloc (ay _) _⟩
  all_goals
   go_wp2
   ·go_ret;exact⟨vX (N6 ‹_› (by simp[yh])).symm,(aF _ _).alloc (ay _) _⟩
   ·exact⟨⟨_,by decide,rfl,Of ‹_› (by decide) rfl hno⟩,by simp[intOf]⟩
def mh(s:dX)(t:iy):Array dZ:=#[.int .u8 (t.k:Int),.string (s.extract t.a t.b),eF (t.a:Int),eF (t.b:Int)]
variable{s:dX}
theorem Ep{p:UInt8->Bool}(h:Hid (∀j(hj:j<s.size),i<=j->j<k->p s[j]=true))(hk:k<s.size)(hp:p s[k]=true):Hid (∀j(hj:j<s.size),i<=j->j<k+1->p s[j]=true):=by
 intro j hj h1 h2;by_cases e:j=k;·subst e;exact hp
 exact h j hj h1 (by omega)
theorem O0(h:((c.toNat:Int)==32)=true):rW c=true:=by have:c=32:=UInt8.toNat_inj.1 (by have:=beq_iff_eq.1 h;simp;omega);subst this;rfl
theorem Pi(h:((c.toNat:Int)==10)=true):rW c=true:=by have:c=10:=UInt8.toNat_inj.1 (by have:=beq_iff_eq.1 h;simp;omega);subst this;rfl
theorem Pr(h:((c.toNat:Int)==32)=false)(h':((c.toNat:Int)==10)=false):rW c=false:=by
 unfold rW;rw[dK];constructor;·rw[beq_eq_false_iff_ne];rintro rfl;simp at h
 rw[beq_eq_false_iff_ne];rintro rfl;simp at h'
variable{W w w1 w2 w3 wr:dY}
theorem MP(hb:gU W w1):(∀b o,b<W.heap.size->w1.cell? ⟨b,o,none⟩=W.cell? ⟨b,o,none⟩)/\(∀b o,b<W.heap.size->w1.frozen? ⟨b,o,none⟩=W.frozen? ⟨b,o,none⟩):=⟨fun b o h=>hb.cell (p:=⟨b,o,none⟩) h,fun b o h=>hb.frozen (p:=⟨b,o,none⟩) h⟩
variable{t:iy}
theorem xH(h:Hid (kU rW s i=k))(ht:tQ s k=t):Ending.returned (.agg (mh s t))=fM (.agg (mh s (gY s i))):=by unfold gY;rw[h.o,ht]
theorem Es(w:dY)(o p:Obj):gU w ((w.alloc o).alloc p):=((aF _ _).alloc (ay _) _).alloc (by simp) _
variable{o p:Obj}
theorem MQ{a b c d:dZ}{t:TypeId}(h:Below ((w.alloc (.cells #[a,b,c,d] t)).alloc o).heap.size ((w.alloc (.cells #[a,b,c,d] t)).alloc o) w1):(w1.cell? ⟨w.heap.size,0,none⟩).isSome=true/\(w1.cell? ⟨w.heap.size,1,none⟩).isSome=true/\(w1.cell? ⟨w.heap.size,2,none⟩).isSome=true/\(w1.cell? ⟨w.heap.size,3,none⟩).isSome=true:=by
 have hlt:w.heap.size<((w.alloc (.cells #[a,b,c,d] t)).alloc o).heap.size:=by simp;omega
 have e:=fun k=>h.cell (p:=⟨w.heap.size,k,none⟩) hlt;refine⟨?_,?_,?_,?_⟩<;>refine(congrArg Option.isSome (e _)).trans ?_<;>simp[go_sem]
theorem Gz(h:Below ((w.alloc o).alloc p).heap.size ((w.alloc o).alloc p) w1)(a b c d:dZ):gU w ((((w1.setCell ⟨w.heap.size,0,none⟩ a).setCell ⟨w.heap.size,1,none⟩ b).setCell ⟨w.heap.size,2,none⟩ c).setCell ⟨w.heap.size,3,none⟩ d):=(((((Es _ _ _).trans (h.mono (by simp;omega))).setCell (ay _) _).setCell (ay _) _).setCell (ay _) _).setCell (ay _) _
theorem xI:(⟨#[]⟩:dX)=ByteArray.empty:=rfl
theorem MR(s:dX)(i:Nat)(w:dY)(hi:i<=s.size)(hs:s.size<=maxLen):fI 38 #[.string s,eF i] w fun e w'=>e=fM (.agg (mh s (gY s i)))/\gU w w':=by
 unfold maxLen at hs;go_enter func38,ntmps38;go_wp2;go_loop [1] (fun x=>∃k:Nat,i<=k/\k<=s.size/\x=eF k/\Hid (∀j(hj:j<s.size),i<=j->j<k->rW s[j]=true)) (fun x=>s.size-(intOf x).toNat)
 case atStart=>exact⟨i,by omega,hi,rfl,by intro j hj h1 h2;omega⟩
 case round=>
  obtain⟨k,hk1,hk2,rfl,hall⟩:=hrel;by_cases hlt:k<s.size
  ·cases h32:((s[k].toNat:Int)==32)
   ·cases h10:((s[k].toNat:Int)==10)
    ·have hr:Hid (kU rW s i=k):=yX _ _ _ _ hk1 hk2 hall (fun _=>Pr h32 h10);clear hall;cases hsm:mg s[k]
     ·cases hdg:lT s[k]
      ·cases hmk:yg s[k];all_goals
        go_wp2_with (first|(go_at_call 64;refine(CW _ _).mono ?_;rintro e w' ⟨rfl,rfl⟩)|(go_at_call 66;refine(Au _ _).mono ?_;rintro e w' ⟨rfl,rfl⟩)|(go_at_call 67;refine(N0 _ _).mono ?_;rintro e w' ⟨rfl,rfl⟩))
       ·refine bodyPost_ret (v:=.agg (mh s ⟨63,k,k⟩)) (by simp[results,results38,go_sem,mh,xI]) rfl ⟨xH hr (PG hlt hsm hdg hmk),?_⟩;exact Es _ _ _
       refine bodyPost_ret (v:=.agg (mh s ⟨107,k,k+1⟩)) (by simp[results,results38,go_sem,mh,xI]) rfl ⟨xH hr (PE hlt hsm hdg hmk),?_⟩;exact Es _ _ _
      go_wp2_with (first|(go_at_call 64;refine(CW _ _).mono ?_;rintro e w' ⟨rfl,rfl⟩)|(go_at_call 66;refine(Au _ _).mono ?_;rintro e w' ⟨rfl,rfl⟩))
      go_loop [5] (fun x=>∃b:Nat,k<=b/\b<=s.size/\x=eF b/\Hid (∀j(hj:j<s.size),k<=j->j<b->lT s[j]=true)) (fun x=>s.size-(intOf x).toNat)
      case atStart=>exact⟨k,by omega,hk2,rfl,by intro j hj h1 h2;omega⟩
      case round=>
       obtain⟨b,hb1,hb2,rfl,pK⟩:=hrel;have last:(∀h:b<s.size,lT s[b]=false)->Hid (kU lT s k=b):=fun h=>yX _ _ _ _ hb1 hb2 pK h;by_cases hblt:b<s.size
       ·cases hsb:lT s[b]
        ·have hb:=last (fun _=>hsb);clear last pK;by_cases h4:4<b-k;all_goals
          go_wp2_with (first|(go_at_call 66;refine(Au _ _).mono ?_;rintro e w' ⟨rfl,rfl⟩))
         ·refine bodyPost_ret (v:=.agg (mh s ⟨63,k,k⟩)) (by simp[results,results38,go_sem,mh,xI]) rfl ⟨xH hr (LW hlt hsm hdg hb.o h4),Es _ _ _⟩
         refine bodyPost_ret (v:=.agg (mh s ⟨110,k,b⟩)) (by simp[results,results38,go_sem,mh,xI]) rfl ⟨xH hr (LX hlt hsm hdg hb.o h4),Es _ _ _⟩
        clear last;go_wp2_with (first|(go_at_call 66;refine(Au _ _).mono ?_;rintro e w' ⟨rfl,rfl⟩))
        exact⟨⟨b+1,by omega,by omega,by go_num,Ep pK hblt hsb⟩,by simp[intOf];omega⟩
       have hb:=last (fun h=>absurd h hblt);clear last pK;by_cases h4:4<b-k;all_goals
        go_wp2_with (first|(go_at_call 66;refine(Au _ _).mono ?_;rintro e w' ⟨rfl,rfl⟩))
       ·refine bodyPost_ret (v:=.agg (mh s ⟨63,k,k⟩)) (by simp[results,results38,go_sem,mh,xI]) rfl ⟨xH hr (LW hlt hsm hdg hb.o h4),Es _ _ _⟩
       refine bodyPost_ret (v:=.agg (mh s ⟨110,k,b⟩)) (by simp[results,results38,go_sem,mh,xI]) rfl ⟨xH hr (LX hlt hsm hdg hb.o h4),Es _ _ _⟩
     go_wp2_with (first|(go_at_call 64;refine(CW _ _).mono ?_;rintro e w' ⟨rfl,rfl⟩))
     go_loop [5] (fun x=>∃b:Nat,k<=b/\b<=s.size/\x=eF b/\Hid (∀j(hj:j<s.size),k<=j->j<b->mg s[j]=true)) (fun x=>s.size-(intOf x).toNat)
     case atStart=>exact⟨k,by omega,hk2,rfl,by intro j hj h1 h2;omega⟩
     case round=>
      obtain⟨b,hb1,hb2,rfl,pK⟩:=hrel;have last:(∀h:b<s.size,mg s[b]=false)->Hid (kU mg s k=b):=fun h=>yX _ _ _ _ hb1 hb2 pK h;by_cases hblt:b<s.size
      ·cases hsb:mg s[b]
       ·have hb:=last (fun _=>hsb);clear last pK;cases hkp:tN (s.extract k b).toList
        ·by_cases h8:8<b-k;all_goals
          go_wp2_with (first|(go_at_call 64;refine(CW _ _).mono ?_;rintro e w' ⟨rfl,rfl⟩))
          refine(Eo _ _).mono ?_;rintro e w1 ⟨rfl,hbw⟩;obtain⟨hcw,hfw⟩:=MP hbw;obtain⟨i0,i1,i2,i3⟩:=MQ hbw;have Qp:w.heap.size+1<w1.heap.size:=by have:=hbw.size;simp at this;omega
          go_wp2
         ·refine bodyPost_ret (v:=.agg (mh s ⟨63,k,k⟩)) (by simp[results,results38,go_sem,mh,xI,i0,i1,i2,i3]) rfl ⟨xH hr (LU hlt hsm hb.o hkp h8),?_⟩;exact Gz hbw _ _ _ _
         refine bodyPost_ret (v:=.agg (mh s ⟨119,k,b⟩)) (by simp[results,results38,go_sem,mh,xI,i0,i1,i2,i3]) rfl ⟨xH hr (LV hlt hsm hb.o hkp h8),?_⟩;exact Gz hbw _ _ _ _
        go_wp2_with (first|(go_at_call 64;refine(CW _ _).mono ?_;rintro e w' ⟨rfl,rfl⟩))
        refine(Eo _ _).mono ?_;rintro e w1 ⟨rfl,hbw⟩;obtain⟨hcw,hfw⟩:=MP hbw;obtain⟨i0,i1,i2,i3⟩:=MQ hbw;have Qp:w.heap.size+1<w1.heap.size:=by have:=hbw.size;simp at this;omega
        go_wp2;refine bodyPost_ret (v:=.agg (mh s ⟨107,k,b⟩)) (by simp[results,results38,go_sem,mh,xI,i0,i1,i2,i3]) rfl ⟨xH hr (LQ hlt hsm hb.o hkp),?_⟩;exact Gz hbw _ _ _ _
       clear last;go_wp2_with (first|(go_at_call 64;refine(CW _ _).mono ?_;rintro e w' ⟨rfl,rfl⟩))
       exact⟨⟨b+1,by omega,by omega,by go_num,Ep pK hblt hsb⟩,by simp[intOf];omega⟩
      have hb:=last (fun h=>absurd h hblt);clear last pK;cases hkp:tN (s.extract k b).toList
      ·by_cases h8:8<b-k;all_goals
        go_wp2_with (first|(go_at_call 64;refine(CW _ _).mono ?_;rintro e w' ⟨rfl,rfl⟩))
        refine(Eo _ _).mono ?_;rintro e w1 ⟨rfl,hbw⟩;obtain⟨hcw,hfw⟩:=MP hbw;obtain⟨i0,i1,i2,i3⟩:=MQ hbw;have Qp:w.heap.size+1<w1.heap.size:=by have:=hbw.size;simp at this;omega
        go_wp2
       ·refine bodyPost_ret (v:=.agg (mh s ⟨63,k,k⟩)) (by simp[results,results38,go_sem,mh,xI,i0,i1,i2,i3]) rfl ⟨xH hr (LU hlt hsm hb.o hkp h8),?_⟩;exact Gz hbw _ _ _ _
       refine bodyPost_ret (v:=.agg (mh s ⟨119,k,b⟩)) (by simp[results,results38,go_sem,mh,xI,i0,i1,i2,i3]) rfl ⟨xH hr (LV hlt hsm hb.o hkp h8),?_⟩;exact Gz hbw _ _ _ _
      go_wp2_with (first|(go_at_call 64;refine(CW _ _).mono ?_;rintro e w' ⟨rfl,rfl⟩))
      refine(Eo _ _).mono ?_;rintro e w1 ⟨rfl,hbw⟩;obtain⟨hcw,hfw⟩:=MP hbw;obtain⟨i0,i1,i2,i3⟩:=MQ hbw;have Qp:w.heap.size+1<w1.heap.size:=by have:=hbw.size;simp at this;omega
      go_wp2;refine bodyPost_ret (v:=.agg (mh s ⟨107,k,b⟩)) (by simp[results,results38,go_sem,mh,xI,i0,i1,i2,i3]) rfl ⟨xH hr (LQ hlt hsm hb.o hkp),?_⟩;exact Gz hbw _ _ _ _
    go_wp2;exact⟨⟨k+1,by omega,by omega,by go_num,Ep hall hlt (Pi h10)⟩,by simp[intOf];omega⟩
   go_wp2;exact⟨⟨k+1,by omega,by omega,by go_num,Ep hall hlt (O0 h32)⟩,by simp[intOf];omega⟩
  have hr:Hid (kU rW s i=k):=yX _ _ _ _ hk1 hk2 hall (fun h=>absurd h hlt);obtain rfl:k=s.size:=by omega
  go_wp2;refine bodyPost_ret (v:=.agg (mh s ⟨0,s.size,s.size⟩)) (by simp[results,results38,go_sem,mh,xI]) rfl ⟨xH hr (PD (by omega)),(aF _ _).alloc (ay _) _⟩
structure fQ(w:dY)(b:Nat)(s:dX)(t:iy)(bad eP fu:Int):Prop where
 h:w.heap[b]?=some (.cells #[.string s,.int .u8 (t.k:Int),.string (s.extract t.a t.b),eF (t.a:Int),eF (t.b:Int),eF bad,eF eP,eF fu] 108)
variable{bad fu eP:Int}
theorem fQ.cells(p:fQ w b s t bad eP fu):w.cell? ⟨b,0,none⟩=some (.string s)/\w.cell? ⟨b,1,none⟩=some (.int .u8 (t.k:Int))/\w.cell? ⟨b,2,none⟩=some (.string (s.extract t.a t.b))/\w.cell? ⟨b,3,none⟩=some (eF (t.a:Int)) /\
  w.cell? ⟨b,4,none⟩=some (eF (t.b:Int))/\w.cell? ⟨b,5,none⟩=some (eF bad)/\w.cell? ⟨b,6,none⟩=some (eF eP)/\w.cell? ⟨b,7,none⟩=some (eF fu)/\(∀o,w.frozen? ⟨b,o,none⟩=false)/\b<w.heap.size:=by
 have hb:b<w.heap.size:=by
  obtain hb|hb:=dF b w.heap.size;·exact hb
  ·have:=p.h;simp[hb]at this
 refine⟨?_,?_,?_,?_,?_,?_,?_,?_,?_,hb⟩<;>simp[World.cell?,World.frozen?,p.h]
theorem fQ.lt(p:fQ w b s t bad eP fu):b<w.heap.size:=p.cells.2.2.2.2.2.2.2.2.2
theorem fQ.later{B:Nat}(p:fQ w b s t bad eP fu)(h:Below B w w1)(hB:b<B):fQ w1 b s t bad eP fu:=⟨by rw[h.block b hB];exact p.h⟩
theorem fQ.alloc{w:dY}{b:Nat}{s:dX}{t:iy}{bad eP fu:Int}(p:fQ w b s t bad eP fu)(o:Obj):fQ (w.alloc o) b s t bad eP fu:=p.later ((aF _ _).alloc (ay _) _) p.lt
theorem fQ.drew{w:dY}{b:Nat}{s:dX}{t:iy}{bad eP fu:Int}(p:fQ w b s t bad eP fu):fQ w.drew b s t bad eP fu:=⟨p.h⟩
theorem fQ.iD{o:Nat}(p:fQ w b s t bad eP fu)(h:b≠k)(v:dZ):fQ (w.setCell ⟨k,o,none⟩ v) b s t bad eP fu:=⟨by rw[bO _ _ _ _ h];exact p.h⟩
theorem heap_set{o:Nat}{c:Array dZ}{t:TypeId}{f:Nat×Nat}(v:dZ)(h:w.heap[b]?=some (.cells c t f)):(w.setCell ⟨b,o,none⟩ v).heap[b]?=some (.cells (c.setIfInBounds o v) t f):=by simp[World.setCell,Array.getElem?_modify,h]
theorem lg{o:Nat}(v:dZ)(h:b≠k):(w.setCell ⟨k,o,none⟩ v).heap[b]?=w.heap[b]?:=bO _ _ _ _ h
theorem wL(b:Nat)(s x:dX)(t:iy)(eP fu:Int)(w:dY)(p:fQ w b s t (-1) eP fu):fI 146 #[fq b,.string x] w fun e w'=>e=fM (.bool (gN s t x))/\w=w':=by
 obtain⟨c0,c1,c2,c3,c4,c5,c6,c7,f,hb⟩:=p.cells;cases hk:((t.k:Int)==107);all_goals
  go_enter func146,ntmps146;go_wp2;go_ret
 ·exact⟨vX (by unfold gN;rw[(by rw[beq_eq_false_iff_ne]at hk |-;omega:(t.k==107)=false)];rfl),rfl⟩
 exact⟨vX (by unfold gN;rw[(by rw[beq_iff_eq]at hk |-;omega:(t.k==107)=true)];rfl),rfl⟩
theorem Et(b:Nat)(s x:dX)(t:iy)(bad eP fu:Int)(w:dY)(p:fQ w b s t bad eP fu)(h0:0<=bad):fI 146 #[fq b,.string x] w fun e w'=>e=fM (.bool false)/\w=w':=by obtain⟨c0,c1,c2,c3,c4,c5,c6,c7,f,hb⟩:=p.cells;go_enter func146,ntmps146;go_wp2;go_ret;exact⟨rfl,rfl⟩
theorem I8(b:Nat)(s:dX)(t:iy)(eP fu:Int)(w:dY)(p:fQ w b s t (-1) eP fu):fI 148 #[fq b] w fun e w'=>e=fM (.tuple #[])/\fQ w' b s t t.a eP fu/\Kp b w w':=by
 obtain⟨c0,c1,c2,c3,c4,c5,c6,c7,f,hb⟩:=p.cells;have H:=p.h;have HH:Hid _:=H;go_enter func148,ntmps148;go_wp2;go_end0
 exact⟨rfl,⟨by rw[heap_set _ HH.o];simp⟩,(Kp.refl _ _).kF _⟩
theorem Qq(b:Nat)(s:dX)(t:iy)(bad eP fu:Int)(w:dY)(p:fQ w b s t bad eP fu)(h0:0<=bad):fI 148 #[fq b] w fun e w'=>e=fM (.tuple #[])/\w=w':=by
 obtain⟨c0,c1,c2,c3,c4,c5,c6,c7,f,hb⟩:=p.cells;go_enter func148,ntmps148;go_wp2;go_end0
 exact⟨rfl,rfl⟩
theorem WE(b:Nat)(s:dX)(t:iy)(eP fu:Int)(w:dY)(p:fQ w b s t (-1) eP fu)(hn:0<=eP)(hn':eP<=1000000):fI 150 #[fq b] w fun e w'=>e=fM (.tuple #[])/\fQ w' b s t (-1) (eP+1) (um eP fu t.a)/\Kp b w w':=by
 obtain⟨c0,c1,c2,c3,c4,c5,c6,c7,f,hb⟩:=p.cells;have H:=p.h;have HH:Hid _:=H;by_cases h4:4<=eP
 ·by_cases hd:fu<0
  ·go_enter func150,ntmps150;go_wp2;go_end0
   exact⟨rfl,⟨by rw[um,aA ⟨h4,hd⟩,heap_set _ (heap_set _ HH.o)];simp⟩,((Kp.refl _ _).kF _).kF _⟩
  go_enter func150,ntmps150;go_wp2;go_end0
  exact⟨rfl,⟨by rw[um,ah (by omega),heap_set _ HH.o];simp⟩,(Kp.refl _ _).kF _⟩
 go_enter func150,ntmps150;go_wp2;go_end0
 exact⟨rfl,⟨by rw[um,ah (by omega),heap_set _ HH.o];simp⟩,(Kp.refl _ _).kF _⟩
theorem Qr(b:Nat)(s:dX)(t:iy)(bad eP fu:Int)(w:dY)(p:fQ w b s t bad eP fu):fI 151 #[fq b] w fun e w'=>e=fM (.tuple #[])/\fQ w' b s t bad (wrap64 (eP-1)) fu/\Kp b w w':=by
 obtain⟨c0,c1,c2,c3,c4,c5,c6,c7,f,hb⟩:=p.cells;have H:=p.h;have HH:Hid _:=H;go_enter func151,ntmps151;go_wp2;go_end0
 exact⟨rfl,⟨by rw[heap_set _ HH.o];simp⟩,(Kp.refl _ _).kF _⟩
theorem wM(b:Nat)(s:dX)(t:iy)(eP fu:Int)(w:dY)(p:fQ w b s t (-1) eP fu)(ht:t.b<=s.size)(hs:s.size<=maxLen):fI 147 #[fq b] w fun e w'=>e=fM (.agg (mh s t))/\fQ w' b s (gY s t.b) (-1) eP fu/\Kp b w w':=by
 obtain⟨c0,c1,c2,c3,c4,c5,c6,c7,f,hb⟩:=p.cells;have P2:=(fun(o q:Obj)=>((p.alloc o).alloc q).drew);have HP:Hid _:=P2;go_enter func147,ntmps147;go_wp2;go_region_with (go_at_call 38;refine(MR s t.b _ ht hs).mono ?_;unfold mh;rintro e w1 ⟨rfl,hbw⟩;have p1:=(HP.o _ _).later hbw (by simp;omega);obtain⟨d0,d1,d2,d3,d4,d5,d6,d7,df,hdb⟩:=p1.cells;have hp1:Hid (fQ w1 b s t (-1) eP fu):=p1;clear p1;obtain⟨n0,n1⟩:=sL (w:=w) (by rfl) hbw;obtain⟨a0,a1,a2,a3,af⟩:=qR n0;obtain⟨g0,g1,g2,g3,gf⟩:=qR n1;clear n0 n1)
 all_goals
  have hne:¬w.heap.size=b:=by omega
  have hne':¬w.heap.size+1=b:=by omega
  go_wp2;refine bodyPost_ret (v:=.agg (mh s t)) (by simp[results,results147,go_sem,mh, *]) rfl ⟨rfl,?_,?_⟩;·exact⟨by rw[lg _ (by omega),lg _ (by omega),lg _ (by omega),lg _ (by omega),heap_set _ (heap_set _ (heap_set _ (heap_set _ hp1.o.h)))];simp⟩
  ·exact(((((((((((Kp.refl b w).alloc _).alloc _).drew.below hbw).kF _).kF _).kF _).kF _).iD (ay _) _).iD (ay _) _).iD (ay _) _).iD (ay _) _
theorem Eu(b:Nat)(s x:dX)(t:iy)(eP fu:Int)(w:dY)(p:fQ w b s t (-1) eP fu)(ht:t.b<=s.size)(hs:s.size<=maxLen)(ho:gN s t x=true):fI 68 #[fq b,.string x] w fun e w'=>e=fM (.bool true)/\fQ w' b s (gY s t.b) (-1) eP fu/\Kp b w w':=by have HP:Hid _:=p;go_enter func68,ntmps68;go_wp2_with fail;refine(wL b s x t eP fu _ HP.o).mono ?_;rintro e w' ⟨rfl,rfl⟩;go_wp2_with fail;refine(wM b s t eP fu _ HP.o ht hs).mono ?_;rintro e w1 ⟨rfl,p1,k1⟩;have P1:Hid (_/\_):=⟨p1,k1⟩;go_wp2_with fail;go_ret;exact⟨rfl,P1.o⟩
theorem uX(b:Nat)(s x:dX)(t:iy)(eP fu:Int)(w:dY)(p:fQ w b s t (-1) eP fu)(ho:gN s t x=false):fI 68 #[fq b,.string x] w fun e w'=>e=fM (.bool false)/\w=w':=by have HP:Hid _:=p;go_enter func68,ntmps68;go_wp2_with fail;refine(wL b s x t eP fu _ HP.o).mono ?_;rintro e w' ⟨rfl,rfl⟩;go_wp2_with fail;go_ret;exact⟨rfl,rfl⟩
theorem WG(b:Nat)(s x:dX)(t:iy)(bad eP fu:Int)(w:dY)(p:fQ w b s t bad eP fu)(h0:0<=bad):fI 68 #[fq b,.string x] w fun e w'=>e=fM (.bool false)/\w=w':=by have HP:Hid _:=p;go_enter func68,ntmps68;go_wp2_with fail;refine(Et b s x t bad eP fu _ HP.o h0).mono ?_;rintro e w' ⟨rfl,rfl⟩;go_wp2_with fail;go_ret;exact⟨rfl,rfl⟩
theorem WH(b:Nat)(s x:dX)(t:iy)(eP fu:Int)(w:dY)(p:fQ w b s t (-1) eP fu)(ht:t.b<=s.size)(hs:s.size<=maxLen)(ho:gN s t x=true):fI 70 #[fq b,.string x] w fun e w'=>e=fM (.tuple #[])/\fQ w' b s (gY s t.b) (-1) eP fu/\Kp b w w':=by
 have HP:Hid _:=p;go_enter func70,ntmps70;go_wp2_with fail;refine(Eu b s x t eP fu _ HP.o ht hs ho).mono ?_;rintro e w1 ⟨rfl,p1,k1⟩;have P1:Hid (_/\_):=⟨p1,k1⟩;go_wp2_with fail;go_end0
 exact⟨rfl,P1.o⟩
theorem Ps(b:Nat)(s x:dX)(t:iy)(eP fu:Int)(w:dY)(p:fQ w b s t (-1) eP fu)(ho:gN s t x=false):fI 70 #[fq b,.string x] w fun e w'=>e=fM (.tuple #[])/\fQ w' b s t t.a eP fu/\Kp b w w':=by
 have HP:Hid _:=p;go_enter func70,ntmps70;go_wp2_with fail;refine(uX b s x t eP fu _ HP.o ho).mono ?_;rintro e w1 ⟨rfl,rfl⟩;go_wp2_with fail;refine(I8 b s t eP fu _ HP.o).mono ?_;rintro e w1 ⟨rfl,p1,k1⟩;have P1:Hid (_/\_):=⟨p1,k1⟩;go_wp2_with fail;go_end0
 exact⟨rfl,P1.o⟩
theorem WI(b:Nat)(s x:dX)(t:iy)(bad eP fu:Int)(w:dY)(p:fQ w b s t bad eP fu)(h0:0<=bad):fI 70 #[fq b,.string x] w fun e w'=>e=fM (.tuple #[])/\w=w':=by
 have HP:Hid _:=p;go_enter func70,ntmps70;go_wp2_with fail;refine(WG b s x t bad eP fu _ HP.o h0).mono ?_;rintro e w1 ⟨rfl,rfl⟩;go_wp2_with fail;refine(Qq b s t bad eP fu _ HP.o h0).mono ?_;rintro e w1 ⟨rfl,rfl⟩;go_wp2_with fail;go_end0
 exact⟨rfl,rfl⟩
theorem Pu(b:Nat)(s:dX)(k:Nat)(t:iy)(eP fu:Int)(w:dY)(p:fQ w b s t (-1) eP fu)(ht:t.b<=s.size)(hs:s.size<=maxLen)(ho:(t.k:Int)=k):fI 69 #[fq b,.int .u8 k] w fun e w'=>e=fM (.agg (mh s t))/\fQ w' b s (gY s t.b) (-1) eP fu/\Kp b w w':=by
 obtain⟨c0,c1,c2,c3,c4,c5,c6,c7,f,hb⟩:=p.cells;have HP:Hid (∀o:Obj,fQ (w.alloc o) b s t (-1) eP fu):=fun o=>p.alloc o;have hk:((t.k:Int) != k)=false:=by simp[ho]
 have HO:Hid _:=ho;go_enter func69,ntmps69;go_wp2_with fail;refine(wM b s t eP fu _ (HP.o _) ht hs).mono ?_;unfold mh;rintro e w1 ⟨rfl,p1,k1⟩;obtain⟨a0,a1,a2,a3,af⟩:=qR (yY k1 hb);have P1:Hid (_/\_):=⟨p1,k1⟩;go_wp2_with fail;refine bodyPost_ret (v:=.agg (mh s t)) (by simp[results,results69,go_sem,mh, *]) rfl ⟨rfl,?_,?_⟩;·exact(((P1.o.1.iD (by omega) _).iD (by omega) _).iD (by omega) _).iD (by omega) _
 exact(((P1.o.2.wZ.iD (ay _) _).iD (ay _) _).iD (ay _) _).iD (ay _) _
def Ew:Array dZ:=#[.int .u8 0,.string ⟨#[]⟩,eF 0,eF 0]
theorem Q1(b:Nat)(s:dX)(k:Nat)(t:iy)(eP fu:Int)(w:dY)(p:fQ w b s t (-1) eP fu)(ho:(t.k:Int)≠k):fI 69 #[fq b,.int .u8 k] w fun e w'=>e=fM (.agg Ew)/\fQ w' b s t t.a eP fu/\Kp b w w':=by
 obtain⟨c0,c1,c2,c3,c4,c5,c6,c7,f,hb⟩:=p.cells;have HP:Hid (∀o:Obj,fQ (w.alloc o) b s t (-1) eP fu):=fun o=>p.alloc o;have hk:((t.k:Int) != k)=true:=by simp[ho]
 go_enter func69,ntmps69;go_wp2_with fail;refine(I8 b s t eP fu _ (HP.o _)).mono ?_;rintro e w1 ⟨rfl,p1,k1⟩;obtain⟨a0,a1,a2,a3,af⟩:=qR (yY k1 hb);have P1:Hid (_/\_):=⟨p1,k1⟩;go_wp2_with fail;refine bodyPost_ret (v:=.agg Ew) (by simp[results,results69,go_sem,Ew, *]) rfl ⟨rfl,?_,?_⟩;·exact(((P1.o.1.iD (by omega) _).iD (by omega) _).iD (by omega) _).iD (by omega) _
 exact(((P1.o.2.wZ.iD (ay _) _).iD (ay _) _).iD (ay _) _).iD (ay _) _
theorem Q2(b:Nat)(s:dX)(k:Nat)(t:iy)(bad eP fu:Int)(w:dY)(p:fQ w b s t bad eP fu)(h0:0<=bad):fI 69 #[fq b,.int .u8 k] w fun e w'=>e=fM (.agg Ew)/\fQ w' b s t bad eP fu/\Kp b w w':=by
 obtain⟨c0,c1,c2,c3,c4,c5,c6,c7,f,hb⟩:=p.cells;have HP:Hid (∀o:Obj,fQ (w.alloc o) b s t bad eP fu):=fun o=>p.alloc o;go_enter func69,ntmps69;go_wp2_with fail;refine(Qq b s t bad eP fu _ (HP.o _) h0).mono ?_;rintro e w1 ⟨rfl,rfl⟩;go_wp2_with fail;refine bodyPost_ret (v:=.agg Ew) (by simp[results,results69,go_sem,Ew, *]) rfl ⟨rfl,?_,?_⟩;·exact HP.o _
 exact(Kp.refl _ _).alloc _
def ji(w:dY):fG->(Nat->Prop)->Nat->Prop
 |⟨op,n,eH,pl,own,none,none⟩,ok,q=>ok q/\w.heap[q]?=some (.cells #[.int .u8 (op:Int),eF (n:Int),.string eH,eF (pl:Int),eF (own:Int),iE] 184)
 |⟨op,n,eH,pl,own,some l,none⟩,ok,q=>ok q/\∃kb lq,ok kb/\kb≠q/\w.heap[q]?=some (.cells #[.int .u8 (op:Int),eF (n:Int),.string eH,eF (pl:Int),eF (own:Int),.slice (some ⟨kb,0,none⟩) 1 1] 184) /\
   w.heap[kb]?=some (.cells #[fq lq] 170)/\ji w l (fun k=>ok k/\k≠q/\k≠kb) lq
 |⟨op,n,eH,pl,own,some l,some r⟩,ok,q=>ok q/\∃kb lq rq,ok kb/\kb≠q/\w.heap[q]?=some (.cells #[.int .u8 (op:Int),eF (n:Int),.string eH,eF (pl:Int),eF (own:Int),.slice (some ⟨kb,0,none⟩) 2 2] 184) /\
   w.heap[kb]?=some (.cells #[fq lq,fq rq] 170)/\ji w l (fun k=>ok k/\k≠q/\k≠kb) lq/\ji w r (fun k=>ok k/\k≠q/\k≠kb) rq
 |⟨_,_,_,_,_,none,some _⟩,_,_=>False
theorem ji.mono{w:dY}{x:fG}{ok ok':Nat->Prop}{q:Nat}(h:ji w x ok q)(hk:∀k,ok k->ok' k):ji w x ok' q:=by
 match x with
 |⟨op,n,eH,pl,own,none,none⟩=>exact⟨hk _ h.1,h.2⟩
 |⟨op,n,eH,pl,own,some l,none⟩=>obtain⟨h1,kb,lq,h2,h3,h4,h5,h6⟩:=h;exact⟨hk _ h1,kb,lq,hk _ h2,h3,h4,h5,h6.mono fun k hk'=>⟨hk _ hk'.1,hk'.2⟩⟩
 |⟨op,n,eH,pl,own,some l,some r⟩=>obtain⟨h1,kb,lq,rq,h2,h3,h4,h5,h6,h7⟩:=h;exact⟨hk _ h1,kb,lq,rq,hk _ h2,h3,h4,h5,h6.mono fun k hk'=>⟨hk _ hk'.1,hk'.2⟩,h7.mono fun k hk'=>⟨hk _ hk'.1,hk'.2⟩⟩
 |⟨_,_,_,_,_,none,some _⟩=>exact h.elim
theorem ji.keep{w w':dY}{x:fG}{ok:Nat->Prop}{q:Nat}(h:ji w x ok q)(hk:∀k,ok k->w'.heap[k]?=w.heap[k]?):ji w' x ok q:=by
 match x with
 |⟨op,n,eH,pl,own,none,none⟩=>exact⟨h.1,by rw[hk _ h.1];exact h.2⟩
 |⟨op,n,eH,pl,own,some l,none⟩=>obtain⟨h1,kb,lq,h2,h3,h4,h5,h6⟩:=h;exact⟨h1,kb,lq,h2,h3,by rw[hk _ h1];exact h4,by rw[hk _ h2];exact h5,h6.keep fun k hk'=>hk _ hk'.1⟩
 |⟨op,n,eH,pl,own,some l,some r⟩=>obtain⟨h1,kb,lq,rq,h2,h3,h4,h5,h6,h7⟩:=h;exact⟨h1,kb,lq,rq,h2,h3,by rw[hk _ h1];exact h4,by rw[hk _ h2];exact h5,h6.keep fun k hk'=>hk _ hk'.1,h7.keep fun k hk'=>hk _ hk'.1⟩
 |⟨_,_,_,_,_,none,some _⟩=>exact h.elim
variable{x:fG}{ok:Nat->Prop}
theorem ji.root(h:ji w x ok q):ok q/\∃v,w.heap[q]?=some (.cells #[.int .u8 (x.op:Int),eF (x.n:Int),.string x.eH,eF (x.pl:Int),eF (x.own:Int),v] 184):=by
 match x with
 |⟨op,n,eH,pl,own,none,none⟩=>exact⟨h.1,_,h.2⟩
 |⟨op,n,eH,pl,own,some l,none⟩=>obtain⟨h1,kb,lq,h2,h3,h4,h5,h6⟩:=h;exact⟨h1,_,h4⟩
 |⟨op,n,eH,pl,own,some l,some r⟩=>obtain⟨h1,kb,lq,rq,h2,h3,h4,h5,h6,h7⟩:=h;exact⟨h1,_,h4⟩
 |⟨_,_,_,_,_,none,some _⟩=>exact h.elim
theorem ji.eD(h:ji w x ok q)(a:Nat):ji (w.setCell ⟨q,3,none⟩ (eF (a:Int))) {x with pl:=a} ok q:=by
 match x with
 |⟨op,n,eH,pl,own,none,none⟩=>exact⟨h.1,by rw[heap_set _ h.2];simp⟩
 |⟨op,n,eH,pl,own,some l,none⟩=>obtain⟨h1,kb,lq,h2,h3,h4,h5,h6⟩:=h;exact⟨h1,kb,lq,h2,h3,by rw[heap_set _ h4];simp,by rw[lg _ h3];exact h5,h6.keep fun k hk'=>lg _ hk'.2.1⟩
 |⟨op,n,eH,pl,own,some l,some r⟩=>obtain⟨h1,kb,lq,rq,h2,h3,h4,h5,h6,h7⟩:=h;exact⟨h1,kb,lq,rq,h2,h3,by rw[heap_set _ h4];simp,by rw[lg _ h3];exact h5,h6.keep fun k hk'=>lg _ hk'.2.1,h7.keep fun k hk'=>lg _ hk'.2.1⟩
 |⟨_,_,_,_,_,none,some _⟩=>exact h.elim
def gD(w w':dY)(k:Nat):Prop:=w.heap.size<=k/\k<w'.heap.size
theorem ji.kp(h:ji w1 x (gD w w1) q)(hb:b<w.heap.size)(k:Kp b w1 w2):ji w2 x (gD w w1) q:=h.keep fun i hi=>k.block i hi.2 (by have:=hi.1;omega)
variable{h:Array Obj}
theorem MS(hk:k<h.size):((h.push o).push p)[k]?=h[k]?:=by rw[aD,ah (by simp;omega),aD,ah (by omega)]
theorem MU:((h.push o).push p)[h.size]?=some o:=by rw[aD,ah (by simp),aD,aA rfl]
theorem xJ:((h.push o).push p)[h.size+1]?=some p:=by rw[aD,aA (by simp)]
theorem ji.pair{wq:dY}{y:fG}{o own:Nat}(hx:ji w3 x (gD w wr) q)(hy:ji w3 y (gD wq w3) q2)(h1:w.heap.size<=wq.heap.size)(h2:wr.heap.size<=w3.heap.size)(h3:w.heap.size<=w3.heap.size)(hW:W.heap=(w3.heap.push (.cells #[fq q,fq q2] 170)).push (.cells #[.int .u8 (o:Int),eF 0,.string ⟨#[]⟩,eF (pl:Int),eF (own:Int),.slice (some ⟨w3.heap.size,0,none⟩) 2 2] 184)):ji W ⟨o,0,iF,pl,own,some x,some y⟩ (gD w W) (w3.heap.size+1):=by
 have hz:W.heap.size=w3.heap.size+2:=by rw[hW];simp
 refine⟨⟨by omega,by omega⟩,w3.heap.size,q,q2,⟨by omega,by omega⟩,by omega,?_,?_,?_,?_⟩;·rw[hW];exact xJ
 ·rw[hW];exact MU
 ·exact(hx.keep fun k hk=>by rw[hW];exact MS (by have:=hk.2;omega)).mono fun k hk=>⟨⟨hk.1,by have:=hk.2;omega⟩,by have:=hk.2;omega,by have:=hk.2;omega⟩
 exact(hy.keep fun k hk=>by rw[hW];exact MS (by have:=hk.2;omega)).mono fun k hk=>⟨⟨by have:=hk.1;omega,by have:=hk.2;omega⟩,by have:=hk.2;omega,by have:=hk.2;omega⟩
def nV(b:Nat)(s:dX)(w:dY)(r:Except Nat (fG×eO))(e:Ending)(w':dY):Prop:=
 Kp b w w'/\∃q,e=fM (fq q) /\
  match r with
  |.ok (x,st)=>ji w' x (gD w w') q/\fQ w' b s st.t (-1) st.eP st.fu
  |.error p=>w.heap.size<=q/\(∃v0 v1 v2 v3 v4 v5,w'.heap[q]?=some (.cells #[v0,v1,v2,v3,v4,v5] 184))/\∃t eP fu,fQ w' b s t (p:Int) eP fu
theorem Qs(l:List UInt8)(n:Nat):(∀c∈l,c.toNat<=57)->l.foldl (fun n c=>10*n+(c.toNat-48)) n<=(n+1)*10^l.length-1:=by
 induction l generalizing n with| nil=>intro _;simp| cons c l ih=>
 intro h;have h1:=h c (by simp);have h2:=ih (10*n+(c.toNat-48)) (fun d hd=>h d (by simp[hd]));simp only[List.foldl_cons,aG];refine aK h2 ?_;have:(10*n+(c.toNat-48)+1)*10^l.length<=(n+1)*10^(l.length+1):=by rw[Nat.pow_succ,<- Nat.mul_assoc,Nat.mul_right_comm];exact Nat.mul_le_mul_right _ (by omega)
 omega
theorem WJ(l:List UInt8)(c:UInt8):iq (l++[c])=10*iq l+(c.toNat-48):=by simp[iq]
theorem MV{k:IntKind}{a b:Int}(h:a=b):Ending.returned (.int k a)=fM (.int k b):=by rw[h]
theorem WK(s:dX)(k:Nat)(h:k<s.size):s.data.toList.take (k+1)=s.data.toList.take k++[s[k]]:=by rw[aZ (by simpa using h)];rfl
theorem Qt(x:dX)(w:dY)(hx:x.size<=4)(hd:∀j(hj:j<x.size),lT x[j]=true):fI 74 #[.string x] w fun e w'=>e=fM (eF (iq x.toList:Nat))/\w'=w:=by
 have HD:Hid _:=hd;go_enter func74,ntmps74;go_wp2;go_loop [3,4] (fun n i=>∃k v:Nat,k<=x.size/\i=eF k/\n=eF v/\Hid (v=iq (x.data.toList.take k))) (fun _ i=>x.size-(intOf i).toNat)
 case atStart=>exact⟨0,0,by omega,rfl,rfl,rfl⟩
 case round=>
  obtain⟨k,v,hk,rfl,rfl,hv⟩:=hrel;by_cases hlt:k<x.size
  ·have hdk:=HD.o k hlt;unfold lT at hdk;simp only[bH,decide_eq_true_eq]at hdk;have d1:(48:Int)<=x[k].toNat:=by omega
   have d2:(x[k].toNat:Int)<=57:=by omega
   have hb:v<=1000:=by
    have h1:=Qs (x.data.toList.take k) 0 (by intro c hc;obtain⟨j,hj,rfl⟩:=dQ hc;simp only[bZ,dx]at hj;have h2:=HD.o j (by show j<x.data.size;omega);unfold lT at h2;simp only[bH,decide_eq_true_eq]at h2;simpa using(show x.data[j].toNat<=57 from h2.2));have h3:(x.data.toList.take k).length<=3:=by simp;omega
    have h4:10^(x.data.toList.take k).length<=10^3:=Nat.pow_le_pow_right (by omega) h3;have h5:v=List.foldl (fun n c=>10*n+(c.toNat-48)) 0 (x.data.toList.take k):=hv;omega
   go_wp2;refine⟨⟨k+1,10*v+(x[k].toNat-48),by omega,by go_num,?_,?_⟩,by simp[intOf];omega⟩
   ·have:(10*(v:Int)+((x[k].toNat:Int)-48))=((10*v+(x[k].toNat-48):Nat):Int):=by omega
    rw[this]
   show _=_;rw[WK x k hlt,WJ,<- hv.o]
  obtain rfl:k=x.size:=by omega
  go_wp2;go_ret;exact⟨MV (by rw[hv.o,aP,dG (by simp)]),rfl⟩
structure iH(s:dX)(n:Nat)(st:eO):Prop where
 tk:Tk s st.t
 room:s.size-st.t.a<n
 n0:0<=st.eP
 n1:st.eP+n<=1000000
theorem iH.good{st st':eO}(h:iH s n st)(g:iV s st st'):iH s n st':=⟨g.tk,by have:=h.room;have:=g.lt;omega,by rw[g.eP];exact h.n0,by rw[g.eP];exact h.n1⟩
theorem I9{x:dX}(h:gN s t x=true):s.extract t.a t.b=x:=by unfold gN at h;simp only[bH,beq_iff_eq]at h;have:=h.2;rw[aP,aP]at this;exact Go.WideShapes.bytes_inj this
def Qu(b:Nat)(s:dX)(n:Nat)(sum:Bool)(g:eO->Except Nat (fG×eO)):Prop:=
 ∀(st:eO)(w:dY),iH s n st->fQ w b s st.t (-1) st.eP st.fu ->
  fI 183 #[fq b,.bool sum] w (nV b s w (g st))
def sK(s:dX)(b:Nat)(w:dY):Nat:=
 match w.heap[b]? with
 |some (Obj.cells c _ _)=>(match c[5]?,c[3]? with
  |some (Value.int _ bad),some (Value.int _ a)=>if 0<=bad then 0 else s.size+1-a.toNat
  |_,_=>0)
 |_=>0
theorem GA(p:fQ w b s t (-1) eP fu):sK s b w=s.size+1-t.a:=by simp[sK,p.h]
theorem WL(p:fQ w b s t bad eP fu)(h:0<=bad):sK s b w=0:=by simp[sK,p.h,h]
def Qv(b:Nat)(s:dX)(n:Nat)(g:eO->Except Nat (fG×eO))(oa ob:UInt8)(pl:Nat)(R:Except Nat (fG×eO))(w wr:dY)(q:Nat):Prop:=
 Kp b w wr /\
 ((∃x st m,ji wr x (gD w wr) q/\fQ wr b s st.t (-1) st.eP st.fu/\iH s n st/\gQ s g oa ob m pl x st=R/\s.size-st.t.a<m) \/
  (∃p t eP fu,R=.error p/\w.heap.size<=q/\(∃v0 v1 v2 v3 v4 v5,wr.heap[q]?=some (.cells #[v0,v1,v2,v3,v4,v5] 184))/\fQ wr b s t ((p:Nat):Int) eP fu))
theorem row_step{g:eO->Except Nat (fG×eO)}{oa ob:UInt8}{R:Except Nat (fG×eO)}{st1:eO}{m:Nat}{o:UInt8}{O:Obj}(hb:b<w.heap.size)(hg:fP s g)(KR:Kp b w wr)(X:ji wr x (gD w wr) q)(D1:iH s n st1)(hd:iV s st1 (eZ s st1))(K2:Kp b wr w2)(hm:s.size-st1.t.a<m+1)(_ho:o.toNat<256)(CH:(match g (eZ s st1)with
   |.error p=>.error p
   |.ok (k,st')=>gQ s g oa ob m pl ⟨o.toNat,0,iF,pl,st1.t.a,some x,some k⟩ st')=R)(H3:nV b s (w2.alloc O) (g (eZ s st1)) (fM (fq q2)) w3)(hW:W.heap=(w3.heap.push (.cells #[fq q,fq q2] 170)).push (.cells #[.int .u8 (o.toNat:Int),eF 0,.string ⟨#[]⟩,eF (pl:Int),eF (st1.t.a:Int),.slice (some ⟨w3.heap.size,0,none⟩) 2 2] 184))(hK:Kp b w3 W):Qv b s n g oa ob pl R w W (w3.heap.size+1)/\sK s b W<s.size+1-st1.t.a:=by
 obtain⟨k3,q2',he,h3⟩:=H3;obtain rfl:q2=q2':=by simpa using he
 have Ey:Kp b wr w3:=K2.trans k3.wZ;have kw:Kp b w W:=(KR.trans Ey).trans hK;have s1:=KR.size;have s2:=Ey.size;have s3:=K2.size;have hz:W.heap.size=w3.heap.size+2:=by rw[hW];simp
 have pO:∀{t:iy}{bad eP fu:Int},fQ w3 b s t bad eP fu->fQ W b s t bad eP fu:=fun p=>⟨by rw[hW,MS p.lt];exact p.h⟩;have hd1:=D1.tk.le;have hd2:=D1.tk.ab;cases hr:g (eZ s st1)with
 |error p=>rw[hr]at CH h3;obtain⟨hq,hv,t,eP,fu,hp⟩:=h3;refine⟨⟨kw,aj ⟨p,t,eP,fu,CH.symm,by omega,⟨_,_,_,_,_,_,by rw[hW];exact xJ⟩,pO hp⟩⟩,?_⟩;rw[WL (pO hp) (by omega)];omega
 |ok r=>obtain⟨k,st'⟩:=r;rw[hr]at CH h3;obtain⟨hk,hp⟩:=h3;have g1:=hd.trans (hg _ _ _ hd.tk hr);have g2:=g1.lt;have g3:=g1.tk.ab;have g4:=g1.tk.le;refine⟨⟨kw,ak ⟨_,st',m,ji.pair (X.kp hb Ey) hk (by simp;omega) s2 (by omega) hW,pO hp,D1.good g1,CH,by omega⟩⟩,?_⟩;rw[GA (pO hp)];omega
theorem WM(b:Nat)(s:dX)(n:Nat)(sum:Bool)(g:eO->Except Nat (fG×eO))(hp:Qu b s n sum g)(hg:fP s g)(oa ob:UInt8)(st:eO)(w:dY)(hD:iH s n st)(p:fQ w b s st.t (-1) st.eP st.fu)(hs:s.size<=maxLen):fI 149 #[fq b,.string ⟨#[oa]⟩,.string ⟨#[ob]⟩,.bool sum] w (nV b s w (Px.row s g oa ob st)):=by
 obtain⟨c0,c1,c2,c3,c4,c5,c6,c7,f,hb⟩:=p.cells;have HP:Hid _:=p;have HD:Hid _:=hD;have HG:Hid _:=hg;go_enter func149,ntmps149;go_wp2_with fail;refine(hp st _ HD.o HP.o).mono ?_;rintro e w1 ⟨k1,q,rfl,h1⟩;have R0:Hid (Qv b s n g oa ob st.t.a (Px.row s g oa ob st) w w1 q):=by
  refine⟨k1,?_⟩;unfold Px.row;cases hr:g st with
  |error p1=>rw[hr]at h1;obtain⟨hq,hv,t,eP,fu,pO⟩:=h1;exact aj ⟨p1,t,eP,fu,rfl,hq,hv,pO⟩
  |ok r=>
  obtain⟨x,st1⟩:=r;rw[hr]at h1;have g1:=HG.o _ _ _ HD.o.tk hr;exact ak ⟨x,st1,s.size+1,h1.1,h1.2,HD.o.good g1,rfl,by omega⟩
 go_wp2_with fail;go_loopw [10] (fun v wr=>∃q,v=fq q/\Hid (Qv b s n g oa ob st.t.a (Px.row s g oa ob st) w wr q)) (fun _ wr=>sK s b wr)
 case atStart=>exact⟨q,rfl,R0⟩
 case round=>
  obtain⟨q,rfl,hR⟩:=hrel;obtain⟨kr,hcase⟩:=hR.o;have KR:Hid _:=kr;obtain⟨x,st1,m,hx,p1,hD1,hch,hm⟩|⟨pe,t,eP,fu,hRe,hq,hv,p1⟩:=hcase
  ·obtain⟨m,rfl⟩:∃m',m=m'+1:=⟨m-1,by omega⟩;have X:Hid _:=hx;have P1:Hid _:=p1;have D1:Hid _:=hD1;have CH:Hid _:=hch;cases ha:gN s st1.t ⟨#[oa]⟩
   ·cases rH:gN s st1.t ⟨#[ob]⟩
    ·go_wp2_with (first|(go_at_call 146;refine(wL b s _ st1.t st1.eP st1.fu _ P1.o).mono ?_;rintro e w' ⟨rfl,rfl⟩))
     go_ret;refine⟨KR.o,q,rfl,?_⟩;rw[<- CH.o,gQ,ah (by simp[ha]),ah (by simp[rH])];exact⟨X.o,P1.o⟩
    go_wp2_with (first|(go_at_call 146;refine(wL b s _ st1.t st1.eP st1.fu _ P1.o).mono ?_;rintro e w' ⟨rfl,rfl⟩))
    refine(wM b s st1.t st1.eP st1.fu _ P1.o D1.o.tk.le hs).mono ?_;unfold mh;rw[I9 rH];rintro e w2 ⟨rfl,p2,k2⟩;have P2:Hid _:=p2;have K2:Hid _:=k2;have hb2:b<w2.heap.size:=p2.lt;go_wp2_with fail;refine(hp (eZ s st1) _ (D1.o.good (jh D1.o.tk rH)) (P2.o.alloc _)).mono ?_;rintro e w3 ⟨k3,q2,rfl,h3⟩;obtain⟨a0,a1,a2,a3,af⟩:=qR (yY k3 hb2);have hz3:w2.heap.size<w3.heap.size:=by have:=k3.size;simp at this;omega
    have H3:Hid (nV b s (w2.alloc _) (g (eZ s st1)) (fM (fq q2)) w3):=⟨k3,q2,rfl,h3⟩;go_wp2_with fail;go_region
    go_wp2;obtain⟨r1,r2⟩:=row_step (n:=n) (oa:=oa) (ob:=ob) (R:=Px.row s g oa ob st) (pl:=st.t.a) (o:=ob) (W:=((w3.alloc (.cells #[fq q,fq q2] 170)).alloc (.cells #[.int .u8 (ob.toNat:Int),eF 0,.string ⟨#[]⟩,eF (st.t.a:Int),eF (st1.t.a:Int),.slice (some ⟨w3.heap.size,0,none⟩) 2 2] 184)).drew)
     hb HG.o KR.o X.o D1.o (jh D1.o.tk rH) K2.o hm ob.toNat_lt (by rw[<- CH.o,gQ,ah (by simp[ha]),aA rH];cases g (eZ s st1)<;>rfl) H3.o rfl (((Kp.refl _ _).alloc _).alloc _).drew
    exact⟨⟨w3.heap.size+1,rfl,r1⟩,by rw[GA P1.o];exact r2⟩
   go_wp2_with (first|(go_at_call 146;refine(wL b s _ st1.t st1.eP st1.fu _ P1.o).mono ?_;rintro e w' ⟨rfl,rfl⟩))
   refine(wM b s st1.t st1.eP st1.fu _ P1.o D1.o.tk.le hs).mono ?_;unfold mh;rw[I9 ha];rintro e w2 ⟨rfl,p2,k2⟩;have P2:Hid _:=p2;have K2:Hid _:=k2;have hb2:b<w2.heap.size:=p2.lt;go_wp2_with fail;refine(hp (eZ s st1) _ (D1.o.good (jh D1.o.tk ha)) (P2.o.alloc _)).mono ?_;rintro e w3 ⟨k3,q2,rfl,h3⟩;obtain⟨a0,a1,a2,a3,af⟩:=qR (yY k3 hb2);have hz3:w2.heap.size<w3.heap.size:=by have:=k3.size;simp at this;omega
   have H3:Hid (nV b s (w2.alloc _) (g (eZ s st1)) (fM (fq q2)) w3):=⟨k3,q2,rfl,h3⟩;go_wp2_with fail;go_region
   go_wp2;obtain⟨r1,r2⟩:=row_step (n:=n) (oa:=oa) (ob:=ob) (R:=Px.row s g oa ob st) (pl:=st.t.a) (o:=oa) (W:=((w3.alloc (.cells #[fq q,fq q2] 170)).alloc (.cells #[.int .u8 (oa.toNat:Int),eF 0,.string ⟨#[]⟩,eF (st.t.a:Int),eF (st1.t.a:Int),.slice (some ⟨w3.heap.size,0,none⟩) 2 2] 184)).drew)
    hb HG.o KR.o X.o D1.o (jh D1.o.tk ha) K2.o hm oa.toNat_lt (by rw[<- CH.o,gQ,aA ha];cases g (eZ s st1)<;>rfl) H3.o rfl (((Kp.refl _ _).alloc _).alloc _).drew
   exact⟨⟨w3.heap.size+1,rfl,r1⟩,by rw[GA P1.o];exact r2⟩
  have P1:Hid _:=p1;have V:Hid (_/\_/\_):=⟨hRe,hq,hv⟩;go_wp2_with (first|(go_at_call 146;refine(Et b s _ t (pe:Int) eP fu _ P1.o (by omega)).mono ?_;rintro e w' ⟨rfl,rfl⟩))
  go_ret;refine⟨KR.o,q,rfl,?_⟩;rw[V.o.1];exact⟨V.o.2.1,V.o.2.2,t,eP,fu,P1.o⟩
