import Derived.Test.YtokkhhekekeokaaGreatDoorH37
import Derived.Test.YtokkhhekekeokaaGreatDoorH27
import Derived.Test.YtokkhhekekeokaaGreatDoorH36
import Derived.Test.YtokkhhekekeokaaGreatDoorH09
set_option maxRecDepth 100000
set_option maxHeartbeats 4000000
namespace Go.Proofs.YtokkhhekekeokaaGreatDoor
open Go.RowKit
namespace Cd
theorem nb_of {w wf:World} {Z:Obj} {W0:World} (h0:W0=((((w.alloc Z).alloc (.cells #[.int .i64 0] 150)).alloc (.cells #[.int .i64 1] 150)).alloc (.cells #[.int .i64 1] 150))) (hT:Tch (fun _=>False) W0 wf) (hs:wf.heap.size=w.heap.size+16) :
  NB (((((((wf.alloc (.cells #[.int .i64 3] 150)).alloc (.cells #[.int .i64 3] 150)).alloc (.cells #[.int .i64 3] 150)).alloc (.cells #[.int .i64 3] 150)).alloc (.cells #[.int .i64 3] 150)).alloc (.cells #[.int .i64 2,.int .i64 0] 150)).alloc (.cells #[.int .i64 2] 150)) w.heap.size:=by
 subst h0;obtain ⟨y1,y2,y3⟩:=blk3 w Z (.cells #[.int .i64 0] 150) (.cells #[.int .i64 1] 150) (.cells #[.int .i64 1] 150);have t2:=hT.trans (Rn.al7 wf (.cells #[.int .i64 3] 150) (.cells #[.int .i64 3] 150) (.cells #[.int .i64 3] 150) (.cells #[.int .i64 3] 150) (.cells #[.int .i64 3] 150) (.cells #[.int .i64 2,.int .i64 0] 150) (.cells #[.int .i64 2] 150));obtain ⟨z0,z1,z2,z3,z4,z5,z6⟩:=blk7 wf (.cells #[.int .i64 3] 150) (.cells #[.int .i64 3] 150) (.cells #[.int .i64 3] 150) (.cells #[.int .i64 3] 150) (.cells #[.int .i64 3] 150) (.cells #[.int .i64 2,.int .i64 0] 150) (.cells #[.int .i64 2] 150)
 rw[hs] at z0 z1 z2 z3 z4 z5 z6;refine ⟨zyq t2 (zyt y1 0),zyq t2 (zyt y2 0),zyq t2 (zyt y3 0),fun j hj=>?_,zyt z5 0,zyt z5 1,zyt z6 0⟩
 match j,hj with
 | 0,_=>exact zyt z0 0
 | 1,_=>exact zyt z1 0
 | 2,_=>exact zyt z2 0
 | 3,_=>exact zyt z3 0
 | 4,_=>exact zyt z4 0
 | j+5,hj=>exact absurd hj (by omega)
theorem yao (w:World) :
  Calls Tryz.prog 26 #[] w fun e w'=>e=.returned (.agg (Rn.tabL w.heap.size).toArray)∧Tch (fun _=>False) w w'∧NB w' w.heap.size:=by
 go_enter Tryz.func26,Tryz.ntmps26
 go_wp2_with (first
  | (go_at_call 55;refine (Rn.zl8 _ _).mono ?_;rintro e w1 ⟨rfl,hs,HP⟩)
  | (refine Rn.ze1 rfl _ _ rfl w.heap.size _ rfl rfl (by kernel_rfl) ?ht ?hh))
 case ht =>
  rename_i wa ha Ha wb hb Hb wc hc Hc wd hd Hd we he He;exact Rn.qqy Rn.qw4 (Rn.qu9 ha hb hc hd he Ha.out Hb.out Hc.out Hd.out He.out HP.out (Rn.al7 _ _ _ _ _ _ _ _)).1
 case hh =>
  rename_i wa ha Ha wb hb Hb wc hc Hc wd hd Hd we he He;have Q:=Rn.qu9 ha hb hc hd he Ha.out Hb.out Hc.out Hd.out He.out HP.out (Rn.al7 w1 (.cells #[.int .i64 3] 150) (.cells #[.int .i64 3] 150) (.cells #[.int .i64 3] 150) (.cells #[.int .i64 3] 150) (.cells #[.int .i64 3] 150) (.cells #[.int .i64 2,.int .i64 0] 150) (.cells #[.int .i64 2] 150));have hth:=Rn.qqy Rn.qw4 Q.1;refine bodyPost_ret (Rn.qxj _ _ w.heap.size rfl (World.rangeAt_setCells_same _ _ _ _ hth)) rfl ⟨rfl,?_,NB.laid ?_ _⟩
  ·exact Rn.qu7 _ (Nat.le_refl _) _ _ _ (((Tch.refl _ _).alloc _).trans Q.1)
  ·refine nb_of rfl (Ha.out.1.trans (Hb.out.1.trans (Hc.out.1.trans (Hd.out.1.trans (He.out.1.trans HP.out.1))))) ?_;have h4:∀ (Z A1 A2 A3:Obj),((((w.alloc Z).alloc A1).alloc A2).alloc A3).heap.size=w.heap.size+4:=fun Z A1 A2 A3=>by
    show ((((w.heap.push Z).push A1).push A2).push A3).size=_
    simp
   rw[h4] at ha;omega
open Go.RowKit
theorem zzv {S T:List (Option Px.Vst)} {q:Nat} {s:Px.Vst} (hq:q < S.length) (h:Px.qbs S q s=some T):∀ r,Px.atV T r=if r=q then some s else Px.atV S r:=by
 unfold Px.qbs at h;intro r;split at h
 ·cases h;exact Px.quh S q r s hq
 ·next t ht =>
  split at h
  ·next e =>
   cases h;by_cases hr:r=q
   ·rw[if_pos hr,hr,ht,e]
   ·rw[if_neg hr]
  ·cases h
def May (S:List (Option Px.Vst)) (p:Nat) (s:Px.Vst):Prop:=s.1≤p∧∀ q',s.2=some q'→q' < p∧∃ t,Px.atV S q'=some t
theorem May.next {S:List (Option Px.Vst)} {p:Nat} {s:Px.Vst} (h:May S p s):May S (p+1) s:=⟨by have:=h.1;omega,fun q' e=>⟨by have:=(h.2 q' e).1;omega,(h.2 q' e).2⟩⟩
theorem May.reach {S T:List (Option Px.Vst)} {p q:Nat} {s u:Px.Vst} (h:May S p u) (hq:q < S.length) (e:Px.qbs S q s=some T):May T p u :=
 ⟨h.1,fun q' e'=>⟨(h.2 q' e').1,by
  obtain ⟨t,ht⟩:=(h.2 q' e').2;rw[zzv hq e q'];by_cases hr:q'=q
  ·exact ⟨s,if_pos hr⟩
  ·exact ⟨t,by rw[if_neg hr];exact ht⟩⟩⟩
theorem Kn.next {S:List (Option Px.Vst)} {p:Nat} (h:Kn S p):Kn S (p+1):=fun q s e=>May.next (h q s e)
theorem Kn.reach {S T:List (Option Px.Vst)} {p q:Nat} {s:Px.Vst} (h:Kn S p) (hs:May S p s) (hq:q < S.length) (e:Px.qbs S q s=some T):Kn T p∧T.length=S.length:=by
 refine ⟨fun r u hu=>?_,zyz e⟩
 have hu':=hu;rw[zzv hq e r] at hu';by_cases hr:r=q
 ·rw[if_pos hr] at hu';cases hu';exact May.reach hs hq e
 ·rw[if_neg hr] at hu';exact May.reach (h r u hu') hq e
theorem Kn.two {S T:List (Option Px.Vst)} {p q r:Nat} {s t:Px.Vst} (h:Kn S p) (hs:May S p s) (ht:May S p t) (hq:q < S.length) (hr:r < S.length) (e:((Px.qbs S q s).bind fun S=>Px.qbs S r t)=some T):Kn T p∧T.length=S.length:=by
 cases e1:Px.qbs S q s with
 | none=>rw[e1] at e;cases e
 | some S1 =>
  rw[e1] at e;have e2:Px.qbs S1 r t=some T:=e;obtain ⟨k1,l1⟩:=h.reach hs hq e1;obtain ⟨k2,l2⟩:=k1.reach (ht.reach hq e1) (by omega) e2
  exact ⟨k2,by omega⟩
theorem Kn.look {P:Px.Pg} {S T:List (Option Px.Vst)} {p k a c:Nat} (h:Kn S p) (hS:S.length=P.ins.length+1) (hp:p+1 < S.length) (e:Px.qhl P S p ⟨k,a,c⟩=some T):Kn T (p+1)∧T.length=S.length:=by
 unfold Px.qhl at e;cases hv:Px.atV S p with
 | none=>rw[hv] at e;cases e
 | some now =>
  rw[hv] at e;dsimp only at e;cases hf:Px.fitV P ⟨k,a,c⟩ with
  | false=>rw[hf] at e;cases e
  | true =>
   rw[hf,if_neg (by decide)] at e
   split at e
   ·cases e
   ·next ht =>
    split at e
    ·cases e
    ·next h16 =>
     have hm:May S p now:=h p now hv;have hm1:=hm.next;have hg:=zoh k;have hnx:May S (p+1) (now.1+Px.qdd k - Px.qbf k,now.2):=⟨by have:=hm.1;show _ - _≤_;omega,hm1.2⟩
     have hl:12≤k→k≤16→a < S.length:=fun g1 g2=>by
      unfold Px.fitV at hf;dsimp only at hf;rw[if_neg (by omega),if_neg (by omega),if_pos ⟨g1,g2⟩] at hf
      rw[hS];exact of_decide_eq_true hf
     have hK:=h.next;unfold Px.znm at e;dsimp only at e;split at e
     ·next e12=>exact hK.reach hnx (hl (by omega) (by omega)) e
     ·split at e
      ·next e13=>exact hK.two hnx hnx (hl (by omega) (by omega)) hp e
      ·split at e
       ·next e14 =>
        have h14:May S (p+1) (now.1+Px.qdd k - Px.qbf k - 1,now.2):=⟨by have:=hnx.1;dsimp only at this ⊢;omega,hnx.2⟩
        exact hK.two h14 hnx (hl (by omega) (by omega)) hp e
       ·split at e
        ·next e15 =>
         have h15:May S (p+1) (now.1+Px.qdd k - Px.qbf k,some p):=⟨hnx.1,fun q' g=>by cases g;exact ⟨by omega,now,hv⟩⟩
         exact hK.two hm1 h15 (hl (by omega) (by omega)) hp e
        ·split at e
         ·next e16 =>
          refine hK.reach ?_ (hl (by omega) (by omega)) e
          cases h2:now.2 with
          | none=>exact absurd ⟨e16,Or.inl h2⟩ h16
          | some q =>
           obtain ⟨t,ht⟩:=(hm1.2 q h2).2;show May S (p+1) ((Px.atV S q).getD (0,none))
           rw[ht];exact May.next (h q t ht)
         ·exact hK.reach hnx hp e
theorem ybg (n:Nat):Kn (Px.qi1 n) 0:=by
 intro q s e;cases q with
 | zero =>
  cases e;exact ⟨Nat.le_refl _,fun q' g=>by cases g⟩
 | succ q =>
  exfalso
  have:Px.atV (Px.qi1 n) (q+1)=none:=by
   unfold Px.atV Px.qi1;rw[List.getD_cons_succ,List.getD_eq_getElem?_getD,List.getElem?_replicate];split<;>rfl
  rw[this] at e;cases e
open Go.RowKit
theorem yas:(Tryz.prog.info? 198).map (fun i=>(i.zero,i.size,i.bytes))=some (some (.agg #[.bool false,.int .i64 0,.int .i64 0]),3,24):=by kernel_rfl
theorem yap (n:Nat):madeCells #[.bool false,.int .i64 0,.int .i64 0] (n * 3)=((List.replicate n (none:Option Px.Vst)).flatMap stC).toArray:=by
 have hl:((List.replicate n (none:Option Px.Vst)).flatMap stC).length=n * 3:=by
  induction n with
  | zero=>rfl
  | succ n ih =>
   rw[List.replicate_succ,List.flatMap_cons,List.length_append,ih];show 3+n * 3=_
   omega
 apply Array.ext
 ·rw[size_madeCells,List.size_toArray,hl]
 ·intro i h1 h2;have hi:i < n * 3:=by rw[size_madeCells] at h1;exact h1
  have e:=yaz (S:=List.replicate n (none:Option Px.Vst)) (p:=i / 3) (by rw[List.length_replicate];omega) (i % 3) (Nat.mod_lt _ (by decide))
  rw[show i / 3 * 3+i % 3=i by omega] at e
  have ea:Px.atV (List.replicate n (none:Option Px.Vst)) (i / 3)=none:=by
   unfold Px.atV;rw[List.getD_eq_getElem?_getD,List.getElem?_replicate];split<;>rfl
  rw[ea] at e;have e2:((List.replicate n (none:Option Px.Vst)).flatMap stC)[i]?=some (((List.replicate n (none:Option Px.Vst)).flatMap stC).toArray[i]'h2):=by simp
  rw[e2] at e;have h3:i % 3=0∨i % 3=1∨i % 3=2:=by omega
  simp only[madeCells,Array.getElem_map,Array.getElem_range];show (#[Value.bool false,.int .i64 0,.int .i64 0])[i % 3]! =_
  rcases h3 with h | h | h<;>rw[h] at e ⊢<;>exact (Option.some.inj e).symm
theorem ya7 (n:Nat) (hn:n≤1000000) (w:World):(Instr.makeSlice 194 (.int .i64 (n:Int)) (.int .i64 (n:Int))).run Tryz.prog w=.ok (.slice (some ⟨w.heap.size,0,none⟩) n n) (w.alloc (.cells ((List.replicate n (none:Option Px.Vst)).flatMap stC).toArray 198)):=by
 obtain ⟨i,hi,hzz⟩:=Option.map_eq_some_iff.1 yas;simp only[Prod.mk.injEq] at hzz;obtain ⟨hz,hs,hb⟩:=hzz;have h:=run_make w 194 198 i _ Tryz.underlying194 hi hz .i64 .i64 (n:Int) (n:Int) (by omega) (by omega) (by rw[hb];omega) (by omega)
 rw[hs,Int.toNat_natCast] at h;rw[h,← yap];rfl
open Go.RowKit
structure NewV (pp n:Nat) (w w':World) (bv gs nt:Nat):Prop where
 v:VfAt w' bv gs nt pp (List.replicate (n+1) none)
 nb:NB w' nt
 t:Tch (fun _=>False) w w'
 b:w.heap.size≤bv
 g:w.heap.size≤gs
 ng:nt+22 < gs∨gs < nt+1
theorem zzb (m:Nat) (pp:Nat) (vv:Value):(Array.foldl (fun (cs:Array Value) (x:Value×Nat)=>cs.setIfInBounds (1+x.2) x.1) (Tryz.zeroCells196.setIfInBounds 0 (.pointer (some ⟨pp,0,none⟩))) (Rn.tabL m).toArray.zipIdx 0 80).setIfInBounds 81 vv=(Value.pointer (some ⟨pp,0,none⟩)::(Rn.tabL m++[vv])).toArray:=by kernel_rfl
theorem NB.tch {w W:World} {n:Nat} (h:NB w n) (t:Tch (fun _=>False) w W):NB W n:=⟨zyq t h.a,zyq t h.b,zyq t h.c,fun j hj=>zyq t (h.p j hj),zyq t h.d,zyq t h.e,zyq t h.f⟩
theorem ybc {pp n:Nat} {w w1:World} {T SC:Array Value} (hn:n≤100000) (hSC:((List.replicate (n+1) (none:Option Px.Vst)).flatMap stC).toArray=SC) (h:T=(Rn.tabL w.drew.heap.size).toArray∧Tch (fun _=>False) w.drew w1∧NB w1 w.drew.heap.size) :
  NewV pp n w ((w1.alloc (.cells SC 198)).alloc (.cells ((Array.foldl (fun (cs:Array Value) (x:Value×Nat)=>cs.setIfInBounds (1+x.2) x.1) (Tryz.zeroCells196.setIfInBounds 0 (.pointer (some ⟨pp,0,none⟩))) T.zipIdx 0 80).setIfInBounds 81 (.slice (some ⟨w1.heap.size,0,none⟩) (n+1) (n+1))) 196)) (w1.heap.size+1) w1.heap.size w.drew.heap.size:=by
 obtain ⟨rfl,hT,hb⟩:=h;subst hSC;have hs:w.heap.size≤w1.heap.size:=hT.size;have hz:=lt_of_cell hb.f;rw[zzb];refine ⟨⟨?_,?_,by omega,by rw[List.length_replicate];omega⟩,hb.tch (((Tch.refl _ w1).alloc _).alloc _),((((Tch.refl _ w).drew).trans hT).alloc _).alloc _,by omega,hs,Or.inl hz⟩
 ·rw[List.length_replicate];exact Lg.new2
 ·exact (((Tch.refl (fun _=>False) (w1.alloc _)).alloc _).block w1.heap.size (by simp) fun h=>h).trans Lg.new1
theorem ybb {pp n:Nat} {w w1:World} {T SC:Array Value} (hn:n≤100000) (hSC:((List.replicate (n+1) (none:Option Px.Vst)).flatMap stC).toArray=SC) (h:T=(Rn.tabL (w.alloc (.cells SC 198)).drew.heap.size).toArray∧Tch (fun _=>False) (w.alloc (.cells SC 198)).drew w1∧NB w1 (w.alloc (.cells SC 198)).drew.heap.size) :
  NewV pp n w (w1.alloc (.cells ((Array.foldl (fun (cs:Array Value) (x:Value×Nat)=>cs.setIfInBounds (1+x.2) x.1) (Tryz.zeroCells196.setIfInBounds 0 (.pointer (some ⟨pp,0,none⟩))) T.zipIdx 0 80).setIfInBounds 81 (.slice (some ⟨w.heap.size,0,none⟩) (n+1) (n+1))) 196)) w1.heap.size w.heap.size (w.alloc (.cells SC 198)).drew.heap.size:=by
 obtain ⟨rfl,hT,hb⟩:=h;subst hSC;have e:(w.alloc (.cells ((List.replicate (n+1) (none:Option Px.Vst)).flatMap stC).toArray 198)).drew.heap.size=w.heap.size+1:=by
  show (w.heap.push _).size=_
  simp
 have hs:=hT.size;rw[e] at hs hb ⊢;rw[zzb];refine ⟨⟨?_,?_,by omega,by rw[List.length_replicate];omega⟩,hb.tch ((Tch.refl _ w1).alloc _),((((Tch.refl _ w).alloc _).drew).trans hT).alloc _,by omega,Nat.le_refl _,Or.inr (by omega)⟩
 ·rw[List.length_replicate];exact Lg.new1
 ·refine ((((Tch.refl (fun _=>False) w1).alloc _).block w.heap.size (by omega) fun h=>h).trans (hT.block w.heap.size (by rw[e];omega) fun h=>h)).trans ?_
  exact Lg.new1
open Go.RowKit
structure VL (pp:Nat) (w wr:World) (bv gs nt ba:Nat) (S:List (Option Px.Vst)):Prop where
 v:VfAt wr bv gs nt pp S
 nb:NB wr nt
 t:Tch (fun _=>False) w wr
 b:w.heap.size≤bv
 g:w.heap.size≤gs
 ng:nt+22 < gs∨gs < nt+1
 r:wr.heap[ba]?=some (.cells #[.bool true,.int .i64 0,.int .i64 (-1)] 198)
 ra:ba≠gs
theorem NB.set {W:World} {n g o:Nat} (h:NB W n) (hg:n+22 < g∨g < n+1) (v:Value):NB (W.setCell ⟨g,o,none⟩ v) n:=by
 have k:∀ b o',n+1≤b→b≤n+22→(W.setCell ⟨g,o,none⟩ v).cell? ⟨b,o',none⟩=W.cell? ⟨b,o',none⟩:=fun b o' h1 h2=>Rn.qb4 (fun e=>by have:=congrArg Addr.block e;dsimp only at this;omega)
 exact ⟨(k _ _ (by omega) (by omega)).trans h.a,(k _ _ (by omega) (by omega)).trans h.b,(k _ _ (by omega) (by omega)).trans h.c,fun j hj=>(k _ _ (by omega) (by omega)).trans (h.p j hj),(k _ _ (by omega) (by omega)).trans h.d,(k _ _ (by omega) (by omega)).trans h.e,(k _ _ (by omega) (by omega)).trans h.f⟩
theorem ya5 {pp n:Nat} {w wc:World} {bv gs nt:Nat} (h:NewV pp n w wc bv gs nt) :
  VL pp w ((((wc.setCell ⟨gs,0,none⟩ (.bool true)).setCell ⟨gs,1,none⟩ (.int .i64 0)).setCell ⟨gs,2,none⟩ (.int .i64 (-1))).alloc (.cells #[.bool true,.int .i64 0,.int .i64 (-1)] 198)).drew bv gs nt wc.heap.size (Px.qi1 n):=by
 have hgs:gs < wc.heap.size:=lt_of_block h.v.s;have hv:=h.v.set (p:=0) (by rw[List.length_replicate];omega) (0,none)
 have hv':VfAt (((wc.setCell ⟨gs,0,none⟩ (.bool true)).setCell ⟨gs,1,none⟩ (.int .i64 0)).setCell ⟨gs,2,none⟩ (.int .i64 (-1))) bv gs nt pp (Px.qi1 n):=hv;obtain ⟨w3,h3⟩:∃ w3,((wc.setCell ⟨gs,0,none⟩ (.bool true)).setCell ⟨gs,1,none⟩ (.int .i64 0)).setCell ⟨gs,2,none⟩ (.int .i64 (-1))=w3:=⟨_,rfl⟩;have hb3:NB w3 nt:=by rw[← h3];exact ((h.nb.set h.ng _).set h.ng _).set h.ng _
 have ht3:Tch (fun _=>False) w w3:=by rw[← h3];exact ((h.t.setCell (p:=⟨gs,0,none⟩) (Or.inr h.g) _).setCell (p:=⟨gs,1,none⟩) (Or.inr h.g) _).setCell (p:=⟨gs,2,none⟩) (Or.inr h.g) _
 have hsz:w3.heap.size=wc.heap.size:=by rw[← h3];simp
 rw[h3] at hv' ⊢;rw[← hsz];refine ⟨hv'.tch (((Tch.refl _ w3).alloc _).drew),hb3.tch (((Tch.refl _ w3).alloc _).drew),(ht3.alloc _).drew,h.b,h.g,h.ng,Lg.new1,by omega⟩
open Go.RowKit
theorem yaq (P:Px.Pg) (S:List (Option Px.Vst)) (p:Nat) (i:Px.Ins):Px.qdv P S p [i]=Px.qhl P S p i:=by
 show (Px.qhl P S p i).bind (fun T=>some T)=_
 cases Px.qhl P S p i<;>rfl
theorem zzc {P:Px.Pg} {n m:Nat} {S:List (Option Px.Vst)} (hm:m < P.ins.length) (h:Px.qdv P (Px.qi1 n) 0 (P.ins.take m)=some S):Px.qdv P (Px.qi1 n) 0 (P.ins.take (m+1))=Px.qhl P S m P.ins[m]:=by
 rw[← List.take_append_getElem hm,Px.qmt,h];show Px.qdv P S (0+(P.ins.take m).length) [P.ins[m]]=_
 rw[yaq,List.length_take,Nat.min_eq_left (Nat.le_of_lt hm),Nat.zero_add]
theorem yar {P:Px.Pg} {n m:Nat} (h:Px.qdv P (Px.qi1 n) 0 (P.ins.take m)=none):Px.qdv P (Px.qi1 n) 0 P.ins=none:=by
 have e:P.ins=P.ins.take m++P.ins.drop m:=(List.take_append_drop m P.ins).symm;rw[e,Px.qmt,h];rfl
theorem ybv {P:Px.Pg} {m:Nat} {S:List (Option Px.Vst)} (hm:m < P.ins.length) (h:Px.qdv P (Px.qi1 P.ins.length) 0 (P.ins.take m)=some S) (h2:Px.qhl P S m P.ins[m]=none):Px.verV P=false:=by
 have h3:Px.qdv P (Px.qi1 P.ins.length) 0 P.ins=none:=yar (m:=m+1) ((zzc hm h).trans h2);unfold Px.verV;rw[h3]
theorem ybu {P:Px.Pg} {S:List (Option Px.Vst)} (h:Px.qdv P (Px.qi1 P.ins.length) 0 (P.ins.take P.ins.length)=some S):Px.verV P=(match Px.atV S P.ins.length with
  | none=>true
  | some s=>s == (0,none)):=by
 rw[List.take_length] at h;unfold Px.verV;rw[h];simp only;cases Px.atV S P.ins.length<;>rfl
theorem VL.look {pp:Nat} {w wr wx w':World} {bv gs nt ba:Nat} {S T:List (Option Px.Vst)} (h:VL pp w wr bv gs nt ba S) (t1:Tch (fun _=>False) wr wx) (t2:Tch (·=gs) wx w') (hv:VfAt w' bv gs nt pp T):VL pp w w' bv gs nt ba T:=by
 have hba:ba < wr.heap.size:=lt_of_block h.r;have k:∀ {b o:Nat} {v:Value},b≠gs→wr.cell? ⟨b,o,none⟩=some v→w'.cell? ⟨b,o,none⟩=some v:=fun {b o v} hb hc=>by
  have hl:=lt_of_cell hc;rw[World.cell?_of_block (w:=wx) (a:=⟨b,o,none⟩) (t2.block b (Nat.lt_of_lt_of_le hl t1.size) hb)];exact zyq t1 hc
 have ng:=h.ng;refine ⟨hv,⟨k (by omega) h.nb.a,k (by omega) h.nb.b,k (by omega) h.nb.c,fun j hj=>k (by omega) (h.nb.p j hj),k (by omega) h.nb.d,k (by omega) h.nb.e,k (by omega) h.nb.f⟩,?_,h.b,h.g,h.ng,?_,h.ra⟩
 ·have g:=h.g;have t3:Tch (·=gs) w w':=((h.t.trans t1).mono fun _ _ h=>h.elim).trans t2
  exact t3.mono fun j hj e=>by omega
 ·exact ((t2.block ba (Nat.lt_of_lt_of_le hba t1.size) h.ra).trans (t1.block ba hba fun h=>h)).trans h.r
theorem VL.tch {pp:Nat} {w wr wx:World} {bv gs nt ba:Nat} {S:List (Option Px.Vst)} (h:VL pp w wr bv gs nt ba S) (t1:Tch (fun _=>False) wr wx):VL pp w wx bv gs nt ba S :=
 h.look t1 (Tch.refl _ _) (h.v.tch t1)
open Go.RowKit
def VLm (pp:Nat) (w:World) (P:Px.Pg) (bv gs nt ba m:Nat) (wr:World):Prop :=
 ∃ S,VL pp w wr bv gs nt ba S∧Px.qdv P (Px.qi1 P.ins.length) 0 (P.ins.take m)=some S∧Kn S m∧S.length=P.ins.length+1
theorem zz3 (pp B0:Nat) (P:Px.Pg) (N:List ByteArray) (w:World) (hP:Mk.PgAt w B0 P N pp) (hok:∀ i∈P.ins,Px.OkI i) (hn:P.ins.length≤100000) :
  Calls Tryz.prog 36 #[.pointer (some ⟨pp,0,none⟩)] w (Verd P w):=by
 obtain ⟨_,vl,vw,vn,h0,hl,hw,_⟩:=hP;obtain ⟨a1,n1,c1,rfl⟩:=Ref.qad hw;obtain ⟨la,n2,lc,rfl⟩:=Ref.qad hl;obtain ⟨rfl,_,_⟩:=Mk.qsi hw;obtain ⟨rfl,hI⟩:=zn4 hl;have p0:Hid (w.cell? ⟨pp,0,none⟩=some (.slice a1 P.words.length c1)):=by unfold Hid;simp[World.cell?,h0]
 have p1:Hid (w.cell? ⟨pp,1,none⟩=some (.int .i64 (P.nv:Int))):=by unfold Hid;simp[World.cell?,h0]
 have hp:w.cell? ⟨pp,3,none⟩=some (.slice la P.ins.length lc):=by simp[World.cell?,h0]
 have HI:Hid (_):=hI;have OK:Hid (∀ i∈P.ins,Px.OkI i):=hok;clear h0 hl hw hI hok;obtain ⟨n,hnn⟩:∃ n,P.ins.length=n:=⟨_,rfl⟩;have HN:Hid (P.ins.length=n):=hnn;rw[hnn] at hp hn;clear hnn;have hmk:∀ W:World,(Instr.makeSlice 194 (.int .i64 ((n:Int)+1)) (.int .i64 ((n:Int)+1))).run Tryz.prog W=.ok (.slice (some ⟨W.heap.size,0,none⟩) (n+1) (n+1)) (W.alloc (.cells ((List.replicate (n+1) (none:Option Px.Vst)).flatMap stC).toArray 198)):=ya7 (n+1) (by omega)
 obtain ⟨SC,hSC⟩:∃ SC,((List.replicate (n+1) (none:Option Px.Vst)).flatMap stC).toArray=SC:=⟨_,rfl⟩;rw[hSC] at hmk;have hwr:IntKind.i64.wrap ((n:Int)+1)=(n:Int)+1:=by rw[IntKind.wrap_i64];omega
 have hpz:=lt_of_cell hp;have HM:Hid (∀ W:World,W.cell? ⟨pp,3,none⟩=some (.slice la n lc)→Calls Tryz.prog 26 #[] W fun e w1=>∃ T:Array Value,e=.returned (.agg T)∧T.size=80∧(∀ cs:Array Value,(Array.foldl (fun (cs:Array Value) (x:Value×Nat)=>cs.setIfInBounds (1+x.2) x.1) cs T.zipIdx 0 80).size=cs.size)∧w1.cell? ⟨pp,3,none⟩=some (.slice la n lc)∧Hid (T=(Rn.tabL W.heap.size).toArray∧Tch (fun _=>False) W w1∧NB w1 W.heap.size)):=fun W hW=>by
  refine (yao W).mono ?_;rintro e w1 ⟨rfl,hT,hc⟩;exact ⟨_,rfl,rfl,zzd rfl,zyq hT hW,rfl,hT,hc⟩
 go_enter Tryz.func36,Tryz.ntmps36
 go_upto_region 1 with fail
 go_cut [3] (fun v3 wc=>∃ bv,v3=.pointer (some ⟨bv,0,none⟩)∧Hid (∃ gs nt,NewV pp n w wc bv gs nt))
 case first =>
  go_region_held (fun w'=>w'.cell? ⟨pp,3,none⟩=some (.slice la n lc)) (go_keep)
   (first | (go_at_call 26;refine Calls.mono (HM.out _ (by simp[*])) ?_;rintro e w1 ⟨T,rfl,hTs,hTf,d1,H1⟩))
  all_goals go_wp2_with fail
  all_goals go_meet
  all_goals first
   | exact ⟨_,rfl,_,_,ybc hn hSC H1.out⟩
   | exact ⟨_,rfl,_,_,ybb hn hSC H1.out⟩
 case rest =>
  obtain ⟨bv,rfl,HV⟩:=hcut;clear hmk hwr HM;obtain ⟨gs,nt,hV⟩:∃ gs nt,Hid (NewV pp n w wc bv gs nt):=HV.out;have c81:=hV.out.v.slice;rw[List.length_replicate] at c81;have hgs:gs < wc.heap.size:=lt_of_block hV.out.v.s;have hbv:bv < wc.heap.size:=lt_of_block hV.out.v.v;have ff:=hV.out.v.free;have s0:=hV.out.v.state (p:=0) (by rw[List.length_replicate];omega) 0 (by decide)
  have s1:=hV.out.v.state (p:=0) (by rw[List.length_replicate];omega) 1 (by decide)
  have s2:=hV.out.v.state (p:=0) (by rw[List.length_replicate];omega) 2 (by decide)
  have t0:wc.cell? ⟨gs,0,none⟩=some (.bool false):=s0;have t1:wc.cell? ⟨gs,1,none⟩=some (.int .i64 0):=s1;have t2:wc.cell? ⟨gs,2,none⟩=some (.int .i64 0):=s2;clear s0 s1 s2;obtain ⟨ba,hba⟩:∃ ba,Hid (wc.heap.size=ba):=⟨_,rfl⟩;go_upto_region 3 with fail
  go_cut [] (fun wx=>Hid (VL pp w wx bv gs nt ba (Px.qi1 n)))
  case first =>
   have hgs1:gs < wc.heap.size+1:=by omega
   have hn0:(0:Int) < (n:Int)+1:=by omega
   go_region
   all_goals go_wp2_with fail
   all_goals go_meet
   rw[← hba.out];exact ya5 hV.out
  case rest =>
   rw[hba.out];clear c81 hgs hbv ff t0 t1 t2 HV hV hba;have q3:=zyq hcut.out.t hp;go_wp2_with fail;go_loopw [32] (fun i wr=>∃ m:Nat,m≤n∧i=.int .i64 m∧Hid (VLm pp w P bv gs nt ba m wr)) (fun i _=>n - (intOf i).toNat)
   case atStart=>exact ⟨0,by omega,rfl,Px.qi1 n,hcut.out,by rw[HN.out];rfl,ybg n,by rw[HN.out];simp[Px.qi1]⟩
   case round =>
    obtain ⟨m,hm,rfl,hr⟩:=hrel;by_cases hlt:m < n
    ·have hlt':(m:Int) < (n:Int):=by omega
     have hmP:m < P.ins.length:=by rw[HN.out];exact hlt
     obtain ⟨g,rfl,y0,y1,y2⟩:=HI.out m hmP;have hok:=OK.out P.ins[m] (List.getElem_mem hmP);obtain ⟨S,hS⟩:∃ S,Hid (VL pp w wr bv gs nt ba S∧Px.qdv P (Px.qi1 P.ins.length) 0 (P.ins.take m)=some S∧Kn S m∧S.length=P.ins.length+1):=hr.out;have y0:=zyq hS.out.1.t y0;have y1:=zyq hS.out.1.t y1;have y2:=zyq hS.out.1.t y2;have HB:Hid (Px.qhl P S m P.ins[m]=none→Px.verV P=false):=fun h=>ybv hmP hS.out.2.1 h
     have HG:Hid (∀ T,Px.qhl P S m P.ins[m]=some T→Px.qdv P (Px.qi1 P.ins.length) 0 (P.ins.take (m+1))=some T):=fun T h=>(zzc hmP hS.out.2.1).trans h
     generalize P.ins[m]=ins at *;obtain ⟨k,ia,ib⟩:=ins;dsimp only at *;have TA:Hid (Tch (fun _=>False) wr (wr.alloc (.cells #[.int .i64 (k:Int),.int .i64 (ia:Int),.int .i64 (ib:Int)] 90))):=(Tch.refl _ _).alloc _
     have LK:Hid (_):=ybe bv gs nt pp m P S k ia ib a1 c1 _ (hS.out.1.tch TA.out).v hS.out.2.2.2 (by have:=hS.out.2.2.2;omega) hS.out.2.2.1 hok.k hok.a hok.b (zyq TA.out (zyq hS.out.1.t p0.out)) (zyq TA.out (zyq hS.out.1.t p1.out)) ((hS.out.1.tch TA.out).nb.need k hok.k)
     clear hok hr;go_wp2_with fail;refine Calls.mono LK.out ?_;rintro e w2 ⟨t2,⟨hn0,s,hs0,rfl⟩ | ⟨T,hT,rfl,hv⟩⟩
     ·have HF:Hid (Tch (fun _=>False) w w2∧Px.verV P=false):=by
       refine ⟨?_,HB.out hn0⟩;have g:=hS.out.1.g;have t3:Tch (·=gs) w w2:=((hS.out.1.t.trans TA.out).mono fun _ _ h=>h.elim).trans t2
       exact t3.mono fun j hj e=>by omega
      have hne:s.toList.isEmpty=false:=by
       rw[ByteArray.toList_eq,List.isEmpty_eq_false_iff];intro e;exact hs0 (by show s.data.size=0;rw[← Array.length_toList,e];rfl)
      clear LK t2 hn0 hs0 TA HB HG;go_wp2_with fail;go_ret;exact ⟨HF.out.1.alloc _,Or.inr ⟨HF.out.2,_,rfl⟩⟩
     ·have HK:Hid (VLm pp w P bv gs nt ba (m+1) w2):=by
       obtain ⟨k1,k2⟩:=hS.out.2.2.1.look (P:=P) hS.out.2.2.2 (by have:=hS.out.2.2.2;omega) hT
       exact ⟨T,hS.out.1.look TA.out t2 hv,HG.out T hT,k1,by rw[k2];exact hS.out.2.2.2⟩
      clear LK t2 hv hT TA HB HG;go_wp2_with fail;exact ⟨⟨m+1,by omega,by go_num,HK.out⟩,by simp[intOf];omega⟩
    ·obtain rfl:m=n:=by omega
     have hne:¬ ((m:Int) < (m:Int)):=by omega
     obtain ⟨S,hS⟩:∃ S,Hid (VL pp w wr bv gs nt ba S∧Px.qdv P (Px.qi1 P.ins.length) 0 (P.ins.take m)=some S∧Kn S m∧S.length=P.ins.length+1):=hr.out;have HT:Hid (Tch (fun _=>False) w wr):=hS.out.1.t
     have q3:=zyq hS.out.1.t hp;have c81:=hS.out.1.v.slice;have hSl:S.length=m+1:=by rw[hS.out.2.2.2,HN.out]
     rw[hSl] at c81;have hgs:gs < wr.heap.size:=lt_of_block hS.out.1.v.s;have hbv:bv < wr.heap.size:=lt_of_block hS.out.1.v.v;have hba:ba < wr.heap.size:=lt_of_block hS.out.1.r;have hpz2:pp < wr.heap.size:=lt_of_cell q3;obtain ⟨r0,r1,r2,rf⟩:=Mk.cells3 hS.out.1.r;have s0:=hS.out.1.v.state (p:=m) (by omega) 0 (by decide)
     have s1:=hS.out.1.v.state (p:=m) (by omega) 1 (by decide)
     have s2:=hS.out.1.v.state (p:=m) (by omega) 2 (by decide)
     rw[Nat.add_zero] at s0;have hm1:(m:Int) < (m:Int)+1:=by omega
     have HE:Hid (Px.verV P=(match Px.atV S m with
      | none=>true
      | some s=>s == (0,none))):=by
      have e:=hS.out.2.1;rw[← HN.out] at e
      have:=ybu e
      rw[HN.out] at this;exact this
     clear hS hr hSl;cases hv:Px.atV S m with
     | none =>
      rw[hv] at s0 s1 s2 HE;simp only[stC,List.getElem?_cons_zero,List.getElem?_cons_succ] at s0 s1 s2;go_wp2_with fail;go_region
      all_goals go_wp2_with fail
      all_goals
       go_ret;exact ⟨(HT.out.alloc _).drew,Or.inl ⟨HE.out,rfl⟩⟩
     | some t =>
      obtain ⟨th,tt⟩:=t;rw[hv] at s0 s1 s2 HE;simp only[stC,List.getElem?_cons_zero,List.getElem?_cons_succ] at s0 s1 s2;by_cases e1:th=0
      ·subst e1;by_cases e2:tt=none
       ·subst e2;simp only[tryI] at s2;go_wp2_with fail;go_region
        all_goals go_wp2_with fail
        all_goals
         go_ret;exact ⟨(HT.out.alloc _).drew,Or.inl ⟨by rw[HE.out];rfl,rfl⟩⟩
       ·have HF:Hid (Px.verV P=false):=by
         unfold Hid;rw[HE.out];exact beq_eq_false_iff_ne.2 fun e=>e2 (congrArg Prod.snd e)
        have hti:tryI tt≠-1:=fun e=>e2 (zzf (b:=none) e)
        have hti2:(tryI tt == -1)=false:=by rw[beq_eq_false_iff_ne];exact hti
        generalize tryI tt=ti at *;go_wp2_with fail;go_region
        all_goals go_wp2_with fail
        all_goals
         go_ret;exact ⟨((HT.out.alloc _).alloc _).drew,Or.inr ⟨HF.out,_,rfl⟩⟩
      ·have HF:Hid (Px.verV P=false):=by
        unfold Hid;rw[HE.out];exact beq_eq_false_iff_ne.2 fun e=>e1 (congrArg Prod.fst e)
       have hti2:((th:Int) == 0)=false:=by rw[beq_eq_false_iff_ne];omega
       generalize tryI tt=ti at *;go_wp2_with fail;go_region
       all_goals go_wp2_with fail
       all_goals
        go_ret;exact ⟨((HT.out.alloc _).alloc _).drew,Or.inr ⟨HF.out,_,rfl⟩⟩
open Go.RowKit
theorem yae (c:List UInt8) (w:World) (hs:c.length≤maxLen):Calls Tryz.prog 17 #[.string ⟨c.toArray⟩] w (ybq c w):=yad c w hs zz3
end Cd
open Go.RowKit Go.Extern.Stop Go.Stop Go.Extern
namespace Lg
theorem ycg (v:Value) (xT:TypeId) (w:World):(Instr.typeAssert (.iface 101 v) xT 283 true).run Tryz.prog w=.ok (.tuple #[.nilIface,.bool false]) w:=run_typeAssert_lacksB Tryz.underlying283 (by kernel_rfl) (by kernel_rfl) v xT w
theorem zy5 (v:Value) (xT:TypeId) (w:World):(Instr.typeAssert (.iface 101 v) xT 215 true).run Tryz.prog w=.ok (.tuple #[.iface 101 v,.bool true]) w:=run_typeAssert_hasB Tryz.underlying215 (by kernel_rfl) v xT w
theorem zyv (v:Value) (w:World):(Go.method 479 101 v "Unwrap").run Tryz.prog w=.ok (213,v) w:=by kernel_rfl
theorem noAsW (v:Value) (xT:TypeId) (w:World):(Instr.typeAssert (.iface 101 v) xT 212 true).run Tryz.prog w=.ok (.tuple #[.nilIface,.bool false]) w:=run_typeAssert_lacksB Tryz.underlying212 (by kernel_rfl) (by kernel_rfl) v xT w
theorem yby (v:Value) (w:World):(ReflectliteType.typeOf #[.iface 101 v]).run Tryz.prog w=.ok (.iface 207 (.agg #[.pointer (some ⟨17,101,none⟩)])) w:=by kernel_rfl
theorem zzs (w:World):(ReflectliteType.relation "AssignableTo" ReflectliteType.assignableTo #[.agg #[.pointer (some ⟨17,101,none⟩)],.iface 207 (.agg #[.pointer (some ⟨17,70,none⟩)])]).run Tryz.prog w=.ok (.bool false) w:=by kernel_rfl
theorem zzk (f:Nat) (b:Addr) (w:World) (h1:w.cell? ⟨7,0,none⟩=some (.iface 337 (.pointer (some b)))) :
  Calls Tryz.prog 48 #[.iface 101 (.pointer (some ⟨f,0,none⟩)),.iface 337 (.pointer (some b))] w fun e w'=>e=.returned (.bool true)∧w'=w:=by
 obtain ⟨i,hi,hcmp⟩:=Option.map_eq_some_iff.1 zat;obtain ⟨j,hj,hjs⟩:=Option.map_eq_some_iff.1 zas;have h8:=@run_callFunc_extern Tryz.prog 96 _ Extern.ReflectliteType.typeOf Tryz.func96 (by kernel_rfl) (by kernel_rfl) (by kernel_rfl) (by kernel_rfl)
 have h32:=@run_callFunc_extern Tryz.prog 220 _ (Extern.ReflectliteType.method fun t=>do Extern.Rtype.noPackHeld "Comparable" t;pure (.bool (← typeInfo t).comparable)) Tryz.func220 (by kernel_rfl) (by kernel_rfl) (by kernel_rfl) (by kernel_rfl)
 have tT:=qlt;have cT:=qhc;have mR:=qdr;have nE:=zs3;have uE:=qli;have vE:=qj3;have nW:=ycg;have uW:=zy5;have mU:=zyv;have heq:=run_eql_iface_ptr_same (P:=Tryz.prog) w b Tryz.underlying43 Tryz.underlying337 hi hcmp hj;have hty:=run_eql_iface_types (P:=Tryz.prog) 101 337 (.pointer (some ⟨f,0,none⟩)) (.pointer (some b)) Tryz.underlying43 (by decide) w
 go_enter Tryz.func48,Tryz.ntmps48
 go_wp2;refine wp_loop_rounds 2 ?_;rw[rounds_succ];go_wp2;rw[rounds_succ];go_wp2;go_ret;exact ⟨rfl,rfl⟩
theorem zzg (f:Nat) (b a:Addr) (ca cb:Array Value) (ta tb:TypeId) (w:World) (h1:w.cell? ⟨7,0,none⟩=some (.iface 337 (.pointer (some a)))) (hne:a≠b) (ha:w.heap[a.block]?=some (.cells ca ta (0,0))) (hb:w.heap[b.block]?=some (.cells cb tb (0,0))) :
  Calls Tryz.prog 48 #[.iface 101 (.pointer (some ⟨f,0,none⟩)),.iface 337 (.pointer (some b))] w fun e w'=>e=.returned (.bool false)∧w'=w:=by
 obtain ⟨i,hi,hcmp⟩:=Option.map_eq_some_iff.1 zat;obtain ⟨j,hj,hjs⟩:=Option.map_eq_some_iff.1 zas;have h8:=@run_callFunc_extern Tryz.prog 96 _ Extern.ReflectliteType.typeOf Tryz.func96 (by kernel_rfl) (by kernel_rfl) (by kernel_rfl) (by kernel_rfl)
 have h32:=@run_callFunc_extern Tryz.prog 220 _ (Extern.ReflectliteType.method fun t=>do Extern.Rtype.noPackHeld "Comparable" t;pure (.bool (← typeInfo t).comparable)) Tryz.func220 (by kernel_rfl) (by kernel_rfl) (by kernel_rfl) (by kernel_rfl)
 have tT:=qlt;have cT:=qhc;have mR:=qdr;have nE:=zs3;have uE:=qli;have vE:=qj3;have nW:=ycg;have uW:=zy5;have mU:=zyv;have heq:=run_eql_iface_ptr_other (P:=Tryz.prog) w Tryz.underlying43 Tryz.underlying337 hi hcmp hj (by rw[hjs];decide) hne ha hb
 have hty:=run_eql_iface_types (P:=Tryz.prog) 101 337 (.pointer (some ⟨f,0,none⟩)) (.pointer (some b)) Tryz.underlying43 (by decide) w
 go_enter Tryz.func48,Tryz.ntmps48
 go_wp2;refine wp_loop_rounds 2 ?_;rw[rounds_succ];go_wp2;rw[rounds_succ];go_wp2;go_ret;exact ⟨rfl,rfl⟩
theorem ycb (f:Nat) (e t:Addr) (w:World) (hg:w.cell? ⟨2,0,none⟩=some (.iface 207 (.agg #[.pointer (some ⟨17,43,none⟩)]))) (hc:w.cell? ⟨7,0,none⟩=some (.iface 337 (.pointer (some e)))) :
  Calls Tryz.prog 23 #[.iface 101 (.pointer (some ⟨f,0,none⟩)),.iface 72 (.pointer (some t))] w fun ev w'=>ev=.returned (.bool false)∧w'=(((w.alloc (.cells #[.pointer (some t)] 72)).alloc (asV w)).alloc (asV w)):=by
 have h6:=@run_callFunc_extern Tryz.prog 44 _ (fun args=>ReflectliteValue.unpack (args.getD 0 (.tuple #[]))) Tryz.func44 (by kernel_rfl) (by kernel_rfl) (by kernel_rfl) (by kernel_rfl)
 have h7:=@run_callFunc_extern Tryz.prog 45 _ (ReflectliteValue.methodAny (ReflectliteValue.valueError "reflectlite.Value.Type" 0) (fun t _ _ _=>ReflectliteType.toType t)) Tryz.func45 (by kernel_rfl) (by kernel_rfl) (by kernel_rfl) (by kernel_rfl)
 have h8:=@run_callFunc_extern Tryz.prog 46 _ (ReflectliteValue.method (ReflectliteValue.valueError "reflectlite.Value.IsNil" 0) ReflectliteValue.isNil) Tryz.func46 (by kernel_rfl) (by kernel_rfl) (by kernel_rfl) (by kernel_rfl)
 have h27:=@run_callFunc_extern Tryz.prog 207 _ (ReflectliteType.abiMethod fun t=>do pure (.int .u8 (← Rtype.kind t))) Tryz.func207 (by kernel_rfl) (by kernel_rfl) (by kernel_rfl) (by kernel_rfl)
 have h37:=@run_callFunc_extern Tryz.prog 221 _ (ReflectliteType.method ReflectliteType.elem) Tryz.func221 (by kernel_rfl) (by kernel_rfl) (by kernel_rfl) (by kernel_rfl)
 have h38:=@run_callFunc_extern Tryz.prog 222 _ (ReflectliteType.relation "Implements" ReflectliteType.implements_) Tryz.func222 (by kernel_rfl) (by kernel_rfl) (by kernel_rfl) (by kernel_rfl)
 have h10:=@run_callFunc_extern Tryz.prog 96 _ ReflectliteType.typeOf Tryz.func96 (by kernel_rfl) (by kernel_rfl) (by kernel_rfl) (by kernel_rfl)
 have h35:=@run_callFunc_extern Tryz.prog 219 _ (ReflectliteType.relation "AssignableTo" ReflectliteType.assignableTo) Tryz.func219 (by kernel_rfl) (by kernel_rfl) (by kernel_rfl) (by kernel_rfl)
 have tO:=qlt;have mA:=qg8;have aE:=qyt;have f6:=quz;have f7:=zpu;have mK:=qrf;have mE:=qrg;have mI:=qir;have k27:=zqj;have k25:=zqk;have e27:=zqt;have i25:=qps;have nE:=ych;have uE:=qli;have vE:=qj3;have tW:=yby;have aW:=zzs;have nW:=noAsW;have uW:=zy5;have mU:=zyv;have hcl:7 < w.heap.size:=lt_of_cell hc;have hc2:(((w.alloc (.cells #[.pointer (some t)] 72)).alloc (asV w)).alloc (asV w)).cell? ⟨7,0,none⟩=some (.iface 337 (.pointer (some e))):=by
  rw[World.cell?_alloc_lt _ _ ⟨7,0,none⟩ (by simp;omega),World.cell?_alloc_lt _ _ ⟨7,0,none⟩ (by simp;omega),World.cell?_alloc_lt _ _ ⟨7,0,none⟩ hcl];exact hc
 have n8:=zh5 ⟨w.heap.size,0,none⟩ t ((w.alloc (.cells #[.pointer (some t)] 72)).alloc (asV w)) (by simp[asV])
 have hlt:2 < w.heap.size:=by
  rcases Nat.lt_or_ge 2 w.heap.size with h | h
  ·exact h
  ·have:w.heap[2]?=none:=by simp[h]
   simp[World.cell?,this] at hg
 have hg2:((w.alloc (.cells #[.pointer (some t)] 72)).alloc (asV w)).cell? ⟨2,0,none⟩=some (.iface 207 (.agg #[.pointer (some ⟨17,43,none⟩)])):=by
  rw[World.cell?_alloc_lt _ _ ⟨2,0,none⟩ (by simp;omega),World.cell?_alloc_lt _ _ ⟨2,0,none⟩ hlt];exact hg
 unfold asV at *;go_enter Tryz.func23,Tryz.ntmps23
 go_wp2;refine wp_loop_rounds 2 ?_;rw[rounds_succ];go_wp2;rw[rounds_succ];go_wp2;go_ret;exact ⟨rfl,rfl⟩
theorem zy1 {w:World} {E:Nat→Addr} (h:Snt w E) (f:Nat) {i:Nat} (hi:1≤i∧i≤9) (hne:7≠i) :
  Calls Tryz.prog 48 #[.iface 101 (.pointer (some ⟨f,0,none⟩)),.iface 337 (.pointer (some (E i)))] w fun e w'=>e=.returned (.bool false)∧w'=w:=by
 obtain ⟨ca,ta,ha⟩:=h.blk 7 (by decide) (by decide)
 obtain ⟨cb,tb,hb⟩:=h.blk i hi.1 hi.2;exact zzg f _ _ _ _ _ _ w h.v7 (h.ne 7 i (by decide) (by decide) hi.1 hi.2 hne) ha hb
theorem zzp (E:Nat→Addr) (f:Nat) (w:World) (h:Snt w E):Calls Tryz.prog 24 #[.iface 101 (.pointer (some ⟨f,0,none⟩))] w fun r w'=>r=.returned (.int .i64 7)∧w'=w:=by
 have v1:=h.v1;have v3:=h.v3;have v4:=h.v4;have v5:=h.v5;have v6:=h.v6;have v7:=h.v7;have H:Hid (Snt w E):=h;clear h;go_enter Tryz.func24,Tryz.ntmps24
 go_wp2_with fail;refine (zy1 H.out f (i:=1) (by omega) (by omega)).mono ?_
 rintro r w' ⟨rfl,rfl⟩;go_wp2_with fail;refine (zy1 H.out f (i:=3) (by omega) (by omega)).mono ?_
 rintro r w' ⟨rfl,rfl⟩;go_wp2_with fail;refine (zy1 H.out f (i:=4) (by omega) (by omega)).mono ?_
 rintro r w' ⟨rfl,rfl⟩;go_wp2_with fail;refine (zy1 H.out f (i:=5) (by omega) (by omega)).mono ?_
 rintro r w' ⟨rfl,rfl⟩;go_wp2_with fail;refine (zy1 H.out f (i:=6) (by omega) (by omega)).mono ?_
 rintro r w' ⟨rfl,rfl⟩;go_wp2_with fail;refine (zzk f (E 7) _ H.out.v7).mono ?_;rintro r w' ⟨rfl,rfl⟩;go_wp2_with fail;go_ret;exact ⟨rfl,rfl⟩
theorem yab (E:Nat→Addr) (f:Nat) (w:World) (h:Snt w E):Calls Tryz.prog 12 #[.iface 101 (.pointer (some ⟨f,0,none⟩))] w fun r w'=>r=.returned (.tuple #[.int .i64 7,.int .i64 0])∧Below w.heap.size w w':=by
 have H:Hid (Snt w E):=h;have hb:Hid (Below w.heap.size w (w.alloc (.cells #[.pointer none] 70))):=(Below.refl _ _).alloc (Nat.le_refl _) _;clear h;go_enter Tryz.func12,Tryz.ntmps12
 go_wp2_with fail;refine (ycb f (E 7) _ _ (H.out.below hb.out).et (H.out.below hb.out).v7).mono ?_;rintro r w' ⟨rfl,rfl⟩;have hb2:Hid (Below w.heap.size w ((((w.alloc (.cells #[.pointer none] 70)).alloc (.cells #[.pointer (some ⟨w.heap.size,0,none⟩)] 72)).alloc (asV (w.alloc (.cells #[.pointer none] 70)))).alloc (asV (w.alloc (.cells #[.pointer none] 70))))) :=
  (((hb.out.alloc (by simp) _).alloc (by simp;omega) _).alloc (by simp;omega) _)
 go_wp2_with fail;refine (zzp E f _ (H.out.below hb2.out)).mono ?_;rintro r w' ⟨rfl,rfl⟩;go_wp2_with fail;go_ret2;exact ⟨rfl,hb2.out⟩
end Lg
end Go.Proofs.YtokkhhekekeokaaGreatDoor
