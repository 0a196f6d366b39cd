import Derived.Test.YtokkhhekekeokaaGreatDoorC42
set_option maxRecDepth 100000
set_option maxHeartbeats 4000000
namespace Go.Proofs.YtokkhhekekeokaaGreatDoor
open Go.RowKit Tryz
namespace Cd
open Mk Px Ref Rn
variable {W w w1:fu}
theorem KH {wf:fu}{Z:Obj}{W0:fu}(h0:W0=((((w.alloc Z).alloc (.cells #[.int .i64 0] 150)).alloc (.cells #[.int .i64 1] 150)).alloc (.cells #[.int .i64 1] 150)))(hT:fO (fun _=>False) W0 wf)(hs:wf.heap.size=w.heap.size+16) :
  NB (((((((wf.alloc (.cells #[.int .i64 3] 150)).alloc (.cells #[.int .i64 3] 150)).alloc (.cells #[.int .i64 3] 150)).alloc (.cells #[.int .i64 3] 150)).alloc (.cells #[.int .i64 3] 150)).alloc (.cells #[.int .i64 2,.int .i64 0] 150)).alloc (.cells #[.int .i64 2] 150)) w.heap.size:=by
 subst h0;obtain ⟨y1,y2,y3⟩:=Ul w Z (.cells #[.int .i64 0] 150) (.cells #[.int .i64 1] 150) (.cells #[.int .i64 1] 150);have t2:=hT.trans (JV wf (.cells #[.int .i64 3] 150) (.cells #[.int .i64 3] 150) (.cells #[.int .i64 3] 150) (.cells #[.int .i64 3] 150) (.cells #[.int .i64 3] 150) (.cells #[.int .i64 2,.int .i64 0] 150) (.cells #[.int .i64 2] 150));obtain ⟨z0,z1,z2,z3,z4,z5,z6⟩:=Uk wf (.cells #[.int .i64 3] 150) (.cells #[.int .i64 3] 150) (.cells #[.int .i64 3] 150) (.cells #[.int .i64 3] 150) (.cells #[.int .i64 3] 150) (.cells #[.int .i64 2,.int .i64 0] 150) (.cells #[.int .i64 2] 150)
 rw[hs] at z0 z1 z2 z3 z4 z5 z6;refine ⟨qw t2 (yT y1 0),qw t2 (yT y2 0),qw t2 (yT y3 0),fun j hj=>?_,yT z5 0,yT z5 1,yT z6 0⟩
 match j,hj with
 | 0,_=>exact yT z0 0
 | 1,_=>exact yT z1 0
 | 2,_=>exact yT z2 0
 | 3,_=>exact yT z3 0
 | 4,_=>exact yT z4 0
 | j+5,hj=>exact absurd hj (by omega)
theorem yao (w:fu) :
  Calls prog 26 #[] w fun e w'=>e=.returned (.agg (iQ w.heap.size).toArray)/\fO (fun _=>False) w w'/\NB w' w.heap.size:=by
 go_enter func26,ntmps26
 go_wp2_with (first
  | (go_at_call 55;refine (Y7 _ _).mono ?_;rintro e w1 ⟨rfl,hs,HP⟩)
  | (refine Y9 rfl _ _ rfl w.heap.size _ rfl rfl (by kernel_rfl) ?ht ?hh))
 case ht =>
  rename_i wa ha Ha wb hb Hb wc hc Hc wd hd Hd we he He;exact NI JU (NH ha hb hc hd he Ha.o Hb.o Hc.o Hd.o He.o HP.o (JV _ _ _ _ _ _ _ _)).1
 case hh =>
  rename_i wa ha Ha wb hb Hb wc hc Hc wd hd Hd we he He;have Q:=NH ha hb hc hd he Ha.o Hb.o Hc.o Hd.o He.o HP.o (JV w1 (.cells #[.int .i64 3] 150) (.cells #[.int .i64 3] 150) (.cells #[.int .i64 3] 150) (.cells #[.int .i64 3] 150) (.cells #[.int .i64 3] 150) (.cells #[.int .i64 2,.int .i64 0] 150) (.cells #[.int .i64 2] 150));have hth:=NI JU Q.1;refine bodyPost_ret (Zb _ _ w.heap.size rfl (World.rangeAt_setCells_same _ _ _ _ hth)) rfl ⟨rfl,?_,NB.laid ?_ _⟩
  ·exact Za _ (aj _) _ _ _ (((fO.refl _ _).alloc _).trans Q.1)
  ·refine KH rfl (Ha.o.1.trans (Hb.o.1.trans (Hc.o.1.trans (Hd.o.1.trans (He.o.1.trans HP.o.1))))) ?_;have h4:∀ (Z A1 A2 A3:Obj),((((w.alloc Z).alloc A1).alloc A2).alloc A3).heap.size=w.heap.size+4:=fun Z A1 A2 A3=>by
    show ((((w.heap.push Z).push A1).push A2).push A3).size=_
    simp
   rw[h4] at ha;omega
variable {S T:List (Option iB)}{bv gs m n nt p pp q:Nat}{s:iB}
theorem ZU (hq:q < S.length)(h:iN S q s=some T):∀ r,gW T r=if r=q then some s else gW S r:=by
 unfold iN at h;intro r;split at h
 ·cases h;exact Jl S q r s hq
 ·next t ht =>
  split at h
  ·next e =>
   cases h;by_cases hr:r=q
   ·rw[if_pos hr,hr,ht,e]
   ·rw[if_neg hr]
  ·cases h
def May (S:List (Option iB))(p:Nat)(s:iB):Prop:=s.1<=p/\∀ q',s.2=some q'->q' < p/\∃ t,gW S q'=some t
theorem May.next (h:May S p s):May S (p+1) s:=⟨by have:=h.1;omega,fun q' e=>⟨by have:=(h.2 q' e).1;omega,(h.2 q' e).2⟩⟩
theorem May.reach {u:iB}(h:May S p u)(hq:q < S.length)(e:iN S q s=some T):May T p u :=
 ⟨h.1,fun q' e'=>⟨(h.2 q' e').1,by
  obtain ⟨t,ht⟩:=(h.2 q' e').2;rw[ZU hq e q'];by_cases hr:q'=q
  ·exact ⟨s,if_pos hr⟩
  ·exact ⟨t,by rw[if_neg hr];exact ht⟩⟩⟩
theorem Kn.next {S:List (Option iB)}{p:Nat}(h:Kn S p):Kn S (p+1):=fun q s e=>May.next (h q s e)
theorem Kn.reach {S T:List (Option iB)}{p q:Nat}{s:iB}(h:Kn S p)(hs:May S p s)(hq:q < S.length)(e:iN S q s=some T):Kn T p/\T.length=S.length:=by
 refine ⟨fun r u hu=>?_,NZ e⟩
 have hu':=hu;rw[ZU hq e r] at hu';by_cases hr:r=q
 ·rw[if_pos hr] at hu';cases hu';exact May.reach hs hq e
 ·rw[if_neg hr] at hu';exact May.reach (h r u hu') hq e
theorem Kn.two {r:Nat}{t:iB}(h:Kn S p)(hs:May S p s)(ht:May S p t)(hq:q < S.length)(hr:r < S.length)(e:((iN S q s).bind fun S=>iN S r t)=some T):Kn T p/\T.length=S.length:=by
 cases e1:iN S q s with
 | none=>rw[e1] at e;cases e
 | some S1 =>
  rw[e1] at e;have e2:iN S1 r t=some T:=e;obtain ⟨k1,l1⟩:=h.reach hs hq e1;obtain ⟨k2,l2⟩:=k1.reach (ht.reach hq e1) (by omega) e2
  exact ⟨k2,by omega⟩
variable {P:Pg}
theorem Kn.look {k a c:Nat}(h:Kn S p)(hS:S.length=P.ins.length+1)(hp:p+1 < S.length)(e:mD P S p ⟨k,a,c⟩=some T):Kn T (p+1)/\T.length=S.length:=by
 unfold mD at e;cases hv:gW S p with
 | none=>rw[hv] at e;cases e
 | some now =>
  rw[hv] at e;dsimp only at e;cases hf:jW P ⟨k,a,c⟩ with
  | false=>rw[hf] at e;cases e
  | true =>
   rw[hf,if_neg (by decide)] at e
   split at e
   ·cases e
   ·next ht =>
    split at e
    ·cases e
    ·next h16 =>
     have hm:May S p now:=h p now hv;have hm1:=hm.next;have hg:=Nh k;have hnx:May S (p+1) (now.1+kX k - iX k,now.2):=⟨by have:=hm.1;show _ - _<=_;omega,hm1.2⟩
     have hl:12<=k->k<=16->a < S.length:=fun g1 g2=>by
      unfold jW at hf;dsimp only at hf;rw[if_neg (by omega),if_neg (by omega),if_pos ⟨g1,g2⟩] at hf
      rw[hS];exact of_decide_eq_true hf
     have hK:=h.next;unfold oK at e;dsimp only at e;split at e
     ·next e12=>exact hK.reach hnx (hl (by omega) (by omega)) e
     ·split at e
      ·next e13=>exact hK.two hnx hnx (hl (by omega) (by omega)) hp e
      ·split at e
       ·next e14 =>
        have Cn:May S (p+1) (now.1+kX k - iX k - 1,now.2):=⟨by have:=hnx.1;dsimp only at this |-;omega,hnx.2⟩
        exact hK.two Cn hnx (hl (by omega) (by omega)) hp e
       ·split at e
        ·next e15 =>
         have Gn:May S (p+1) (now.1+kX k - iX k,some p):=⟨hnx.1,fun q' g=>by cases g;exact ⟨by omega,now,hv⟩⟩
         exact hK.two hm1 Gn (hl (by omega) (by omega)) hp e
        ·split at e
         ·next e16 =>
          refine hK.reach ?_ (hl (by omega) (by omega)) e
          cases h2:now.2 with
          | none=>exact absurd ⟨e16,ak h2⟩ h16
          | some q =>
           obtain ⟨t,ht⟩:=(hm1.2 q h2).2;show May S (p+1) ((gW S q).getD (0,none))
           rw[ht];exact May.next (h q t ht)
         ·exact hK.reach hnx hp e
theorem ybg (n:Nat):Kn (nX n) 0:=by
 intro q s e;cases q with
 | zero =>
  cases e;exact ⟨aj _,fun q' g=>by cases g⟩
 | succ q =>
  exfalso
  have:gW (nX n) (q+1)=none:=by
   unfold gW nX;rw[List.getD_cons_succ,aX,dH];split<;>rfl
  rw[this] at e;cases e
theorem yas:(prog.info? 198).map (fun i=>(i.zero,i.size,i.bytes))=some (some (.agg #[.bool false,.int .i64 0,.int .i64 0]),3,24):=by kernel_rfl
theorem yap (n:Nat):madeCells #[.bool false,.int .i64 0,.int .i64 0] (n * 3)=((List.replicate n (none:Option iB)).flatMap lH).toArray:=by
 have hl:((List.replicate n (none:Option iB)).flatMap lH).length=n * 3:=by
  induction n with
  | zero=>rfl
  | succ n ih =>
   rw[List.replicate_succ,dQ,ay,ih];show 3+n * 3=_
   omega
 apply Array.ext
 ·rw[size_madeCells,List.size_toArray,hl]
 ·intro i h1 h2;have hi:i < n * 3:=by rw[size_madeCells] at h1;exact h1
  have e:=ZP (S:=List.replicate n (none:Option iB)) (p:=i / 3) (by rw[bM];omega) (i % 3) (Nat.mod_lt _ (by decide))
  rw[show i / 3 * 3+i % 3=i by omega] at e
  have ea:gW (List.replicate n (none:Option iB)) (i / 3)=none:=by
   unfold gW;rw[aX,dH];split<;>rfl
  rw[ea] at e;have e2:((List.replicate n (none:Option iB)).flatMap lH)[i]?=some (((List.replicate n (none:Option iB)).flatMap lH).toArray[i]'h2):=by simp
  rw[e2] at e;have h3:i % 3=0\/i % 3=1\/i % 3=2:=by omega
  simp only[madeCells,Array.getElem_map,Array.getElem_range];show ((#[Value.bool false,.int .i64 0,.int .i64 0])[i % 3]!)=_
  rcases h3 with h | h | h<;>rw[h] at e |-<;>exact (Option.some.inj e).symm
theorem ya7 (n:Nat)(hn:n<=1000000)(w:fu):(Instr.makeSlice 194 (.int .i64 (n:Int)) (.int .i64 (n:Int))).run prog w=.ok (.slice (some ⟨w.heap.size,0,none⟩) n n) (w.alloc (.cells ((List.replicate n (none:Option iB)).flatMap lH).toArray 198)):=by
 obtain ⟨i,hi,hzz⟩:=bE.1 yas;simp only[Prod.mk.injEq] at hzz;obtain ⟨hz,hs,hb⟩:=hzz;have h:=run_make w 194 198 i _ underlying194 hi hz .i64 .i64 (n:Int) (n:Int) (by omega) (by omega) (by rw[hb];omega) (by omega)
 rw[hs,Int.toNat_natCast] at h;rw[h,<- yap];rfl
structure yU (pp n:Nat)(w w':fu)(bv gs nt:Nat):Prop where
 v:iE w' bv gs nt pp (List.replicate (n+1) none)
 nb:NB w' nt
 t:fO (fun _=>False) w w'
 b:w.heap.size<=bv
 g:w.heap.size<=gs
 ng:nt+22 < gs\/gs < nt+1
theorem ZV (m:Nat)(pp:Nat)(vv:fC):(Array.foldl (fun (cs:Array fC) (x:fC×Nat)=>cs.setIfInBounds (1+x.2) x.1) (zeroCells196.setIfInBounds 0 (.pointer (some ⟨pp,0,none⟩))) (iQ m).toArray.zipIdx 0 80).setIfInBounds 81 vv=(Value.pointer (some ⟨pp,0,none⟩)::(iQ m++[vv])).toArray:=by kernel_rfl
theorem NB.jG (h:NB w n)(t:fO (fun _=>False) w W):NB W n:=⟨qw t h.a,qw t h.b,qw t h.c,fun j hj=>qw t (h.p j hj),qw t h.d,qw t h.e,qw t h.f⟩
variable {SC:Array fC}
theorem ybc {T:Array fC}(hn:n<=100000)(Ev:((List.replicate (n+1) (none:Option iB)).flatMap lH).toArray=SC)(h:T=(iQ w.drew.heap.size).toArray/\fO (fun _=>False) w.drew w1/\NB w1 w.drew.heap.size) :
  yU pp n w ((w1.alloc (.cells SC 198)).alloc (.cells ((Array.foldl (fun (cs:Array fC) (x:fC×Nat)=>cs.setIfInBounds (1+x.2) x.1) (zeroCells196.setIfInBounds 0 (.pointer (some ⟨pp,0,none⟩))) T.zipIdx 0 80).setIfInBounds 81 (.slice (some ⟨w1.heap.size,0,none⟩) (n+1) (n+1))) 196)) (w1.heap.size+1) w1.heap.size w.drew.heap.size:=by
 obtain ⟨rfl,hT,hb⟩:=h;subst Ev;have hs:w.heap.size<=w1.heap.size:=hT.size;have hz:=lt_of_cell hb.f;rw[ZV];refine ⟨⟨?_,?_,by omega,by rw[bM];omega⟩,hb.jG (((fO.refl _ w1).alloc _).alloc _),((((fO.refl _ w).drew).trans hT).alloc _).alloc _,by omega,hs,ak hz⟩
 ·rw[bM];exact Lg.new2
 ·exact (((fO.refl (fun _=>False) (w1.alloc _)).alloc _).block w1.heap.size (by simp) fun h=>h).trans Lg.new1
theorem ybb {T:Array fC}(hn:n<=100000)(Ev:((List.replicate (n+1) (none:Option iB)).flatMap lH).toArray=SC)(h:T=(iQ (w.alloc (.cells SC 198)).drew.heap.size).toArray/\fO (fun _=>False) (w.alloc (.cells SC 198)).drew w1/\NB w1 (w.alloc (.cells SC 198)).drew.heap.size) :
  yU pp n w (w1.alloc (.cells ((Array.foldl (fun (cs:Array fC) (x:fC×Nat)=>cs.setIfInBounds (1+x.2) x.1) (zeroCells196.setIfInBounds 0 (.pointer (some ⟨pp,0,none⟩))) T.zipIdx 0 80).setIfInBounds 81 (.slice (some ⟨w.heap.size,0,none⟩) (n+1) (n+1))) 196)) w1.heap.size w.heap.size (w.alloc (.cells SC 198)).drew.heap.size:=by
 obtain ⟨rfl,hT,hb⟩:=h;subst Ev;have e:(w.alloc (.cells ((List.replicate (n+1) (none:Option iB)).flatMap lH).toArray 198)).drew.heap.size=w.heap.size+1:=by
  show (w.heap.push _).size=_
  simp
 have hs:=hT.size;rw[e] at hs hb |-;rw[ZV];refine ⟨⟨?_,?_,by omega,by rw[bM];omega⟩,hb.jG ((fO.refl _ w1).alloc _),((((fO.refl _ w).alloc _).drew).trans hT).alloc _,by omega,aj _,ah (by omega)⟩
 ·rw[bM];exact Lg.new1
 ·refine ((((fO.refl (fun _=>False) w1).alloc _).block w.heap.size (by omega) fun h=>h).trans (hT.block w.heap.size (by rw[e];omega) fun h=>h)).trans ?_
  exact Lg.new1
structure VL (pp:Nat)(w wr:fu)(bv gs nt ba:Nat)(S:List (Option iB)):Prop where
 v:iE wr bv gs nt pp S
 nb:NB wr nt
 t:fO (fun _=>False) w wr
 b:w.heap.size<=bv
 g:w.heap.size<=gs
 ng:nt+22 < gs\/gs < nt+1
 r:wr.heap[ba]?=some (.cells #[.bool true,.int .i64 0,.int .i64 (-1)] 198)
 ra:ba≠gs
theorem NB.set {g o:Nat}(h:NB W n)(hg:n+22 < g\/g < n+1)(v:fC):NB (W.setCell ⟨g,o,none⟩ v) n:=by
 have k:∀ b o',n+1<=b->b<=n+22->(W.setCell ⟨g,o,none⟩ v).cell? ⟨b,o',none⟩=W.cell? ⟨b,o',none⟩:=fun b o' h1 h2=>uy (fun e=>by have:=congrArg Addr.block e;dsimp only at this;omega)
 exact ⟨(k _ _ (by omega) (by omega)).trans h.a,(k _ _ (by omega) (by omega)).trans h.b,(k _ _ (by omega) (by omega)).trans h.c,fun j hj=>(k _ _ (by omega) (by omega)).trans (h.p j hj),(k _ _ (by omega) (by omega)).trans h.d,(k _ _ (by omega) (by omega)).trans h.e,(k _ _ (by omega) (by omega)).trans h.f⟩
theorem ya5 {wc:fu}(h:yU pp n w wc bv gs nt) :
  VL pp w ((((wc.setCell ⟨gs,0,none⟩ (.bool true)).setCell ⟨gs,1,none⟩ (.int .i64 0)).setCell ⟨gs,2,none⟩ (.int .i64 (-1))).alloc (.cells #[.bool true,.int .i64 0,.int .i64 (-1)] 198)).drew bv gs nt wc.heap.size (nX n):=by
 have hgs:gs < wc.heap.size:=lt_of_block h.v.s;have hv:=h.v.set (p:=0) (by rw[bM];omega) (0,none)
 have hv':iE (((wc.setCell ⟨gs,0,none⟩ (.bool true)).setCell ⟨gs,1,none⟩ (.int .i64 0)).setCell ⟨gs,2,none⟩ (.int .i64 (-1))) bv gs nt pp (nX n):=hv;obtain ⟨w3,h3⟩:∃ w3,((wc.setCell ⟨gs,0,none⟩ (.bool true)).setCell ⟨gs,1,none⟩ (.int .i64 0)).setCell ⟨gs,2,none⟩ (.int .i64 (-1))=w3:=⟨_,rfl⟩;have hb3:NB w3 nt:=by rw[<- h3];exact ((h.nb.set h.ng _).set h.ng _).set h.ng _
 have ht3:fO (fun _=>False) w w3:=by rw[<- h3];exact ((h.t.setCell (p:=⟨gs,0,none⟩) (ah h.g) _).setCell (p:=⟨gs,1,none⟩) (ah h.g) _).setCell (p:=⟨gs,2,none⟩) (ah h.g) _
 have hsz:w3.heap.size=wc.heap.size:=by rw[<- h3];simp
 rw[h3] at hv' |-;rw[<- hsz];refine ⟨hv'.jG (((fO.refl _ w3).alloc _).drew),hb3.jG (((fO.refl _ w3).alloc _).drew),(ht3.alloc _).drew,h.b,h.g,h.ng,Lg.new1,by omega⟩
theorem yaq (P:Pg)(S:List (Option iB))(p:Nat)(i:Px.Ins):mM P S p [i]=mD P S p i:=by
 show (mD P S p i).bind (fun T=>some T)=_
 cases mD P S p i<;>rfl
theorem ZW (hm:m < P.ins.length)(h:mM P (nX n) 0 (P.ins.take m)=some S):mM P (nX n) 0 (P.ins.take (m+1))=mD P S m P.ins[m]:=by
 rw[<- List.take_append_getElem hm,Jk,h];show mM P S (0+(P.ins.take m).length) [P.ins[m]]=_
 rw[yaq,bU,Nat.min_eq_left (bN hm),bX]
theorem yar (h:mM P (nX n) 0 (P.ins.take m)=none):mM P (nX n) 0 P.ins=none:=by
 have e:P.ins=P.ins.take m++P.ins.drop m:=(List.take_append_drop m P.ins).symm;rw[e,Jk,h];rfl
theorem ybv (hm:m < P.ins.length)(h:mM P (nX P.ins.length) 0 (P.ins.take m)=some S)(h2:mD P S m P.ins[m]=none):lF P=false:=by
 have h3:mM P (nX P.ins.length) 0 P.ins=none:=yar (m:=m+1) ((ZW hm h).trans h2);unfold lF;rw[h3]
theorem ybu (h:mM P (nX P.ins.length) 0 (P.ins.take P.ins.length)=some S):lF P=(match gW S P.ins.length with
  | none=>true
  | some s=>s == (0,none)):=by
 rw[cK] at h;unfold lF;rw[h];simp only;cases gW S P.ins.length<;>rfl
theorem VL.look {wr wx w':fu}{ba:Nat}(h:VL pp w wr bv gs nt ba S)(t1:fO (fun _=>False) wr wx)(t2:fO (·=gs) wx w')(hv:iE w' bv gs nt pp T):VL pp w w' bv gs nt ba T:=by
 have hba:ba < wr.heap.size:=lt_of_block h.r;have k:∀ {b o:Nat} {v:fC},b≠gs->wr.cell? ⟨b,o,none⟩=some v->w'.cell? ⟨b,o,none⟩=some v:=fun {b o v} hb hc=>by
  have hl:=lt_of_cell hc;rw[aF (w:=wx) (a:=⟨b,o,none⟩) (t2.block b (aV hl t1.size) hb)];exact qw t1 hc
 have ng:=h.ng;refine ⟨hv,⟨k (by omega) h.nb.a,k (by omega) h.nb.b,k (by omega) h.nb.c,fun j hj=>k (by omega) (h.nb.p j hj),k (by omega) h.nb.d,k (by omega) h.nb.e,k (by omega) h.nb.f⟩,?_,h.b,h.g,h.ng,?_,h.ra⟩
 ·have g:=h.g;have t3:fO (·=gs) w w':=((h.t.trans t1).mono fun _ _ h=>h.elim).trans t2
  exact t3.mono fun j hj e=>by omega
 ·exact ((t2.block ba (aV hba t1.size) h.ra).trans (t1.block ba hba fun h=>h)).trans h.r
theorem VL.jG {pp:Nat}{w wr wx:fu}{bv gs nt ba:Nat}{S:List (Option iB)}(h:VL pp w wr bv gs nt ba S)(t1:fO (fun _=>False) wr wx):VL pp w wx bv gs nt ba S :=
 h.look t1 (fO.refl _ _) (h.v.jG t1)
def ZX (pp:Nat)(w:fu)(P:Pg)(bv gs nt ba m:Nat)(wr:fu):Prop :=
 ∃ S,VL pp w wr bv gs nt ba S/\mM P (nX P.ins.length) 0 (P.ins.take m)=some S/\Kn S m/\S.length=P.ins.length+1
theorem zz3 (pp B0:Nat)(P:Pg)(N:List fq)(w:fu)(hP:sJ w B0 P N pp)(hok:∀ i∈P.ins,ni i)(hn:P.ins.length<=100000) :
  Calls prog 36 #[.pointer (some ⟨pp,0,none⟩)] w (KD P w):=by
 obtain ⟨_,vl,vw,vn,h0,hl,hw,_⟩:=hP;obtain ⟨a1,n1,c1,rfl⟩:=jm hw;obtain ⟨la,n2,lc,rfl⟩:=jm hl;obtain ⟨rfl,_,_⟩:=NA hw;obtain ⟨rfl,hI⟩:=Zv hl;have p0:Hid (w.cell? ⟨pp,0,none⟩=some (.slice a1 P.fT.length c1)):=by unfold Hid;simp[World.cell?,h0]
 have p1:Hid (w.cell? ⟨pp,1,none⟩=some (.int .i64 (P.nv:Int))):=by unfold Hid;simp[World.cell?,h0]
 have hp:w.cell? ⟨pp,3,none⟩=some (.slice la P.ins.length lc):=by simp[World.cell?,h0]
 have HI:Hid (_):=hI;have OK:Hid (∀ i∈P.ins,ni i):=hok;clear h0 hl hw hI hok;obtain ⟨n,hnn⟩:∃ n,P.ins.length=n:=⟨_,rfl⟩;have HN:Hid (P.ins.length=n):=hnn;rw[hnn] at hp hn;clear hnn;have hmk:∀ W:fu,(Instr.makeSlice 194 (.int .i64 ((n:Int)+1)) (.int .i64 ((n:Int)+1))).run prog W=.ok (.slice (some ⟨W.heap.size,0,none⟩) (n+1) (n+1)) (W.alloc (.cells ((List.replicate (n+1) (none:Option iB)).flatMap lH).toArray 198)):=ya7 (n+1) (by omega)
 obtain ⟨SC,Ev⟩:∃ SC,((List.replicate (n+1) (none:Option iB)).flatMap lH).toArray=SC:=⟨_,rfl⟩;rw[Ev] at hmk;have hwr:IntKind.i64.wrap ((n:Int)+1)=(n:Int)+1:=by rw[IntKind.wrap_i64];omega
 have hpz:=lt_of_cell hp;have HM:Hid (∀ W:fu,W.cell? ⟨pp,3,none⟩=some (.slice la n lc)->Calls prog 26 #[] W fun e w1=>∃ T:Array fC,e=.returned (.agg T)/\T.size=80/\(∀ cs:Array fC,(Array.foldl (fun (cs:Array fC) (x:fC×Nat)=>cs.setIfInBounds (1+x.2) x.1) cs T.zipIdx 0 80).size=cs.size)/\w1.cell? ⟨pp,3,none⟩=some (.slice la n lc)/\Hid (T=(iQ W.heap.size).toArray/\fO (fun _=>False) W w1/\NB w1 W.heap.size)):=fun W hW=>by
  refine (yao W).mono ?_;rintro e w1 ⟨rfl,hT,hc⟩;exact ⟨_,rfl,rfl,ZH rfl,qw hT hW,rfl,hT,hc⟩
 go_enter func36,ntmps36
 go_upto_region 1 with fail
 go_cut [3] (fun v3 wc=>∃ bv,v3=.pointer (some ⟨bv,0,none⟩)/\Hid (∃ gs nt,yU pp n w wc bv gs nt))
 case first =>
  go_region_held (fun w'=>w'.cell? ⟨pp,3,none⟩=some (.slice la n lc)) (go_keep)
   (first | (go_at_call 26;refine aA (HM.o _ (by simp[*])) ?_;rintro e w1 ⟨T,rfl,hTs,SK,d1,H1⟩))
  all_goals go_wp2_with fail
  all_goals go_meet
  all_goals first
   | exact ⟨_,rfl,_,_,ybc hn Ev H1.o⟩
   | exact ⟨_,rfl,_,_,ybb hn Ev H1.o⟩
 case rest =>
  obtain ⟨bv,rfl,HV⟩:=hcut;clear hmk hwr HM;obtain ⟨gs,nt,hV⟩:∃ gs nt,Hid (yU pp n w wc bv gs nt):=HV.o;have Et:=hV.o.v.slice;rw[bM] at Et;have hgs:gs < wc.heap.size:=lt_of_block hV.o.v.s;have hbv:bv < wc.heap.size:=lt_of_block hV.o.v.v;have ff:=hV.o.v.free;have s0:=hV.o.v.state (p:=0) (by rw[bM];omega) 0 (by decide)
  have s1:=hV.o.v.state (p:=0) (by rw[bM];omega) 1 (by decide)
  have s2:=hV.o.v.state (p:=0) (by rw[bM];omega) 2 (by decide)
  have t0:wc.cell? ⟨gs,0,none⟩=some (.bool false):=s0;have t1:wc.cell? ⟨gs,1,none⟩=some (.int .i64 0):=s1;have t2:wc.cell? ⟨gs,2,none⟩=some (.int .i64 0):=s2;clear s0 s1 s2;obtain ⟨ba,hba⟩:∃ ba,Hid (wc.heap.size=ba):=⟨_,rfl⟩;go_upto_region 3 with fail
  go_cut [] (fun wx=>Hid (VL pp w wx bv gs nt ba (nX n)))
  case first =>
   have Uh:gs < wc.heap.size+1:=by omega
   have hn0:(0:Int) < (n:Int)+1:=by omega
   go_region
   all_goals go_wp2_with fail
   all_goals go_meet
   rw[<- hba.o];exact ya5 hV.o
  case rest =>
   rw[hba.o];clear Et hgs hbv ff t0 t1 t2 HV hV hba;have q3:=qw hcut.o.t hp;go_wp2_with fail;go_loopw [32] (fun i wr=>∃ m:Nat,m<=n/\i=.int .i64 m/\Hid (ZX pp w P bv gs nt ba m wr)) (fun i _=>n - (intOf i).toNat)
   case atStart=>exact ⟨0,by omega,rfl,nX n,hcut.o,by rw[HN.o];rfl,ybg n,by rw[HN.o];simp[nX]⟩
   case round =>
    obtain ⟨m,hm,rfl,hr⟩:=hrel;by_cases hlt:m < n
    ·have hlt':(m:Int) < (n:Int):=by omega
     have N8:m < P.ins.length:=by rw[HN.o];exact hlt
     obtain ⟨g,rfl,y0,y1,y2⟩:=HI.o m N8;have hok:=OK.o P.ins[m] (dV N8);obtain ⟨S,hS⟩:∃ S,Hid (VL pp w wr bv gs nt ba S/\mM P (nX P.ins.length) 0 (P.ins.take m)=some S/\Kn S m/\S.length=P.ins.length+1):=hr.o;have y0:=qw hS.o.1.t y0;have y1:=qw hS.o.1.t y1;have y2:=qw hS.o.1.t y2;have HB:Hid (mD P S m P.ins[m]=none->lF P=false):=fun h=>ybv N8 hS.o.2.1 h
     have HG:Hid (∀ T,mD P S m P.ins[m]=some T->mM P (nX P.ins.length) 0 (P.ins.take (m+1))=some T):=fun T h=>(ZW N8 hS.o.2.1).trans h
     generalize P.ins[m]=ins at *;obtain ⟨k,ia,ib⟩:=ins;dsimp only at *;have TA:Hid (fO (fun _=>False) wr (wr.alloc (.cells #[.int .i64 (k:Int),.int .i64 (ia:Int),.int .i64 (ib:Int)] 90))):=(fO.refl _ _).alloc _
     have LK:Hid (_):=ybe bv gs nt pp m P S k ia ib a1 c1 _ (hS.o.1.jG TA.o).v hS.o.2.2.2 (by have:=hS.o.2.2.2;omega) hS.o.2.2.1 hok.k hok.a hok.b (qw TA.o (qw hS.o.1.t p0.o)) (qw TA.o (qw hS.o.1.t p1.o)) ((hS.o.1.jG TA.o).nb.need k hok.k)
     clear hok hr;go_wp2_with fail;refine aA LK.o ?_;rintro e w2 ⟨t2,⟨hn0,s,hs0,rfl⟩ | ⟨T,hT,rfl,hv⟩⟩
     ·have HF:Hid (fO (fun _=>False) w w2/\lF P=false):=by
       refine ⟨?_,HB.o hn0⟩;have g:=hS.o.1.g;have t3:fO (·=gs) w w2:=((hS.o.1.t.trans TA.o).mono fun _ _ h=>h.elim).trans t2
       exact t3.mono fun j hj e=>by omega
      have hne:s.toList.isEmpty=false:=by
       rw[aN,List.isEmpty_eq_false_iff];intro e;exact hs0 (by show s.data.size=0;rw[<- eD,e];rfl)
      clear LK t2 hn0 hs0 TA HB HG;go_wp2_with fail;go_ret;exact ⟨HF.o.1.alloc _,ah ⟨HF.o.2,_,rfl⟩⟩
     ·have HK:Hid (ZX pp w P bv gs nt ba (m+1) w2):=by
       obtain ⟨k1,k2⟩:=hS.o.2.2.1.look (P:=P) hS.o.2.2.2 (by have:=hS.o.2.2.2;omega) hT
       exact ⟨T,hS.o.1.look TA.o t2 hv,HG.o T hT,k1,by rw[k2];exact hS.o.2.2.2⟩
      clear LK t2 hv hT TA HB HG;go_wp2_with fail;exact ⟨⟨m+1,by omega,by go_num,HK.o⟩,by simp[intOf];omega⟩
    ·obtain rfl:m=n:=by omega
     have hne:¬ ((m:Int) < (m:Int)):=by omega
     obtain ⟨S,hS⟩:∃ S,Hid (VL pp w wr bv gs nt ba S/\mM P (nX P.ins.length) 0 (P.ins.take m)=some S/\Kn S m/\S.length=P.ins.length+1):=hr.o;have HT:Hid (fO (fun _=>False) w wr):=hS.o.1.t
     have q3:=qw hS.o.1.t hp;have Et:=hS.o.1.v.slice;have ZY:S.length=m+1:=by rw[hS.o.2.2.2,HN.o]
     rw[ZY] at Et;have hgs:gs < wr.heap.size:=lt_of_block hS.o.1.v.s;have hbv:bv < wr.heap.size:=lt_of_block hS.o.1.v.v;have hba:ba < wr.heap.size:=lt_of_block hS.o.1.r;have hpz2:pp < wr.heap.size:=lt_of_cell q3;obtain ⟨r0,r1,r2,rf⟩:=Mk.cells3 hS.o.1.r;have s0:=hS.o.1.v.state (p:=m) (by omega) 0 (by decide)
     have s1:=hS.o.1.v.state (p:=m) (by omega) 1 (by decide)
     have s2:=hS.o.1.v.state (p:=m) (by omega) 2 (by decide)
     rw[dU] at s0;have hm1:(m:Int) < (m:Int)+1:=by omega
     have HE:Hid (lF P=(match gW S m with
      | none=>true
      | some s=>s == (0,none))):=by
      have e:=hS.o.2.1;rw[<- HN.o] at e
      have:=ybu e
      rw[HN.o] at this;exact this
     clear hS hr ZY;cases hv:gW S m with
     | none =>
      rw[hv] at s0 s1 s2 HE;simp only[lH,dI,aM] at s0 s1 s2;go_wp2_with fail;go_region
      all_goals go_wp2_with fail
      all_goals
       go_ret;exact ⟨(HT.o.alloc _).drew,ak ⟨HE.o,rfl⟩⟩
     | some t =>
      obtain ⟨th,tt⟩:=t;rw[hv] at s0 s1 s2 HE;simp only[lH,dI,aM] at s0 s1 s2;by_cases e1:th=0
      ·subst e1;by_cases e2:tt=none
       ·subst e2;simp only[iO] at s2;go_wp2_with fail;go_region
        all_goals go_wp2_with fail
        all_goals
         go_ret;exact ⟨(HT.o.alloc _).drew,ak ⟨by rw[HE.o];rfl,rfl⟩⟩
       ·have HF:Hid (lF P=false):=by
         unfold Hid;rw[HE.o];exact beq_eq_false_iff_ne.2 fun e=>e2 (congrArg Prod.snd e)
        have hti:iO tt≠-1:=fun e=>e2 (T9 (b:=none) e)
        have Es:(iO tt == -1)=false:=by rw[beq_eq_false_iff_ne];exact hti
        generalize iO tt=ti at *;go_wp2_with fail;go_region
        all_goals go_wp2_with fail
        all_goals
         go_ret;exact ⟨((HT.o.alloc _).alloc _).drew,ah ⟨HF.o,_,rfl⟩⟩
      ·have HF:Hid (lF P=false):=by
        unfold Hid;rw[HE.o];exact beq_eq_false_iff_ne.2 fun e=>e1 (congrArg Prod.fst e)
       have Es:((th:Int) == 0)=false:=by rw[beq_eq_false_iff_ne];omega
       generalize iO tt=ti at *;go_wp2_with fail;go_region
       all_goals go_wp2_with fail
       all_goals
        go_ret;exact ⟨((HT.o.alloc _).alloc _).drew,ah ⟨HF.o,_,rfl⟩⟩
theorem yae (c:List UInt8)(w:fu)(hs:c.length<=maxLen):Calls prog 17 #[.string ⟨c.toArray⟩] w (NW c w):=yad c w hs zz3
end Cd
open Go.RowKit Go.Extern.Stop Go.Stop Go.Extern
namespace Lg
theorem Z0 (v:fC)(xT:TypeId)(w:fu):(Instr.typeAssert (.iface 101 v) xT 283 true).run prog w=.ok (.tuple #[.nilIface,.bool false]) w:=run_typeAssert_lacksB underlying283 (by kernel_rfl) (by kernel_rfl) v xT w
theorem Um (v:fC)(xT:TypeId)(w:fu):(Instr.typeAssert (.iface 101 v) xT 215 true).run prog w=.ok (.tuple #[.iface 101 v,.bool true]) w:=run_typeAssert_hasB underlying215 (by kernel_rfl) v xT w
theorem Un (v:fC)(w:fu):(Go.method 479 101 v "Unwrap").run prog w=.ok (213,v) w:=by kernel_rfl
theorem KI (v:fC)(xT:TypeId)(w:fu):(Instr.typeAssert (.iface 101 v) xT 212 true).run prog w=.ok (.tuple #[.nilIface,.bool false]) w:=run_typeAssert_lacksB underlying212 (by kernel_rfl) (by kernel_rfl) v xT w
theorem yby (v:fC)(w:fu):(ReflectliteType.typeOf #[.iface 101 v]).run prog w=.ok (.iface 207 (.agg #[.pointer (some ⟨17,101,none⟩)])) w:=by kernel_rfl
theorem zzs (w:fu):(ReflectliteType.relation "AssignableTo" ReflectliteType.assignableTo #[.agg #[.pointer (some ⟨17,101,none⟩)],.iface 207 (.agg #[.pointer (some ⟨17,70,none⟩)])]).run prog w=.ok (.bool false) w:=by kernel_rfl
theorem zzk (f:Nat)(b:Addr)(w:fu)(h1:w.cell? ⟨7,0,none⟩=some (.iface 337 (.pointer (some b)))) :
  Calls prog 48 #[.iface 101 (.pointer (some ⟨f,0,none⟩)),.iface 337 (.pointer (some b))] w fun e w'=>e=.returned (.bool true)/\w'=w:=by
 obtain ⟨i,hi,hcmp⟩:=bE.1 FU;obtain ⟨j,hj,hjs⟩:=bE.1 FV;have h8:=Ja;have h32:=yx;have tT:=BI;have cT:=FR;have mR:=FT;have nE:=I9;have uE:=DL;have vE:=DN;have nW:=Z0;have uW:=Um;have mU:=Un;have heq:=run_eql_iface_ptr_same (P:=prog) w b underlying43 underlying337 hi hcmp hj;have hty:=run_eql_iface_types (P:=prog) 101 337 (.pointer (some ⟨f,0,none⟩)) (.pointer (some b)) underlying43 (by decide) w
 go_enter func48,ntmps48
 go_wp2;refine wp_loop_rounds 2 ?_;rw[rounds_succ];go_wp2;rw[rounds_succ];go_wp2;go_ret;exact ⟨rfl,rfl⟩
theorem zzg (f:Nat)(b a:Addr)(ca cb:Array fC)(ta tb:TypeId)(w:fu)(h1:w.cell? ⟨7,0,none⟩=some (.iface 337 (.pointer (some a))))(hne:a≠b)(ha:w.heap[a.block]?=some (.cells ca ta (0,0)))(hb:w.heap[b.block]?=some (.cells cb tb (0,0))) :
  Calls prog 48 #[.iface 101 (.pointer (some ⟨f,0,none⟩)),.iface 337 (.pointer (some b))] w fun e w'=>e=.returned (.bool false)/\w'=w:=by
 obtain ⟨i,hi,hcmp⟩:=bE.1 FU;obtain ⟨j,hj,hjs⟩:=bE.1 FV;have h8:=Ja;have h32:=yx;have tT:=BI;have cT:=FR;have mR:=FT;have nE:=I9;have uE:=DL;have vE:=DN;have nW:=Z0;have uW:=Um;have mU:=Un;have heq:=run_eql_iface_ptr_other (P:=prog) w underlying43 underlying337 hi hcmp hj (by rw[hjs];decide) hne ha hb
 have hty:=run_eql_iface_types (P:=prog) 101 337 (.pointer (some ⟨f,0,none⟩)) (.pointer (some b)) underlying43 (by decide) w
 go_enter func48,ntmps48
 go_wp2;refine wp_loop_rounds 2 ?_;rw[rounds_succ];go_wp2;rw[rounds_succ];go_wp2;go_ret;exact ⟨rfl,rfl⟩
theorem ycb (f:Nat)(e t:Addr)(w:fu)(hg:w.cell? ⟨2,0,none⟩=some (.iface 207 (.agg #[.pointer (some ⟨17,43,none⟩)])))(hc:w.cell? ⟨7,0,none⟩=some (.iface 337 (.pointer (some e)))) :
  Calls prog 23 #[.iface 101 (.pointer (some ⟨f,0,none⟩)),.iface 72 (.pointer (some t))] w fun ev w'=>ev=.returned (.bool false)/\w'=(((w.alloc (.cells #[.pointer (some t)] 72)).alloc (mW w)).alloc (mW w)):=by
 have h6:=QX;have h7:=QY;have h8:=QZ;have h27:=DR;have h37:=DT;have XZ:=DU;have h10:=DV;have Dg:=DW;have tO:=BI;have mA:=QT;have aE:=XW;have f6:=QI;have f7:=QJ;have mK:=QK;have mE:=QO;have mI:=QS;have k27:=QL;have k25:=QM;have e27:=QU;have i25:=QV;have nE:=XY;have uE:=DL;have vE:=DN;have tW:=yby;have aW:=zzs;have nW:=KI;have uW:=Um;have mU:=Un;have hcl:7 < w.heap.size:=lt_of_cell hc;have hc2:(((w.alloc (.cells #[.pointer (some t)] 72)).alloc (mW w)).alloc (mW w)).cell? ⟨7,0,none⟩=some (.iface 337 (.pointer (some e))):=by
  rw[bF _ _ ⟨7,0,none⟩ (by simp;omega),bF _ _ ⟨7,0,none⟩ (by simp;omega),bF _ _ ⟨7,0,none⟩ hcl];exact hc
 have n8:=QN ⟨w.heap.size,0,none⟩ t ((w.alloc (.cells #[.pointer (some t)] 72)).alloc (mW w)) (by simp[mW])
 have hlt:2 < w.heap.size:=by
  rcases dD 2 w.heap.size with h | h
  ·exact h
  ·have:w.heap[2]?=none:=by simp[h]
   simp[World.cell?,this] at hg
 have hg2:((w.alloc (.cells #[.pointer (some t)] 72)).alloc (mW w)).cell? ⟨2,0,none⟩=some (.iface 207 (.agg #[.pointer (some ⟨17,43,none⟩)])):=by
  rw[bF _ _ ⟨2,0,none⟩ (by simp;omega),bF _ _ ⟨2,0,none⟩ hlt];exact hg
 unfold mW at *;go_enter func23,ntmps23
 go_wp2;refine wp_loop_rounds 2 ?_;rw[rounds_succ];go_wp2;rw[rounds_succ];go_wp2;go_ret;exact ⟨rfl,rfl⟩
theorem zy1 {w:fu}{E:Nat->Addr}(h:uS w E)(f:Nat){i:Nat}(hi:1<=i/\i<=9)(hne:7≠i) :
  Calls prog 48 #[.iface 101 (.pointer (some ⟨f,0,none⟩)),.iface 337 (.pointer (some (E i)))] w fun e w'=>e=.returned (.bool false)/\w'=w:=by
 obtain ⟨ca,ta,ha⟩:=h.blk 7 (by decide) (by decide)
 obtain ⟨cb,tb,hb⟩:=h.blk i hi.1 hi.2;exact zzg f _ _ _ _ _ _ w h.v7 (h.ne 7 i (by decide) (by decide) hi.1 hi.2 hne) ha hb
theorem zzp (E:Nat->Addr)(f:Nat)(w:fu)(h:uS w E):Calls prog 24 #[.iface 101 (.pointer (some ⟨f,0,none⟩))] w fun r w'=>r=.returned (.int .i64 7)/\w'=w:=by
 have v1:=h.v1;have v3:=h.v3;have v4:=h.v4;have v5:=h.v5;have v6:=h.v6;have v7:=h.v7;have H:Hid (uS w E):=h;clear h;go_enter func24,ntmps24
 repeat (go_wp2_with fail;refine (zy1 H.o f (by omega) (by omega)).mono ?_;rintro r w' ⟨rfl,rfl⟩)
 go_wp2_with fail;refine (zzk f (E 7) _ H.o.v7).mono ?_;rintro r w' ⟨rfl,rfl⟩;go_wp2_with fail;go_ret;exact ⟨rfl,rfl⟩
theorem yab (E:Nat->Addr)(f:Nat)(w:fu)(h:uS w E):Calls prog 12 #[.iface 101 (.pointer (some ⟨f,0,none⟩))] w fun r w'=>r=.returned (.tuple #[.int .i64 7,.int .i64 0])/\Below w.heap.size w w':=by
 have H:Hid (uS w E):=h;have hb:Hid (Below w.heap.size w (w.alloc (.cells #[.pointer none] 70))):=(aH _ _).alloc (aj _) _;clear h;go_enter func12,ntmps12
 go_wp2_with fail;refine (ycb f (E 7) _ _ (H.o.below hb.o).et (H.o.below hb.o).v7).mono ?_;rintro r w' ⟨rfl,rfl⟩;have hb2:Hid (Below w.heap.size w ((((w.alloc (.cells #[.pointer none] 70)).alloc (.cells #[.pointer (some ⟨w.heap.size,0,none⟩)] 72)).alloc (mW (w.alloc (.cells #[.pointer none] 70)))).alloc (mW (w.alloc (.cells #[.pointer none] 70))))) :=
  (((hb.o.alloc (by simp) _).alloc (by simp;omega) _).alloc (by simp;omega) _)
 go_wp2_with fail;refine (zzp E f _ (H.o.below hb2.o)).mono ?_;rintro r w' ⟨rfl,rfl⟩;go_wp2_with fail;go_ret2;exact ⟨rfl,hb2.o⟩
