import Derived.Test.YtokkhhekekeokaaGreatDoorC41
set_option maxRecDepth 100000
set_option maxHeartbeats 4000000
namespace Go.Proofs.YtokkhhekekeokaaGreatDoor
open Go.RowKit Tryz
namespace Cd
open Lg Mk Px Ref Rn
def NW (c:List UInt8)(w:fu)(e:Ending)(w':fu):Prop :=
 Below w.heap.size w w'/\((∃ P pp,Px.good c=some P/\e=.returned (.tuple #[.pointer (some ⟨pp,0,none⟩),.nilIface])/\sJ w' w.heap.size P [] pp/\Rdy P) \/
  (Px.good c=none/\∃ f,e=.returned (.tuple #[.pointer none,.iface 101 (.pointer (some ⟨f,0,none⟩))])))
def TV (br:Nat)(wr:fu):Nat :=
 match wr.cell? ⟨br,0,none⟩ with
 | some (.string s)=>s.size
 | _=>0
variable {bv g gs k n nt o p pp:Nat}
theorem ZI {wr:fu}{br:Nat}{s:List UInt8}(h:iJ wr br nt s):TV br wr=s.length:=by
 unfold TV;rw[h.cell];exact Gg s
theorem yad (c:List UInt8)(w:fu)(hs:c.length<=maxLen)(HV:∀ (pp B0:Nat) (P:Pg) (N:List fq) (w:fu),sJ w B0 P N pp->(∀ i∈P.ins,ni i)->P.ins.length<=100000->Calls prog 36 #[.pointer (some ⟨pp,0,none⟩)] w (KD P w)) :
  Calls prog 17 #[.string ⟨c.toArray⟩] w (NW c w):=by
 have hz:=Gg c;unfold maxLen at hs;by_cases hlong:65536 < c.length
 ·have hg:=yat hlong;generalize (⟨c.toArray⟩:fq)=S at *;have hi:(65536:Int) < (S.size:Int):=by omega
  go_enter func17,ntmps17
  go_wp2_with fail;go_ret2;exact ⟨(aH _ _).alloc (aj _) _,ah ⟨hg,_,rfl⟩⟩
 ·have HC:Hid (_):=SX c lN w (by omega) (by decide)
  have HS:Hid (_):=hlong;have hi:¬ ((65536:Int) < ((⟨c.toArray⟩:fq).size:Int)):=by rw[hz];omega
  by_cases hh:c.take lN.length=lN
  ·have hc:cutV c lN=.tuple #[.string ⟨(c.drop lN.length).toArray⟩,.bool true]:=if_pos hh;rw[hc] at HC;have HH:Hid (_):=hh;have hl2:(c.drop lN.length).length<=65536:=by rw[List.length_drop];omega
   clear hh hc;generalize hR:c.drop lN.length=R at *;have HR:Hid (_):=hR;generalize (⟨c.toArray⟩:fq)=S at *;clear hlong hR;go_enter func17,ntmps17
   go_wp2_with fail;refine aA HC.o ?_;rintro e w1 ⟨rfl,rfl⟩;clear HC;have HM:Hid (∀ W:fu,Calls prog 26 #[] W fun e w1=>∃ T:Array fC,e=.returned (.agg T)/\T.size=80/\(∀ cs:Array fC,(Array.foldl (fun (cs:Array fC) (x:fC×Nat)=>cs.setIfInBounds (1+x.2) x.1) cs T.zipIdx 0 80).size=cs.size)/\Hid (T=(iQ W.heap.size).toArray/\fO (fun _=>False) W w1)):=fun W=>by
    refine (SI W).mono ?_;rintro e w1 ⟨rfl,hT,_⟩;exact ⟨_,rfl,rfl,ZH rfl,rfl,hT⟩
   go_wp2_with fail;refine aA (HM.o _) ?_;rintro e w2 ⟨T,rfl,hTs,SK,H2⟩;clear HM;have S0:Hid (_):=yag (R:=R) H2.o;have HN:Hid (_):=NV _ _ R _ S0.o.rr (by omega)
   go_wp2_with fail;clear hTs SK H2;generalize Array.foldl (fun (cs:Array fC) (x:fC×Nat)=>cs.setIfInBounds (1+x.2) x.1) (zeroCells108.setIfInBounds 0 (.string ⟨R.toArray⟩)) T.zipIdx 0 80=TT at *
   generalize hW2:(w2.alloc (.cells TT 108)).alloc (.cells #[.slice none 0 0,.int .i64 0,.slice none 0 0,.slice none 0 0] 80)=W2 at *;generalize hbr:w2.heap.size=br at *;generalize hbp:br+1=bp at *;clear hbp;refine aA HN.o ?_;rintro e w3 (⟨hn,rfl,rfl⟩ | ⟨nv,r1,hn,Bh,rfl,Cj,mH⟩)
   ·obtain ⟨x0,x1,x2,x3,xf,xl⟩:=pq S0.o.pg;have HG:Hid (Px.good c=none):=ybk HS.o HH.o (by rw[HR.o];exact hn)
    clear HN hn;go_wp2_with fail;go_ret2;exact ⟨(S0.o.b.setCell (p:=⟨bp,1,none⟩) S0.o.p0 _).alloc (by have:=S0.o.b.size;simpa using this) _,ah ⟨HG.o,_,rfl⟩⟩
   ·have S1:Hid (_):=S0.o.read mH Cj;have hl1:r1.length<=65536:=by have:=(NS hn).1;omega
    have TW:Hid (_):=hn;clear HN Cj mH hn hW2 S0;obtain ⟨x0,x1,x2,x3,xf,xl⟩:=pq S1.o.pg;have S2:Hid (_):=S1.o.gI nv;have HW:Hid (_):=ya4 _ _ r1 _ S2.o.rr (by omega)
    go_wp2_with fail;clear x0 x1 x2 x3 xf xl S1;generalize w3.setCell ⟨bp,1,none⟩ (.int .i64 (nv:Int))=W3 at *;refine aA HW.o ?_;rintro e w4 ⟨t4,⟨hw,rfl⟩ | ⟨ws,r3,vw,hw,rfl,ZJ,o4⟩⟩
    ·obtain ⟨b4,ZK⟩:=S2.o.broke t4;obtain ⟨x0,x1,x2,x3,xf,xl⟩:=pq ZK;have HG:Hid (Px.good c=none/\Below w1.heap.size w1 w4):=⟨zz7 HS.o HH.o (by rw[HR.o];exact TW.o) hw,b4⟩
     have hp0:=S2.o.p0;clear HW hw t4 b4 ZK;go_wp2_with fail;go_ret2;exact ⟨(HG.o.2.setCell (p:=⟨bp,0,none⟩) hp0 _).alloc (by have:=HG.o.2.size;simpa using this) _,ah ⟨HG.o.1,_,rfl⟩⟩
    ·have S3:Hid (_):=S2.o.read t4 ZJ;have O4:Hid (w4.ownsRow w1.heap.size 9 1 vw ws.length (Mk.strCells ws)):=TM o4 S2.o.b.size;obtain ⟨hwl,hl3⟩:=ycf hw;have ZL:Hid (_):=hw;obtain ⟨x0,x1,x2,x3,xf,xl⟩:=pq S3.o.pg;have S4:Hid (_):=S3.o.setW O4.o;obtain ⟨ua,un,uc,rfl⟩:=jm o4;have hc0:=S4.o.rr.cell;have hbz:=S4.o.rr.lt;clear HW hw t4 ZJ o4 O4 S2;go_wp2_with fail;clear x0 x1 x2 x3 xf xl S3;generalize w4.setCell ⟨bp,0,none⟩ (.slice ua un uc)=W4 at *;obtain ⟨i0,hi0,hz0,hz1,hz2⟩:=info_parts YM;go_loopw [] (fun wr=>∃ (L:List Px.Ins) (s:List UInt8) (vl:fC),s.length+L.length<=65536/\Hid (qI w1 br bp w1.heap.size nv ws L s (.slice ua un uc) vl wr/\jH r3.length r3=(jH s.length s).map (L++·)/\∀ i∈L,ni i)) (fun wr=>TV br wr)
     case atStart =>
      refine ⟨[],r3,.slice none 0 0,by simp;omega,S4.o,?_,fun i hi=>by cases hi⟩
      cases jH r3.length r3<;>rfl
     case round =>
      obtain ⟨L,s,vl,hls,hr⟩:=hrel;have hc1:=hr.o.1.rr.cell;have hbz1:=hr.o.1.rr.lt;have hmu:=ZI hr.o.1.rr;clear hc0 hbz S4;by_cases hs0:s=[]
      ·have hne:(⟨s.toArray⟩:fq).toList.isEmpty=true:=by
        rw[aN,hs0];rfl
       have hL:jH r3.length r3=some L:=by
        rw[hr.o.2.1,hs0];show (some ([]:List Px.Ins)).map (L++·)=_
        simp
       have HP:Hid (sJ wr w1.heap.size ⟨ws,nv,L⟩ [] bp):=⟨hr.o.1.p0,vl,.slice ua un uc,.slice none 0 0,hr.o.1.pg,hr.o.1.l,hr.o.1.w,aT _ _ _ _⟩;have HE:Hid (_):=ybj HS.o HH.o (by rw[HR.o];exact TW.o) ZL.o hL
       have TY:Hid (_):=HV bp w1.heap.size ⟨ws,nv,L⟩ [] wr HP.o hr.o.2.2 (by show L.length<=_;omega)
       generalize (⟨s.toArray⟩:fq)=SS at *;clear hL HV;go_wp2_with fail;refine aA TY.o ?_;rintro e w5 ⟨t5,⟨hv,rfl⟩ | ⟨hv,f,rfl⟩⟩
       ·have HF:Hid (NW c w1 (.returned (.tuple #[.pointer (some ⟨bp,0,none⟩),.nilIface])) w5):=by
         refine ⟨hr.o.1.b.trans (t5.mY hr.o.1.b.size fun _ h=>h.elim),ak ⟨_,_,?_,rfl,?_,hv,hr.o.2.2,by show L.length<=_;omega,hwl,Bh⟩⟩
         ·rw[HE.o,if_pos hv]
         ·obtain ⟨q1,q2,q3,q4,q5,q6,q7,q8⟩:=HP.o;exact ⟨q1,q2,q3,q4,(t5.block _ (lt_of_block q5) fun h=>h).trans q5,gZ q6 t5 (fun _ _ h=>h),gZ q7 t5 (fun _ _ h=>h),gZ q8 t5 (fun _ _ h=>h)⟩
        clear t5 hv TY HP HE hr;go_wp2_with fail;go_ret2;exact HF.o
       ·have HF:Hid (NW c w1 (.returned (.tuple #[.pointer none,.iface 101 (.pointer (some ⟨f,0,none⟩))])) w5):=by
         refine ⟨hr.o.1.b.trans (t5.mY hr.o.1.b.size fun _ h=>h.elim),ah ⟨?_,_,rfl⟩⟩
         rw[HE.o,if_neg (by rw[hv];decide)]
        clear t5 hv TY HP HE hr;go_wp2_with fail;go_ret2;exact HF.o
      ·have hne:(⟨s.toArray⟩:fq).toList.isEmpty=false:=by
        rw[aN];show s.isEmpty=false
        rw[List.isEmpty_eq_false_iff];exact hs0
       have HI:Hid (_):=ycj br w1.heap.size s wr hr.o.1.rr (by omega)
       generalize (⟨s.toArray⟩:fq)=SS at *;go_wp2_with fail;refine aA HI.o ?_;rintro e w5 ⟨t5,⟨hw,rfl⟩ | ⟨i,s1,hw,rfl,ZM⟩⟩
       ·obtain ⟨b5,ZN⟩:=hr.o.1.broke t5;obtain ⟨x0,x1,x2,x3,xf,xl⟩:=pq ZN;have HG:Hid (Px.good c=none/\Below w1.heap.size w1 w5):=by
         refine ⟨yau HS.o HH.o (by rw[HR.o];exact TW.o) ZL.o ?_,b5⟩
         rw[hr.o.2.1,yb4 hs0 hw];rfl
        obtain ⟨la,ln,lc,rfl⟩:=jm hr.o.1.l;clear HI hw t5 b5 ZN;go_wp2_with fail;go_region
        all_goals go_wp2_with fail
        all_goals
         go_ret2;exact ⟨((HG.o.2.alloc HG.o.2.size _).alloc (by have:=HG.o.2.size;simp;omega) _).drew,ah ⟨HG.o.1,_,rfl⟩⟩
       ·have S5:Hid (_):=hr.o.1.read t5 ZM;obtain ⟨hs1,hoi⟩:=TP hw;have HQ:Hid (jH r3.length r3=(jH s1.length s1).map ((L++[i])++·)/\∀ j∈L++[i],ni j):=by
         refine ⟨?_,fun j hj=>(bR.1 hj).elim (hr.o.2.2 j) (fun h=>by rw[bq.1 h];exact hoi)⟩
         rw[hr.o.2.1,yb3 hw];cases jH s1.length s1 with
         | none=>rfl
         | some q=>simp
        obtain ⟨x0,x1,x2,x3,xf,xl⟩:=pq S5.o.pg;obtain ⟨la,ln,lc,rfl⟩:=jm hr.o.1.l;clear HI t5 ZM hw hoi hr hc1;generalize hA:(Obj.cells #[.int .i64 (i.k:Int),.int .i64 (i.a:Int),.int .i64 (i.b:Int)] 90)=A;have hW:fO (fun _=>False) w5 (((w5.alloc A).alloc A).drew):=(((fO.refl _ _).alloc _).alloc _).drew
        have O1:Hid ((((w5.alloc A).alloc A).drew).ownsRow w1.heap.size 90 3 (.slice la ln lc) L.length (qO L)):=gZ S5.o.l hW (fun _ _ h=>h)
        have O2:Hid (∀ j u,[.int .i64 (i.k:Int),.int .i64 (i.a:Int),.int .i64 (i.b:Int)][j]?=some u->(((w5.alloc A).alloc A).drew).cell? ((⟨w5.heap.size+1,0,none⟩:Addr).add j)=some u):=Sg (t:=90) (by
         show ((w5.heap.push A).push A)[w5.heap.size+1]?=_
         rw[wV,<- hA])
        have O3:Hid (∀ u∈[Value.int .i64 (i.k:Int),.int .i64 (i.a:Int),.int .i64 (i.b:Int)],u.oneCell'=true):=by intro u hu;simp at hu;rcases hu with rfl | rfl | rfl<;>rfl
        have O4:Hid (L.length+1<=maxLen):=by unfold Hid maxLen;omega
        have O5:Hid ((L.length+1) * 24<=140737488355328):=by unfold Hid;omega
        have O6:Hid (w1.heap.size<=(((w5.alloc A).alloc A).drew).heap.size):=aP S5.o.b.size hW.size;have AQ:Hid (_):=S5.o.put i hW;subst hA;clear hW;go_wp2_with fail;go_region_law (refine wR rfl _ _ 78 rfl w1.heap.size 90 i0 (.agg #[.int .i64 0,.int .i64 0,.int .i64 0]) 3 24 underlying78 hi0 hz0 hz1 hz2 rfl (bZ 2) _ _ _ rfl O1.o _ 1 1 _ rfl rfl O2.o O3.o O4.o O5.o O6.o ?_;intro v' w6 hown' hgrow hloc;obtain ⟨a1,n1,k1,rfl,ZO,HN⟩:=AQ.o v' w6 hown' hgrow;obtain ⟨e0,e1,e2,e3,ef,el⟩:=pq ZO;clear hown' hgrow hloc ZO)
        all_goals go_wp2_with fail
        all_goals
         refine ⟨⟨L++[i],s1,_,?_,HN.o,HQ.o⟩,?_⟩
         ·rw[ay];simp only[aC,aL];omega
         ·rw[ZI HN.o.rr];omega
  ·have hc:cutV c lN=.tuple #[.string ⟨c.toArray⟩,.bool false]:=if_neg hh;have hg:=yav hlong hh;rw[hc] at HC;generalize (⟨c.toArray⟩:fq)=S at *;clear hh hc hlong;go_enter func17,ntmps17
   go_wp2_with fail;refine aA HC.o ?_;rintro e w1 ⟨rfl,rfl⟩;clear HC;go_wp2_with fail;go_ret2;exact ⟨(aH _ _).alloc (aj _) _,ah ⟨hg,_,rfl⟩⟩
def iO:Option Nat->Int
 | none=>-1
 | some q=>(q:Int)
def lH:Option iB->List fC
 | none=>[.bool false,.int .i64 0,.int .i64 0]
 | some s=>[.bool true,.int .i64 (s.1:Int),.int .i64 (iO s.2)]
def NY (s:iB):fC:=.agg #[.bool true,.int .i64 (s.1:Int),.int .i64 (iO s.2)]
theorem Er (x:Option iB):(lH x).length=3:=by cases x<;>rfl
variable {S:List (Option iB)}
theorem ZP:∀ {p:Nat} (_:p < S.length) (o:Nat),o < 3->(S.flatMap lH)[p * 3+o]?=(lH (gW S p))[o]?:=by
 induction S with
 | nil=>intro p hp;cases hp
 | cons x S ih =>
  intro p hp o ho;have e1:(x::S).flatMap lH=lH x++S.flatMap lH:=rfl;cases p with
  | zero =>
   rw[e1,Nat.zero_mul,bX,aQ (by rw[Er];exact ho)]
   rfl
  | succ p =>
   rw[e1,aJ (by rw[Er];omega),Er]
   have:=ih (p:=p) (by simpa using hp) o ho
   rw[show (p+1) * 3+o - 3=p * 3+o by omega,this]
   rfl
theorem ybl (x:Option iB):∀ {p:Nat} (_:p < S.length),(S.set p x).flatMap lH=(((S.flatMap lH).set (p * 3) ((lH x)[0]'(by rw[Er];decide))).set (p * 3+1) ((lH x)[1]'(by rw[Er];decide))).set (p * 3+2) ((lH x)[2]'(by rw[Er];decide)):=by
 induction S with
 | nil=>intro p hp;cases hp
 | cons y S ih =>
  intro p hp;cases p with
  | zero =>
   have e1:(y::S).flatMap lH=lH y++S.flatMap lH:=rfl;have e2:((y::S).set 0 x).flatMap lH=lH x++S.flatMap lH:=rfl;rw[e1,e2];cases x<;>cases y<;>rfl
  | succ p =>
   have e1:(y::S).flatMap lH=lH y++S.flatMap lH:=rfl;have e2:((y::S).set (p+1) x).flatMap lH=lH y++(S.set p x).flatMap lH:=rfl;rw[e1,e2,ih (p:=p) (by simpa using hp)]
   have hl:(lH y).length=3:=Er y;rw[eZ _ _ (by rw[hl];omega),eZ _ _ (by rw[hl];omega),eZ _ _ (by rw[hl];omega),hl]
   rw[show (p+1) * 3 - 3=p * 3 by omega,show (p+1) * 3+1 - 3=p * 3+1 by omega,show (p+1) * 3+2 - 3=p * 3+2 by omega]
structure iE (w:fu)(bv gs nt pp:Nat)(S:List (Option iB)):Prop where
 v:w.heap[bv]?=some (.cells (Value.pointer (some ⟨pp,0,none⟩)::(iQ nt++[.slice (some ⟨gs,0,none⟩) S.length S.length])).toArray 196)
 s:w.heap[gs]?=some (.cells (S.flatMap lH).toArray 198)
 ne:bv≠gs
 l:S.length<=1000000
theorem iE.slice {w:fu}{bv gs nt pp:Nat}{S:List (Option iB)}(h:iE w bv gs nt pp S):w.cell? ⟨bv,81,none⟩=some (.slice (some ⟨gs,0,none⟩) S.length S.length):=by
 simp only[World.cell?,h.v];show (List.toArray _)[81]?=_
 rw[dO,aM,aJ (by show 80<=80;decide)]
 rfl
variable {W w w':fu}
theorem iE.state (h:iE w bv gs nt pp S)(hp:p < S.length)(o:Nat)(ho:o < 3):w.cell? ⟨gs,p * 3+o,none⟩=(lH (gW S p))[o]?:=by
 rw[<- ZP hp o ho];simp[World.cell?,h.s]
theorem iE.free (h:iE w bv gs nt pp S):∀ o,w.frozen? ⟨gs,o,none⟩=false:=by
 intro o;simp[World.frozen?,h.s]
theorem iE.keep (h:iE w bv gs nt pp S)(h1:w'.heap[bv]?=w.heap[bv]?)(h2:w'.heap[gs]?=w.heap[gs]?):iE w' bv gs nt pp S:=⟨h1.trans h.v,h2.trans h.s,h.ne,h.l⟩
theorem iE.set {w:fu}{bv gs nt pp:Nat}{S:List (Option iB)}(h:iE w bv gs nt pp S){p:Nat}(hp:p < S.length)(x:iB) :
  iE (((w.setCell ⟨gs,p * 3,none⟩ (.bool true)).setCell ⟨gs,p * 3+1,none⟩ (.int .i64 (x.1:Int))).setCell ⟨gs,p * 3+2,none⟩ (.int .i64 (iO x.2))) bv gs nt pp (S.set p (some x)):=by
 refine ⟨?_,?_,h.ne,by rw[dM];exact h.l⟩
 ·rw[jr _ h.ne,jr _ h.ne,jr _ h.ne,dM];exact h.v
 ·rw[Ref.heap_set _ (Ref.heap_set _ (Ref.heap_set _ h.s)),ybl (some x) hp];simp only[dR];rfl
theorem T9 {a b:Option Nat}(h:iO a=iO b):a=b:=by
 cases a<;>cases b
 ·rfl
 ·simp only[iO] at h;omega
 ·simp only[iO] at h;omega
 ·simp only[iO] at h;congr 1;omega
def Reached (w:fu)(bv gs nt pp:Nat)(S:List (Option iB))(R:Option (List (Option iB)))(e:Ending)(w':fu):Prop :=
 e=.returned (.bool R.isSome)/\iE w' bv gs nt pp (R.getD S)/\fO (·=gs) w w'
theorem yaf (bv gs nt pp p:Nat)(S:List (Option iB))(s:iB)(w:fu)(h:iE w bv gs nt pp S)(hp:p < S.length) :
  Calls prog 165 #[.pointer (some ⟨bv,0,none⟩),.int .i64 (p:Int),NY s] w (Reached w bv gs nt pp S (iN S p s)):=by
 have c0:=h.slice;have hbv:bv < w.heap.size:=lt_of_block h.v;have hgs:gs < w.heap.size:=lt_of_block h.s;have ff:=h.free;have hne:=h.ne;have hne2:=h.ne.symm;have H:Hid (_):=h;have hp1:(p:Int) < (S.length:Int):=by omega
 have s0:=h.state hp 0 (by decide)
 have s1:=h.state hp 1 (by decide)
 have s2:=h.state hp 2 (by decide)
 rw[dU] at s0;unfold NY;obtain ⟨sh,st⟩:=s;cases hv:gW S p with
 | none =>
  rw[hv] at s0 s1 s2;simp only[lH,dI,aM] at s0 s1 s2;have HS:Hid (iN S p (sh,st)=some (S.set p (some (sh,st)))):=by unfold Hid iN;rw[hv]
  clear h;generalize ZQ:iO st=ti at *;go_enter func165,ntmps165
  go_wp2_with fail;go_region
  go_wp2_with fail;go_region
  go_wp2_with fail;go_ret;subst ZQ;refine ⟨by rw[HS.o];rfl,?_,?_⟩
  ·rw[HS.o];exact (H.o.set hp (sh,st)).keep (aD _ _ _ (by simpa using hbv)) (aD _ _ _ (by simpa using hgs))
  ·exact (((((fO.refl (·=gs) w).setCell (p:=⟨gs,p * 3,none⟩) (ak rfl) _).setCell (p:=⟨gs,p * 3+1,none⟩) (ak rfl) _).setCell (p:=⟨gs,p * 3+2,none⟩) (ak rfl) _).alloc _).drew.drew
 | some t =>
  obtain ⟨th,tt⟩:=t;rw[hv] at s0 s1 s2;simp only[lH,dI,aM] at s0 s1 s2;have HS:Hid (iN S p (sh,st)=if (th,tt)=(sh,st) then some S else none):=by unfold Hid iN;rw[hv]
  have HI:Hid (∀ {a b:Option Nat},iO a=iO b->a=b):=T9;clear h;by_cases e1:th=sh
  ·subst e1;by_cases e2:tt=st
   ·subst e2;rw[if_pos rfl] at HS;generalize ZQ:iO tt=ti at *;go_enter func165,ntmps165
    go_wp2_with fail;go_region
    go_wp2_with fail;go_ret;refine ⟨by rw[HS.o];rfl,?_,((fO.refl _ _).alloc _).drew⟩
    rw[HS.o];exact H.o.keep (aD _ _ _ hbv) (aD _ _ _ hgs)
   ·rw[if_neg (by intro e;exact e2 (congrArg Prod.snd e))] at HS
    have hti:iO tt≠iO st:=fun e=>e2 (T9 e)
    have Es:(iO tt == iO st)=false:=by rw[beq_eq_false_iff_ne];exact hti
    generalize iO tt=ti at *;generalize iO st=tj at *;go_enter func165,ntmps165
    go_wp2_with fail;go_region
    go_wp2_with fail;go_ret;refine ⟨by rw[HS.o];rfl,?_,((fO.refl _ _).alloc _).drew⟩
    rw[HS.o];exact H.o.keep (aD _ _ _ hbv) (aD _ _ _ hgs)
  ·rw[if_neg (by intro e;exact e1 (congrArg Prod.fst e))] at HS
   have Es:((th:Int) == (sh:Int))=false:=by rw[beq_eq_false_iff_ne];omega
   generalize iO tt=ti at *;generalize iO st=tj at *;go_enter func165,ntmps165
   go_wp2_with fail;go_region
   go_wp2_with fail;go_ret;refine ⟨by rw[HS.o];rfl,?_,((fO.refl _ _).alloc _).drew⟩
   rw[HS.o];exact H.o.keep (aD _ _ _ hbv) (aD _ _ _ hgs)
theorem yay (b:Bool)(bv gs nt pp:Nat)(S:List (Option iB))(s:iB)(w:fu)(h:iE w bv gs nt pp S)(hq:∀ q,s.2=some q->q < S.length) :
  Calls prog 133 #[.pointer (some ⟨bv,0,none⟩),.agg #[.bool b,.int .i64 (s.1:Int),.int .i64 (iO s.2)]] w fun e w'=>e=.returned (.int .i64 (lV S s.2:Int))/\fO (fun _=>False) w w':=by
 have c0:=h.slice;have hbv:bv < w.heap.size:=lt_of_block h.v;have hgs:gs < w.heap.size:=lt_of_block h.s;have H:Hid (_):=h;obtain ⟨sh,st⟩:=s;dsimp only at hq |-;cases st with
 | none =>
  clear h;go_enter func133,ntmps133
  unfold iO;go_wp2_with fail;go_ret;exact ⟨rfl,(fO.refl _ _).alloc _⟩
 | some q =>
  have qM:=hq q rfl;have hq1:(q:Int) < (S.length:Int):=by omega
  have vI:((q:Int) == -1)=false:=by rw[beq_eq_false_iff_ne];omega
  have s1:=h.state qM 1 (by decide)
  obtain ⟨x,hx,hs1⟩:∃ x:Nat,lV S (some q)=x/\w.cell? ⟨gs,q * 3+1,none⟩=some (.int .i64 (x:Int)):=by
   unfold lV;cases hv:gW S q with
   | none=>exact ⟨0,by simp only[hv],by rw[s1,hv];rfl⟩
   | some t=>exact ⟨t.1,by simp only[hv],by rw[s1,hv];rfl⟩
  rw[hx];clear h s1;go_enter func133,ntmps133
  unfold iO;go_wp2_with fail;go_region
  go_wp2_with fail;go_ret;exact ⟨rfl,((fO.refl _ _).alloc _).drew⟩
theorem iE.jG (h:iE w bv gs nt pp S)(t:fO (fun _=>False) w w'):iE w' bv gs nt pp S :=
 h.keep (t.block _ (lt_of_block h.v) fun h=>h) (t.block _ (lt_of_block h.s) fun h=>h)
theorem Nh (k:Nat):kX k<=1:=by
 unfold kX;split
 ·omega
 ·split
  ·omega
  ·split
   ·omega
   ·split<;>omega
theorem Ua (w:fu)(a b c d:Obj):fO (fun _=>False) w ((((w.alloc a).alloc b).alloc c).alloc d).drew:=(((((fO.refl _ w).alloc a).alloc b).alloc c).alloc d).drew
def ZR (w:fu)(bv gs nt pp:Nat)(R:Option (List (Option iB)))(e:Ending)(w':fu):Prop :=
 e=.returned (.bool R.isSome)/\(∀ T,R=some T->iE w' bv gs nt pp T)/\fO (·=gs) w w'
theorem Gh {α:Type}{R:Option α}{S T:α}{P:α->Prop}(h:P (R.getD S))(e:R=some T):P T:=by subst e;exact h
theorem NZ {S':List (Option iB)}{s:iB}(h:iN S p s=some S'):S'.length=S.length:=by
 unfold iN at h;split at h
 ·cases h;simp
 ·split at h
  ·cases h;rfl
  ·cases h
theorem ybf (bv gs nt pp p:Nat)(S:List (Option iB))(k a c:Nat)(now:iB)(vn vd:fC)(w:fu)(h:iE w bv gs nt pp S)(hp:p+1 < S.length)(hk:k < 20)(ha:12<=k->k<=16->a < S.length)(ht:iX k<=now.1)(hb:now.1<=1000000)(hq:k=16->∃ q t,now.2=some q/\q < S.length/\gW S q=some t)(_ha16:a < 65536)(_hc16:c < 65536)(_hn1:vn.oneCell'=true)(_hd1:vd.oneCell'=true) :
  Calls prog 135 #[.pointer (some ⟨bv,0,none⟩),.int .i64 (p:Int),.agg #[.int .i64 (k:Int),.int .i64 (a:Int),.int .i64 (c:Int)],.agg #[vn,.int .i64 (iX k:Int),.int .i64 (kX k:Int),vd],NY now] w
   (ZR w bv gs nt pp (oK S p ⟨k,a,c⟩ now)):=by
 obtain ⟨nh,nt'⟩:=now;dsimp only at ht hb hq;unfold NY;dsimp only;have H:Hid (_):=h;have hbv:bv < w.heap.size:=lt_of_block h.v;have hgs:gs < w.heap.size:=lt_of_block h.s;have hl:=h.l;have hg:kX k<=1:=Nh k;have hnx:(nh:Int)+((kX k:Int) - (iX k:Int))=((nh+kX k - iX k:Nat):Int):=by omega
 have REACH:Hid (∀ (S:List (Option iB)) (q:Nat) (s:iB) (W:fu),iE W bv gs nt pp S->q < S.length->Calls prog 165 #[.pointer (some ⟨bv,0,none⟩),.int .i64 (q:Int),.agg #[.bool true,.int .i64 (s.1:Int),.int .i64 (iO s.2)]] W (Reached W bv gs nt pp S (iN S q s))):=fun S q s W h1 h2=>yaf bv gs nt pp q S s W h1 h2
 clear h;go_enter func135,ntmps135
 obtain ⟨NX,Cm⟩:∃ NX,nh+kX k - iX k=NX:=⟨_,rfl⟩;rw[Cm] at hnx;have Ub:k=14->1<=NX:=by intro e;subst e;rw[<- Cm];have:kX 14=1:=rfl;have:iX 14=1:=rfl;omega
 generalize Gi:iX k=tk at *;generalize Gj:kX k=gk at *;by_cases h12:k=12
 ·have t12:((k:Int) == 12)=true:=by rw[h12];rfl
  go_wp2_with fail;refine aA (REACH.o S a (NX,nt') _ ?v (ha (by omega) (by omega))) ?_
  case v=>exact H.o.jG (((((fO.refl (fun _=>False) w).alloc _).alloc _).alloc _).alloc _)
  rintro e w1 ⟨rfl,hv1,ht1⟩;have HV:Hid (iE w1 bv gs nt pp ((iN S a (NX,nt')).getD S)/\fO (·=gs) w w1):=⟨hv1,(((((fO.refl (·=gs) w).alloc _).alloc _).alloc _).alloc _).trans ht1⟩
  have HE:Hid (oK S p ⟨k,a,c⟩ (nh,nt')=iN S a (NX,nt')):=by unfold Hid oK;simp only[Gj,Gi,Cm];rw[if_pos h12]
  clear hv1 ht1;generalize iN S a (NX,nt')=R at *;go_wp2_with fail;go_ret;exact ⟨by rw[HE.o];rfl,fun T hT=>Gh (P:=fun T=>iE w1 bv gs nt pp T) HV.o.1 (HE.o.symm.trans hT),HV.o.2⟩
 ·have t12:((k:Int) == 12)=false:=by rw[beq_eq_false_iff_ne];omega
  by_cases zU:k=13
  ·have t13:((k:Int) == 13)=true:=by rw[zU];rfl
   go_wp2_with fail;refine aA (REACH.o S a (NX,nt') _ ?v (ha (by omega) (by omega))) ?_
   case v=>exact H.o.jG (((((fO.refl (fun _=>False) w).alloc _).alloc _).alloc _).alloc _)
   rintro e w1 ⟨rfl,hv1,ht1⟩;have HE:Hid (oK S p ⟨k,a,c⟩ (nh,nt')=(iN S a (NX,nt')).bind fun S=>iN S (p+1) (NX,nt')):=by unfold Hid oK;simp only[Gj,Gi,Cm];rw[if_neg h12,if_pos zU]
   have HT1:Hid (fO (·=gs) w w1):=(((((fO.refl (·=gs) w).alloc _).alloc _).alloc _).alloc _).trans ht1
   have hz1:w.heap.size+4<=w1.heap.size:=by have:=ht1.size;simp at this;omega
   obtain ⟨m0,m1,m2,mf⟩:=Mk.cells3 (w:=w1) (k:=w.heap.size+3) (a:=.bool true) (b:=.int .i64 ((NX,nt').1:Int)) (c:=.int .i64 (iO (NX,nt').2)) (t:=198) (by
    rw[ht1.block (w.heap.size+3) (by simp) (by omega)]
    exact IJ (by simp))
   have hwb:w.heap.size+3 < w1.heap.size:=by omega
   cases hR:iN S a (NX,nt') with
   | none =>
    rw[hR] at HE;clear hv1 ht1;go_wp2_with fail;go_ret;exact ⟨by rw[HE.o];rfl,fun T hT=>absurd (HE.o.symm.trans hT) (by simp),HT1.o⟩
   | some S1 =>
    rw[hR] at hv1 HE;have HV:Hid (iE w1 bv gs nt pp S1):=hv1;have hl1:S1.length=S.length:=NZ hR;clear hv1 ht1;go_wp2_with fail;refine aA (REACH.o S1 (p+1) (NX,nt') _ ?v (by omega)) ?_
    case v=>exact HV.o
    rintro e w2 ⟨rfl,hv2,ht2⟩;have yS:Hid (iE w2 bv gs nt pp ((iN S1 (p+1) (NX,nt')).getD S1)/\fO (·=gs) w w2):=⟨hv2,HT1.o.trans ht2⟩
    have HE2:Hid (oK S p ⟨k,a,c⟩ (nh,nt')=iN S1 (p+1) (NX,nt')):=HE.o;clear hv2 ht2;generalize iN S1 (p+1) (NX,nt')=R at *;cases R with
    | none =>
     go_wp2_with fail;go_ret;exact ⟨by rw[HE2.o];rfl,fun T hT=>absurd (HE2.o.symm.trans hT) (by simp),yS.o.2⟩
    | some S2 =>
     go_wp2_with fail;go_ret;exact ⟨by rw[HE2.o];rfl,fun T hT=>Gh (P:=fun T=>iE w2 bv gs nt pp T) yS.o.1 (HE2.o.symm.trans hT),yS.o.2⟩
  ·have t13:((k:Int) == 13)=false:=by rw[beq_eq_false_iff_ne];omega
   by_cases Cn:k=14
   ·have t14:((k:Int) == 14)=true:=by rw[Cn];rfl
    have h1:=Ub Cn;have hm1:(NX:Int) - 1=((NX - 1:Nat):Int):=by omega
    go_wp2_with fail;refine aA (REACH.o S a (NX - 1,nt') _ ?v (ha (by omega) (by omega))) ?_
    case v=>exact H.o.jG ((((((fO.refl (fun _=>False) w).alloc _).alloc _).alloc _).alloc _).alloc _)
    rintro e w1 ⟨rfl,hv1,ht1⟩;have HE:Hid (oK S p ⟨k,a,c⟩ (nh,nt')=(iN S a (NX - 1,nt')).bind fun S=>iN S (p+1) (NX,nt')):=by unfold Hid oK;simp only[Gj,Gi,Cm];rw[if_neg h12,if_neg zU,if_pos Cn]
    have HT1:Hid (fO (·=gs) w w1):=((((((fO.refl (·=gs) w).alloc _).alloc _).alloc _).alloc _).alloc _).trans ht1
    have hz1:w.heap.size+5<=w1.heap.size:=by have:=ht1.size;simp at this;omega
    obtain ⟨m0,m1,m2,mf⟩:=Mk.cells3 (w:=w1) (k:=w.heap.size+3) (a:=.bool true) (b:=.int .i64 ((NX,nt').1:Int)) (c:=.int .i64 (iO (NX,nt').2)) (t:=198) (by
     rw[ht1.block (w.heap.size+3) (by simp) (by omega)]
     exact (aD _ _ _ (by simp)).trans (IJ (by simp)))
    have hwb:w.heap.size+3 < w1.heap.size:=by omega
    cases hR:iN S a (NX - 1,nt') with
    | none =>
     rw[hR] at HE;clear hv1 ht1;go_wp2_with fail;go_ret;exact ⟨by rw[HE.o];rfl,fun T hT=>absurd (HE.o.symm.trans hT) (by simp),HT1.o⟩
    | some S1 =>
     rw[hR] at hv1 HE;have HV:Hid (iE w1 bv gs nt pp S1):=hv1;have hl1:S1.length=S.length:=NZ hR;clear hv1 ht1;go_wp2_with fail;refine aA (REACH.o S1 (p+1) (NX,nt') _ ?v (by omega)) ?_
     case v=>exact HV.o
     rintro e w2 ⟨rfl,hv2,ht2⟩;have yS:Hid (iE w2 bv gs nt pp ((iN S1 (p+1) (NX,nt')).getD S1)/\fO (·=gs) w w2):=⟨hv2,HT1.o.trans ht2⟩
     have HE2:Hid (oK S p ⟨k,a,c⟩ (nh,nt')=iN S1 (p+1) (NX,nt')):=HE.o;clear hv2 ht2;generalize iN S1 (p+1) (NX,nt')=R at *;cases R with
     | none =>
      go_wp2_with fail;go_ret;exact ⟨by rw[HE2.o];rfl,fun T hT=>absurd (HE2.o.symm.trans hT) (by simp),yS.o.2⟩
     | some S2 =>
      go_wp2_with fail;go_ret;exact ⟨by rw[HE2.o];rfl,fun T hT=>Gh (P:=fun T=>iE w2 bv gs nt pp T) yS.o.1 (HE2.o.symm.trans hT),yS.o.2⟩
   ·have t14:((k:Int) == 14)=false:=by rw[beq_eq_false_iff_ne];omega
    by_cases Gn:k=15
    ·have t15:((k:Int) == 15)=true:=by rw[Gn];rfl
     go_wp2_with fail;refine aA (REACH.o S a (nh,nt') _ ?v (ha (by omega) (by omega))) ?_
     case v=>exact H.o.jG (((((fO.refl (fun _=>False) w).alloc _).alloc _).alloc _).alloc _)
     rintro e w1 ⟨rfl,hv1,ht1⟩;have HE:Hid (oK S p ⟨k,a,c⟩ (nh,nt')=(iN S a (nh,nt')).bind fun S=>iN S (p+1) (NX,some p)):=by unfold Hid oK;simp only[Gj,Gi,Cm];rw[if_neg h12,if_neg zU,if_neg Cn,if_pos Gn]
     have HT1:Hid (fO (·=gs) w w1):=(((((fO.refl (·=gs) w).alloc _).alloc _).alloc _).alloc _).trans ht1
     have hz1:w.heap.size+4<=w1.heap.size:=by have:=ht1.size;simp at this;omega
     obtain ⟨m0,m1,m2,mf⟩:=Mk.cells3 (w:=w1) (k:=w.heap.size+3) (a:=.bool true) (b:=.int .i64 ((NX,some p).1:Int)) (c:=.int .i64 (iO (NX,some p).2)) (t:=198) (by
      rw[ht1.block (w.heap.size+3) (by simp) (by omega)]
      exact IJ (by simp))
     have hwb:w.heap.size+3 < w1.heap.size:=by omega
     cases hR:iN S a (nh,nt') with
     | none =>
      rw[hR] at HE;clear hv1 ht1;go_wp2_with fail;go_ret;exact ⟨by rw[HE.o];rfl,fun T hT=>absurd (HE.o.symm.trans hT) (by simp),HT1.o⟩
     | some S1 =>
      rw[hR] at hv1 HE;have HV:Hid (iE w1 bv gs nt pp S1):=hv1;have hl1:S1.length=S.length:=NZ hR;clear hv1 ht1;go_wp2_with fail;refine aA (REACH.o S1 (p+1) (NX,some p) _ ?v (by omega)) ?_
      case v=>exact HV.o
      rintro e w2 ⟨rfl,hv2,ht2⟩;have yS:Hid (iE w2 bv gs nt pp ((iN S1 (p+1) (NX,some p)).getD S1)/\fO (·=gs) w w2):=⟨hv2,HT1.o.trans ht2⟩
      have HE2:Hid (oK S p ⟨k,a,c⟩ (nh,nt')=iN S1 (p+1) (NX,some p)):=HE.o;clear hv2 ht2;generalize iN S1 (p+1) (NX,some p)=R at *;cases R with
      | none =>
       go_wp2_with fail;go_ret;exact ⟨by rw[HE2.o];rfl,fun T hT=>absurd (HE2.o.symm.trans hT) (by simp),yS.o.2⟩
      | some S2 =>
       go_wp2_with fail;go_ret;exact ⟨by rw[HE2.o];rfl,fun T hT=>Gh (P:=fun T=>iE w2 bv gs nt pp T) yS.o.1 (HE2.o.symm.trans hT),yS.o.2⟩
    ·have t15:((k:Int) == 15)=false:=by rw[beq_eq_false_iff_ne];omega
     by_cases h16:k=16
     ·have t16:((k:Int) == 16)=true:=by rw[h16];rfl
      obtain ⟨q,⟨th,tt⟩,rfl,qM,NC⟩:=hq h16;have hq1:(q:Int) < (S.length:Int):=by omega
      have hI:iO (some q)=(q:Int):=rfl;rw[hI];have c0:=H.o.slice;have s0:=H.o.state qM 0 (by decide)
      have s1:=H.o.state qM 1 (by decide)
      have s2:=H.o.state qM 2 (by decide)
      rw[NC] at s0 s1 s2;rw[dU] at s0;simp only[lH,dI,aM] at s0 s1 s2;have HE:Hid (oK S p ⟨k,a,c⟩ (nh,some q)=iN S a (th,tt)):=by
       unfold Hid oK;simp only[Gj,Gi,Cm];rw[if_neg h12,if_neg zU,if_neg Cn,if_neg Gn,if_pos h16];simp only[Option.getD_some,NC]
      have hne:=H.o.ne;have b1:bv < w.heap.size+1:=by omega
      have b2:bv < w.heap.size+1+1:=by omega
      have b3:bv < w.heap.size+1+1+1:=by omega
      have d1:gs < w.heap.size+1:=by omega
      have d2:gs < w.heap.size+1+1:=by omega
      have d3:gs < w.heap.size+1+1+1:=by omega
      have e1:bv < w.heap.size+2:=by omega
      have e2:bv < w.heap.size+3:=by omega
      have e3:gs < w.heap.size+2:=by omega
      have e4:gs < w.heap.size+3:=by omega
      have Uc:a < S.length:=ha (by omega) (by omega)
      have RW:Hid (∀ W,fO (fun _=>False) w W->Calls prog 165 #[.pointer (some ⟨bv,0,none⟩),.int .i64 (a:Int),.agg #[.bool true,.int .i64 (th:Int),.int .i64 (iO tt)]] W (Reached W bv gs nt pp S (iN S a (th,tt)))):=fun W hW=>REACH.o S a (th,tt) W (H.o.jG hW) Uc
      go_wp2_with fail;go_region_with (go_at_call 165;refine aA (RW.o _ (Ua w _ _ _ _)) ?_;rintro e w1 ⟨rfl,hv1,ht1⟩)
      all_goals
       have HV:Hid (iE w1 bv gs nt pp ((iN S a (th,tt)).getD S)/\fO (·=gs) w w1):=⟨hv1,(((((fO.refl (·=gs) w).alloc _).alloc _).alloc _).alloc _).drew.trans ht1⟩
       clear hv1 ht1;generalize iN S a (th,tt)=R at *;go_wp2_with fail;go_ret;exact ⟨by rw[HE.o];rfl,fun T hT=>Gh (P:=fun T=>iE w1 bv gs nt pp T) HV.o.1 (HE.o.symm.trans hT),HV.o.2⟩
     ·have t16:((k:Int) == 16)=false:=by rw[beq_eq_false_iff_ne];omega
      go_wp2_with fail;refine aA (REACH.o S (p+1) (NX,nt') _ ?v hp) ?_
      case v=>exact H.o.jG (((((fO.refl (fun _=>False) w).alloc _).alloc _).alloc _).alloc _)
      rintro e w1 ⟨rfl,hv1,ht1⟩;have HV:Hid (iE w1 bv gs nt pp ((iN S (p+1) (NX,nt')).getD S)/\fO (·=gs) w w1):=⟨hv1,(((((fO.refl (·=gs) w).alloc _).alloc _).alloc _).alloc _).trans ht1⟩
      have HE:Hid (oK S p ⟨k,a,c⟩ (nh,nt')=iN S (p+1) (NX,nt')):=by unfold Hid oK;simp only[Gj,Gi,Cm];rw[if_neg h12,if_neg zU,if_neg Cn,if_neg Gn,if_neg h16]
      clear hv1 ht1;generalize iN S (p+1) (NX,nt')=R at *;go_wp2_with fail;go_ret;exact ⟨by rw[HE.o];rfl,fun T hT=>Gh (P:=fun T=>iE w1 bv gs nt pp T) HV.o.1 (HE.o.symm.trans hT),HV.o.2⟩
def wO (k m:Nat):Nat:=if k=18 then (if m=0 then 2 else 0) else if k=19 then 2 else if k=1\/k=2 then 1 else if 12<=k/\k<=16 then 3 else 0
theorem yb0 (k m:Nat):wO k m<=3:=by
 unfold wO;split
 ·split<;>omega
 ·split
  ·omega
  ·split
   ·omega
   ·split<;>omega
def zyy (P:Pg)(s x:Nat):Bool:=if s=1 then decide (x < P.nv) else if s=2 then decide (x < P.fT.length) else if s=3 then decide (x < P.ins.length+1) else true
theorem yb7 (P:Pg)(k a c:Nat):jW P ⟨k,a,c⟩=((iD k == 0 || zyy P (wO k 0) a) && (iD k != 2 || zyy P (wO k 1) c)):=by
 unfold jW zyy wO iD;dsimp only;by_cases h18:k=18
 ·subst h18;simp
 ·by_cases h19:k=19
  ·subst h19;simp
  ·by_cases h12:k=1\/k=2
   ·have h3:k<=2\/(12<=k/\k<=16)\/k=19:=by omega
    have h4:k<=2\/(12<=k/\k<=16):=by omega
    simp[h18,h19,h12,h4]
   ·by_cases h16:12<=k/\k<=16
    ·have h3:k<=2\/(12<=k/\k<=16)\/k=19:=by omega
     simp[h18,h19,h12,h16]
    ·simp[h18,h19,h12,h16]
def nU (w:fu)(ta:Option Addr)(k:Nat):Prop:=∀ m,m < iD k->∃ g,ta=some ⟨g,0,none⟩/\g < w.heap.size/\w.cell? ⟨g,m,none⟩=some (.int .i64 (wO k m:Int))
theorem yb8 (bv gs nt pp:Nat)(P:Pg)(S:List (Option iB))(k a c:Nat)(ta:Option Addr)(wa:Option Addr)(wc:Nat)(w:fu)(h:iE w bv gs nt pp S)(hS:S.length=P.ins.length+1)(p0:w.cell? ⟨pp,0,none⟩=some (.slice wa P.fT.length wc))(p1:w.cell? ⟨pp,1,none⟩=some (.int .i64 (P.nv:Int)))(hn:nU w ta k)(ha:a < 65536)(hc:c < 65536) :
  Calls prog 134 #[.pointer (some ⟨bv,0,none⟩),.agg #[.int .i64 (k:Int),.int .i64 (a:Int),.int .i64 (c:Int)],.slice ta (iD k) (iD k)] w fun e w'=>e=.returned (.bool (jW P ⟨k,a,c⟩))/\fO (fun _=>False) w w':=by
 have Et:=h.slice;have c0:w.cell? ⟨bv,0,none⟩=some (.pointer (some ⟨pp,0,none⟩)):=by simp[World.cell?,h.v]
 have hbv:bv < w.heap.size:=lt_of_block h.v;have hpp:pp < w.heap.size:=lt_of_cell p0;have hnd:=Kw k;have HN:Hid (nU w ta k):=hn;have HF:Hid (_):=yb7 P k a c;clear h hn;go_enter func134,ntmps134
 go_wp2;go_loop [12] (fun i=>∃ m:Nat,m<=iD k/\i=.int .i64 m/\Hid ((0 < m->zyy P (wO k 0) a=true)/\(1 < m->zyy P (wO k 1) c=true))) (fun i=>iD k - (intOf i).toNat)
 case atStart=>exact ⟨0,aK _,rfl,fun h=>by omega,fun h=>by omega⟩
 case round =>
  obtain ⟨m,hm,rfl,hr⟩:=hrel;by_cases hlt:m < iD k
  ·obtain ⟨g,rfl,hg,sg⟩:=HN.o m hlt;have hlt':(m:Int) < (iD k:Int):=by omega
   have hs3:=yb0 k m;obtain ⟨x,hx,hx16⟩:∃ x,(if m=0 then a else c)=x/\x < 65536:=⟨_,rfl,by split<;>assumption⟩
   obtain ⟨s,hs⟩:∃ s,wO k m=s:=⟨_,rfl⟩;rw[hs] at sg hs3;have key:zyy P s x=true->(0 < m+1->zyy P (wO k 0) a=true)/\(1 < m+1->zyy P (wO k 1) c=true):=by
    have hm2:m=0\/m=1:=by omega
    rcases hm2 with rfl | rfl
    ·obtain rfl:a=x:=by simpa using hx
     subst hs;exact fun h=>⟨fun _=>h,fun h=>by omega⟩
    ·obtain rfl:c=x:=by simpa using hx
     subst hs;exact fun h=>⟨fun _=>hr.o.1 (by omega),fun _=>h⟩
   have KE:zyy P s x=false->jW P ⟨k,a,c⟩=false:=by
    intro hf;rw[HF.o];have hm2:m=0\/m=1:=by omega
    rcases hm2 with rfl | rfl
    ·obtain rfl:a=x:=by simpa using hx
     rw[hs,hf]
     have:(iD k == 0)=false:=by simp;omega
     simp[this]
    ·obtain rfl:c=x:=by simpa using hx
     rw[hs,hf]
     have:(iD k != 2)=false:=by simp;omega
     simp[this]
   have KEY:Hid (_):=And.intro key KE;clear key KE hs hr HF;have hm2:m=0\/m=1:=by omega
   have hcs:s=0\/s=1\/s=2\/s=3:=by omega
   rcases hm2 with rfl | rfl
   ·obtain rfl:a=x:=by simpa using hx
    go_wp2
    all_goals try (refine ⟨⟨1,by omega,rfl,KEY.o.1 ?_⟩,by simp[intOf];omega⟩;simp only[beq_iff_eq,beq_eq_false_iff_ne,ne_eq] at *;unfold zyy;(repeat' split)<;>first | rfl | (simp only[decide_eq_true_eq];omega) | omega)
    all_goals (
     go_ret;refine ⟨?_,(fO.refl _ _).alloc _⟩;have Ud:zyy P s a=false:=by
      simp only[beq_iff_eq,beq_eq_false_iff_ne,ne_eq] at *;unfold zyy;(repeat' split)<;>first | rfl | (simp only[decide_eq_false_iff_not];omega) | omega
     rw[KEY.o.2 Ud];rfl)
   ·obtain rfl:c=x:=by simpa using hx
    go_wp2
    all_goals try (refine ⟨⟨2,by omega,rfl,KEY.o.1 ?_⟩,by simp[intOf];omega⟩;simp only[beq_iff_eq,beq_eq_false_iff_ne,ne_eq] at *;unfold zyy;(repeat' split)<;>first | rfl | (simp only[decide_eq_true_eq];omega) | omega)
    all_goals (
     go_ret;refine ⟨?_,(fO.refl _ _).alloc _⟩;have Ud:zyy P s c=false:=by
      simp only[beq_iff_eq,beq_eq_false_iff_ne,ne_eq] at *;unfold zyy;(repeat' split)<;>first | rfl | (simp only[decide_eq_false_iff_not];omega) | omega
     rw[KEY.o.2 Ud];rfl)
  ·obtain rfl:m=iD k:=by omega
   have hne:¬ ((iD k:Int) < (iD k:Int)):=by omega
   go_wp2;go_ret;refine ⟨?_,(fO.refl _ _).alloc _⟩;rw[HF.o];have h0:iD k=0\/iD k=1\/iD k=2:=by omega
   rcases h0 with h0 | h0 | h0<;>rw[h0] at hr |-
   ·rfl
   ·rw[hr.o.1 (by omega)];rfl
   ·rw[hr.o.1 (by omega),hr.o.2 (by omega)];rfl
theorem ybz (n k:Nat)(hk:k < 20):∃ ta fn cap,(iQ n)[k * 4]?=some (.slice ta (iD k) (iD k))/\(iQ n)[k * 4+1]?=some (.int .i64 (iX k:Int))/\(iQ n)[k * 4+2]?=some (.int .i64 (kX k:Int))/\(iQ n)[k * 4+3]?=some (.func (.func fn) #[] cap):=by
 match k,hk with
 | 0,_=>exact ⟨_,_,_,rfl,rfl,rfl,rfl⟩
 | 1,_=>exact ⟨_,_,_,rfl,rfl,rfl,rfl⟩
 | 2,_=>exact ⟨_,_,_,rfl,rfl,rfl,rfl⟩
 | 3,_=>exact ⟨_,_,_,rfl,rfl,rfl,rfl⟩
 | 4,_=>exact ⟨_,_,_,rfl,rfl,rfl,rfl⟩
 | 5,_=>exact ⟨_,_,_,rfl,rfl,rfl,rfl⟩
 | 6,_=>exact ⟨_,_,_,rfl,rfl,rfl,rfl⟩
 | 7,_=>exact ⟨_,_,_,rfl,rfl,rfl,rfl⟩
 | 8,_=>exact ⟨_,_,_,rfl,rfl,rfl,rfl⟩
 | 9,_=>exact ⟨_,_,_,rfl,rfl,rfl,rfl⟩
 | 10,_=>exact ⟨_,_,_,rfl,rfl,rfl,rfl⟩
 | 11,_=>exact ⟨_,_,_,rfl,rfl,rfl,rfl⟩
 | 12,_=>exact ⟨_,_,_,rfl,rfl,rfl,rfl⟩
 | 13,_=>exact ⟨_,_,_,rfl,rfl,rfl,rfl⟩
 | 14,_=>exact ⟨_,_,_,rfl,rfl,rfl,rfl⟩
 | 15,_=>exact ⟨_,_,_,rfl,rfl,rfl,rfl⟩
 | 16,_=>exact ⟨_,_,_,rfl,rfl,rfl,rfl⟩
 | 17,_=>exact ⟨_,_,_,rfl,rfl,rfl,rfl⟩
 | 18,_=>exact ⟨_,_,_,rfl,rfl,rfl,rfl⟩
 | 19,_=>exact ⟨_,_,_,rfl,rfl,rfl,rfl⟩
 | k+20,hk=>exact absurd hk (by omega)
variable {v:fC}
theorem iE.row (h:iE w bv gs nt pp S)(hk:k < 20)(ho:o < 4)(e:(iQ nt)[k * 4+o]?=some v):w.cell? ⟨bv,1+k * 4+o,none⟩=some v:=by
 simp only[World.cell?,h.v];show (List.toArray _)[1+k * 4+o]?=_
 rw[dO,show 1+k * 4+o=(k * 4+o)+1 by omega,aM,aQ (by show _ < 80;omega)]
 exact e
theorem qw (t:fO (fun _=>False) w W)(h:w.cell? ⟨g,o,none⟩=some v):W.cell? ⟨g,o,none⟩=some v:=by
 have e:=t.block g (lt_of_cell h) fun h=>h
 simp only[World.cell?] at h |-;rw[e];exact h
theorem nU.jG {ta:Option Addr}(h:nU w ta k)(t:fO (fun _=>False) w W):nU W ta k:=fun m hm=>by
 obtain ⟨g,e,hg,hc⟩:=h m hm;exact ⟨g,e,aV hg t.size,qw t hc⟩
def Kn (S:List (Option iB))(p:Nat):Prop:=∀ q s,gW S q=some s->s.1<=p/\∀ q',s.2=some q'->q' < p/\∃ t,gW S q'=some t
def yco (w:fu)(bv gs nt pp:Nat)(R:Option (List (Option iB)))(e:Ending)(w':fu):Prop :=
 fO (·=gs) w w'/\((R=none/\∃ s:fq,s.size≠0/\e=.returned (.string s))\/∃ T,R=some T/\e=.returned (.string ⟨#[]⟩)/\iE w' bv gs nt pp T)
theorem ya6 (k:Nat):iX k<=2:=by
 unfold iX
 repeat' split
 all_goals omega
theorem KF (w:fu)(a b c:Obj):fO (fun _=>False) w (((w.alloc a).alloc b).alloc c).drew/\(((w.alloc a).alloc b).alloc c).drew.heap[w.heap.size]?=some a/\(((w.alloc a).alloc b).alloc c).drew.heap[w.heap.size+1]?=some b/\(((w.alloc a).alloc b).alloc c).drew.heap[w.heap.size+1+1]?=some c:=by
 refine ⟨((((fO.refl _ w).alloc a).alloc b).alloc c).drew,?_,?_,?_⟩
 ·exact ((((fO.refl (fun _=>False) (w.alloc a)).alloc b).alloc c).block w.heap.size (by simp) fun h=>h).trans Lg.new1
 ·exact (((fO.refl (fun _=>False) ((w.alloc a).alloc b)).alloc c).block (w.heap.size+1) (by simp) fun h=>h).trans Lg.new2
 ·have h:(((w.alloc a).alloc b).alloc c).heap[((w.alloc a).alloc b).heap.size]?=some c:=Lg.new1;have e:((w.alloc a).alloc b).heap.size=w.heap.size+1+1:=by simp
  rw[e] at h;exact h
theorem ybe (bv gs nt pp p:Nat)(P:Pg)(S:List (Option iB))(k a c:Nat)(wa:Option Addr)(wc:Nat)(w:fu)(h:iE w bv gs nt pp S)(hS:S.length=P.ins.length+1)(hp:p+1 < S.length)(hK:Kn S p)(hk:k < 20)(ha:a < 65536)(hc:c < 65536)(p0:w.cell? ⟨pp,0,none⟩=some (.slice wa P.fT.length wc))(p1:w.cell? ⟨pp,1,none⟩=some (.int .i64 (P.nv:Int)))(hn:∀ ta,(iQ nt)[k * 4]?=some (.slice ta (iD k) (iD k))->nU w ta k) :
  Calls prog 92 #[.pointer (some ⟨bv,0,none⟩),.int .i64 (p:Int),.agg #[.int .i64 (k:Int),.int .i64 (a:Int),.int .i64 (c:Int)]] w (yco w bv gs nt pp (mD P S p ⟨k,a,c⟩)):=by
 have H:Hid (_):=h;have hbv:bv < w.heap.size:=lt_of_block h.v;have hgs:gs < w.heap.size:=lt_of_block h.s;have Et:=h.slice;obtain ⟨ta,fn,cap,e0,e1,e2,e3⟩:=ybz nt k hk;have r0:=h.row (o:=0) hk (by decide) e0
 have r1:=h.row (o:=1) hk (by decide) e1
 have r2:=h.row (o:=2) hk (by decide) e2
 have r3:=h.row (o:=3) hk (by decide) e3
 rw[dU] at r0;have HN:Hid (_):=hn ta e0;have hpl:p < S.length:=by omega
 have hp1:(p:Int) < (S.length:Int):=by omega
 have hk1:(k:Int) < 20:=by omega
 have s0:=h.state hpl 0 (by decide)
 have s1:=h.state hpl 1 (by decide)
 have s2:=h.state hpl 2 (by decide)
 rw[dU] at s0;have hl:=h.l;have hAC:∃ (kb:Bool) (nh:Nat) (tr:Option Nat),w.cell? ⟨gs,p * 3,none⟩=some (.bool kb)/\w.cell? ⟨gs,p * 3+1,none⟩=some (.int .i64 (nh:Int))/\w.cell? ⟨gs,p * 3+2,none⟩=some (.int .i64 (iO tr))/\nh<=1000000/\(∀ q,tr=some q->q < S.length) /\
   (kb=false->mD P S p ⟨k,a,c⟩=none)/\(kb=true->gW S p=some (nh,tr)):=by
  cases hv:gW S p with
  | none =>
   rw[hv] at s0 s1 s2;refine ⟨false,0,some 0,s0,s1,s2,by omega,fun q e=>(by cases e;omega),fun _=>?_,fun e=>(by cases e)⟩
   unfold mD;rw[hv]
  | some now =>
   rw[hv] at s0 s1 s2;obtain ⟨k1,k2⟩:=hK p now hv;exact ⟨true,now.1,now.2,s0,s1,s2,by omega,fun q e=>(by have:=(k2 q e).1;omega),fun e=>(by cases e),fun _=>rfl⟩
 clear s0 s1 s2;obtain ⟨kb,nh,tr,s0,s1,s2,hnh,htr,hF,hT⟩:=hAC;have Ue:Hid (_):=And.intro hF hT;have Uf:Hid (∀ W,fO (fun _=>False) w W->Calls prog 133 #[.pointer (some ⟨bv,0,none⟩),.agg #[.bool kb,.int .i64 (nh:Int),.int .i64 (iO tr)]] W fun e w'=>e=.returned (.int .i64 (lV S tr:Int))/\fO (fun _=>False) W w'):=fun W hW=>yay kb bv gs nt pp S (nh,tr) W (h.jG hW) htr
 have FIT:Hid (∀ W,fO (fun _=>False) w W->Calls prog 134 #[.pointer (some ⟨bv,0,none⟩),.agg #[.int .i64 (k:Int),.int .i64 (a:Int),.int .i64 (c:Int)],.slice ta (iD k) (iD k)] W fun e w'=>e=.returned (.bool (jW P ⟨k,a,c⟩))/\fO (fun _=>False) W w'):=fun W hW =>
  yb8 bv gs nt pp P S k a c ta wa wc W (h.jG hW) hS (qw hW p0) (qw hW p1) ((hn ta e0).jG hW) ha hc
 have LEAD:Hid (∀ W,fO (fun _=>False) w W->jW P ⟨k,a,c⟩=true->¬ nh < iX k+lV S tr->(k=16->∃ q,tr=some q)->gW S p=some (nh,tr)->Calls prog 135 #[.pointer (some ⟨bv,0,none⟩),.int .i64 (p:Int),.agg #[.int .i64 (k:Int),.int .i64 (a:Int),.int .i64 (c:Int)],.agg #[.slice ta (iD k) (iD k),.int .i64 (iX k:Int),.int .i64 (kX k:Int),.func (.func fn) #[] cap],.agg #[.bool true,.int .i64 (nh:Int),.int .i64 (iO tr)]] W
   (ZR W bv gs nt pp (oK S p ⟨k,a,c⟩ (nh,tr)))):=fun W hW hf ht h16 hat =>
  ybf bv gs nt pp p S k a c (nh,tr) _ _ W (h.jG hW) hp hk (fun g1 g2=>by
   unfold jW at hf;dsimp only at hf;rw[if_neg (by omega),if_neg (by omega),if_pos ⟨g1,g2⟩] at hf
   rw[hS];exact of_decide_eq_true hf) (by show _<=nh;omega) hnh (fun e=>by
   obtain ⟨q,hq⟩:=h16 e;obtain ⟨k1,k2⟩:=(hK p _ hat).2 q hq;obtain ⟨t,ht⟩:=k2;exact ⟨q,t,hq,by omega,ht⟩) ha hc rfl rfl
 clear h hn e0 e1 e2 e3 hF hT htr HN;obtain ⟨tv,x9⟩:∃ tv,iO tr=tv:=⟨_,rfl⟩;have Ug:Hid (_):=x9;rw[x9] at s2 Uf LEAD;clear x9;go_enter func92,ntmps92
 go_upto_region 1 with fail
 go_cut [7,8] (fun v7 v8 wc=>∃ br bn,v7=.pointer (some ⟨br,0,none⟩)/\v8=.pointer (some ⟨bn,0,none⟩)/\w.heap.size < br/\w.heap.size < bn/\br≠bn/\Hid (fO (fun _=>False) w wc/\wc.heap[br]?=some (.cells #[.slice ta (iD k) (iD k),.int .i64 (iX k:Int),.int .i64 (kX k:Int),.func (.func fn) #[] cap] 84)/\wc.heap[bn]?=some (.cells #[.bool kb,.int .i64 (nh:Int),.int .i64 tv] 198)/\wc.heap[w.heap.size]?=some (.cells #[.int .i64 (k:Int),.int .i64 (a:Int),.int .i64 (c:Int)] 90)))
 case first =>
  have hbv1:bv < w.heap.size+1:=by omega
  have Uh:gs < w.heap.size+1:=by omega
  go_region
  all_goals go_wp2_with fail
  all_goals go_meet
  ·obtain ⟨t,x0,x1,x2⟩:=KF w (.cells #[.int .i64 (k:Int),.int .i64 (a:Int),.int .i64 (c:Int)] 90) (.cells #[.slice ta (iD k) (iD k),.int .i64 (iX k:Int),.int .i64 (kX k:Int),.func (.func fn) #[] cap] 84) (.cells #[.bool kb,.int .i64 (nh:Int),.int .i64 tv] 198);exact ⟨_,_,rfl,rfl,by omega,by omega,by omega,t,x1,x2,x0⟩
  ·obtain ⟨t,x0,x1,x2⟩:=KF w (.cells #[.int .i64 (k:Int),.int .i64 (a:Int),.int .i64 (c:Int)] 90) (.cells #[.bool kb,.int .i64 (nh:Int),.int .i64 tv] 198) (.cells #[.slice ta (iD k) (iD k),.int .i64 (iX k:Int),.int .i64 (kX k:Int),.func (.func fn) #[] cap] 84);exact ⟨_,_,rfl,rfl,by omega,by omega,by omega,t,x2,x1,x0⟩
 case rest =>
  obtain ⟨br,bn,rfl,rfl,hbr,hbn,hne,HW⟩:=hcut;obtain ⟨n0,n1,n2,nf⟩:=Mk.cells3 HW.o.2.2.1;clear s0 s1 s2 r0 r1 r2 r3 Et p0 p1;go_wp2_with fail;refine aA (Uf.o _ HW.o.1) ?_;rintro e w1 ⟨rfl,hT1⟩;obtain ⟨F,Ui⟩:∃ F,lV S tr=F:=⟨_,rfl⟩;rw[Ui];rw[Ui] at LEAD;have T1:Hid (fO (fun _=>False) w w1/\w1.heap[br]?=some (.cells #[.slice ta (iD k) (iD k),.int .i64 (iX k:Int),.int .i64 (kX k:Int),.func (.func fn) #[] cap] 84)/\w1.heap[bn]?=some (.cells #[.bool kb,.int .i64 (nh:Int),.int .i64 tv] 198)/\w1.heap[w.heap.size]?=some (.cells #[.int .i64 (k:Int),.int .i64 (a:Int),.int .i64 (c:Int)] 90)):=by
   obtain ⟨x0,x1,x2,x3⟩:=HW.o;exact ⟨x0.trans hT1,(hT1.block _ (lt_of_block x1) fun h=>h).trans x1,(hT1.block _ (lt_of_block x2) fun h=>h).trans x2,(hT1.block _ (lt_of_block x3) fun h=>h).trans x3⟩
  clear hT1 HW Uf;cases kb with
  | false =>
   obtain ⟨m0,m1,m2,mf⟩:=Mk.cells3 T1.o.2.2.1;go_wp2_with fail;go_ret;exact ⟨T1.o.1.mono (fun _ _ h=>h.elim),ak ⟨Ue.o.1 (by first | trivial | rfl),_,by decide,rfl⟩⟩
  | true =>
   have hat:=Ue.o.2 (by first | trivial | rfl)
   have HL:Hid (mD P S p ⟨k,a,c⟩=if !jW P ⟨k,a,c⟩ then none else if nh < iX k+F then none else if k=16/\(tr=none\/nh≠F) then none else oK S p ⟨k,a,c⟩ (nh,tr)):=by
    unfold Hid mD;rw[hat];dsimp only;rw[Ui]
   obtain ⟨m0,m1,m2,mf⟩:=Mk.cells3 T1.o.2.2.1;obtain ⟨i0,i1,i2,if_⟩:=Mk.cells3 T1.o.2.2.2;have q0:w1.cell? ⟨br,0,none⟩=some (.slice ta (iD k) (iD k)):=by simp[World.cell?,T1.o.2.1]
   have HAT:Hid (_):=hat;clear hat Ue;go_wp2_with fail;refine aA (FIT.o _ T1.o.1) ?_;rintro e w2 ⟨rfl,oZ⟩;have T2:Hid (fO (fun _=>False) w w2/\w2.heap[br]?=some (.cells #[.slice ta (iD k) (iD k),.int .i64 (iX k:Int),.int .i64 (kX k:Int),.func (.func fn) #[] cap] 84)/\w2.heap[bn]?=some (.cells #[.bool true,.int .i64 (nh:Int),.int .i64 tv] 198)/\w2.heap[w.heap.size]?=some (.cells #[.int .i64 (k:Int),.int .i64 (a:Int),.int .i64 (c:Int)] 90)):=by
    obtain ⟨x0,x1,x2,x3⟩:=T1.o;exact ⟨x0.trans oZ,(oZ.block _ (lt_of_block x1) fun h=>h).trans x1,(oZ.block _ (lt_of_block x2) fun h=>h).trans x2,(oZ.block _ (lt_of_block x3) fun h=>h).trans x3⟩
   clear oZ T1 m0 m1 m2 mf i0 i1 i2 if_ q0 FIT;cases hf:jW P ⟨k,a,c⟩ with
   | false =>
    go_wp2_with fail;go_ret;exact ⟨T2.o.1.mono (fun _ _ h=>h.elim),ak ⟨by rw[HL.o,hf];rfl,_,by decide,rfl⟩⟩
   | true =>
    have htk:=ya6 k;by_cases ht:nh < iX k+F
    ·have ht':(nh:Int) - (iX k:Int) < (F:Int):=by omega
     obtain ⟨m0,m1,m2,mf⟩:=Mk.cells3 T2.o.2.2.1;obtain ⟨i0,i1,i2,if_⟩:=Mk.cells3 T2.o.2.2.2;have q1:w2.cell? ⟨br,1,none⟩=some (.int .i64 (iX k:Int)):=by simp[World.cell?,T2.o.2.1]
     go_wp2_with fail;go_ret;exact ⟨T2.o.1.mono (fun _ _ h=>h.elim),ak ⟨by rw[HL.o,hf,if_pos ht];rfl,_,by decide,rfl⟩⟩
    ·have ht':¬ (nh:Int) - (iX k:Int) < (F:Int):=by omega
     obtain ⟨m0,m1,m2,mf⟩:=Mk.cells3 T2.o.2.2.1;obtain ⟨i0,i1,i2,if_⟩:=Mk.cells3 T2.o.2.2.2;obtain ⟨q0,q1,q2,q3⟩:w2.cell? ⟨br,0,none⟩=some (.slice ta (iD k) (iD k))/\w2.cell? ⟨br,1,none⟩=some (.int .i64 (iX k:Int))/\w2.cell? ⟨br,2,none⟩=some (.int .i64 (kX k:Int))/\w2.cell? ⟨br,3,none⟩=some (.func (.func fn) #[] cap):=by simp[World.cell?,T2.o.2.1]
     by_cases hkk:k=16/\(tr=none\/nh≠F)
     ·obtain ⟨rfl,htn⟩:=hkk;have ZT:Hid (mD P S p ⟨16,a,c⟩=none):=by
       unfold Hid;rw[HL.o,hf,if_neg (show ¬ ((!true)=true) by decide),if_neg ht]
       exact if_pos (And.intro rfl htn)
      by_cases h1:tr=none
      ·obtain rfl:tv=-1:=by rw[<- Ug.o,h1];rfl
       go_wp2_with fail;go_ret;exact ⟨T2.o.1.mono (fun _ _ h=>h.elim),ak ⟨ZT.o,_,by decide,rfl⟩⟩
      ·have hnF:nh≠F:=htn.resolve_left h1;have Uj:(tv == -1)=false:=by
        rw[beq_eq_false_iff_ne,<- Ug.o];cases tr with
        | none=>exact absurd rfl h1
        | some q=>simp only[iO];omega
       have hnF':((nh:Int) == (F:Int))=false:=by rw[beq_eq_false_iff_ne];omega
       go_wp2_with fail;go_ret;exact ⟨T2.o.1.mono (fun _ _ h=>h.elim),ak ⟨ZT.o,_,by decide,rfl⟩⟩
     ·have Gp:Hid (mD P S p ⟨k,a,c⟩=oK S p ⟨k,a,c⟩ (nh,tr)):=by unfold Hid;rw[HL.o,hf,if_neg ht,if_neg hkk];rfl
      have L1:Hid (_):=LEAD.o w2 T2.o.1 hf ht (fun e=>by
       cases tr with
       | none=>exact absurd ⟨e,ak rfl⟩ hkk
       | some q=>exact ⟨q,rfl⟩) HAT.o
      have hkk':((k:Int) == 16)=false\/(k=16/\(tv == -1)=false/\nh=F):=by
       by_cases h16:k=16
       ·refine ah ⟨h16,?_,?_⟩
        ·rw[beq_eq_false_iff_ne,<- Ug.o];cases tr with
         | none=>exact absurd ⟨h16,ak rfl⟩ hkk
         | some q=>simp only[iO];omega
        ·exact Classical.byContradiction fun g=>hkk ⟨h16,ah g⟩
       ·exact ak (by rw[beq_eq_false_iff_ne];omega)
      clear HL LEAD;rcases hkk' with h16 | ⟨rfl,Uj,rfl⟩
      ·go_wp2_with fail;refine aA L1.o ?_;rintro e w3 ⟨rfl,KG,mH⟩;have HX:Hid (fO (·=gs) w w3/\∀ T,oK S p ⟨k,a,c⟩ (nh,tr)=some T->iE w3 bv gs nt pp T):=⟨(T2.o.1.mono (fun _ _ h=>h.elim)).trans mH,KG⟩
       clear KG mH L1;obtain ⟨R,hR⟩:∃ R,oK S p ⟨k,a,c⟩ (nh,tr)=R:=⟨_,rfl⟩;rw[hR] at HX Gp |-;clear hR;cases R with
       | none =>
        go_wp2_with fail;go_ret;exact ⟨HX.o.1,ak ⟨Gp.o,_,by decide,rfl⟩⟩
       | some T =>
        go_wp2_with fail;go_ret;exact ⟨HX.o.1,ah ⟨T,Gp.o,rfl,HX.o.2 T rfl⟩⟩
      ·go_wp2_with fail;refine aA L1.o ?_;rintro e w3 ⟨rfl,KG,mH⟩;have HX:Hid (fO (·=gs) w w3/\∀ T,oK S p ⟨16,a,c⟩ (nh,tr)=some T->iE w3 bv gs nt pp T):=⟨(T2.o.1.mono (fun _ _ h=>h.elim)).trans mH,KG⟩
       clear KG mH L1;obtain ⟨R,hR⟩:∃ R,oK S p ⟨16,a,c⟩ (nh,tr)=R:=⟨_,rfl⟩;rw[hR] at HX Gp |-;clear hR;cases R with
       | none =>
        go_wp2_with fail;go_ret;exact ⟨HX.o.1,ak ⟨Gp.o,_,by decide,rfl⟩⟩
       | some T =>
        go_wp2_with fail;go_ret;exact ⟨HX.o.1,ah ⟨T,Gp.o,rfl,HX.o.2 T rfl⟩⟩
def N7 (n k:Nat):Option Addr:=if k < 3 then some ⟨n+1+k,0,none⟩ else if 12<=k/\k<=16 then some ⟨n+4+k,0,none⟩ else if k=18 then some ⟨n+21,0,none⟩ else if k=19 then some ⟨n+22,0,none⟩ else none
theorem yac (n k:Nat)(hk:k < 20):(iQ n)[k * 4]?=some (.slice (N7 n k) (iD k) (iD k)):=by
 match k,hk with
 | 0,_=>rfl
 | 1,_=>rfl
 | 2,_=>rfl
 | 3,_=>rfl
 | 4,_=>rfl
 | 5,_=>rfl
 | 6,_=>rfl
 | 7,_=>rfl
 | 8,_=>rfl
 | 9,_=>rfl
 | 10,_=>rfl
 | 11,_=>rfl
 | 12,_=>rfl
 | 13,_=>rfl
 | 14,_=>rfl
 | 15,_=>rfl
 | 16,_=>rfl
 | 17,_=>rfl
 | 18,_=>rfl
 | 19,_=>rfl
 | k+20,hk=>exact absurd hk (by omega)
structure NB (W:fu)(n:Nat):Prop where
 a:W.cell? ⟨n+1,0,none⟩=some (.int .i64 0)
 b:W.cell? ⟨n+2,0,none⟩=some (.int .i64 1)
 c:W.cell? ⟨n+3,0,none⟩=some (.int .i64 1)
 p:∀ j,j < 5->W.cell? ⟨n+16+j,0,none⟩=some (.int .i64 3)
 d:W.cell? ⟨n+21,0,none⟩=some (.int .i64 2)
 e:W.cell? ⟨n+21,1,none⟩=some (.int .i64 0)
 f:W.cell? ⟨n+22,0,none⟩=some (.int .i64 2)
theorem NB.need (h:NB W n)(k:Nat)(hk:k < 20):∀ ta,(iQ n)[k * 4]?=some (.slice ta (iD k) (iD k))->nU W ta k:=by
 intro ta e;rw[yac n k hk] at e;obtain rfl:N7 n k=ta:=by injection e with e;injection e
 intro m hm;have one:∀ (g:Nat) (v:Int),N7 n k=some ⟨g,0,none⟩->iD k=1->W.cell? ⟨g,0,none⟩=some (.int .i64 v)->v=(wO k 0:Int)->∃ g,N7 n k=some ⟨g,0,none⟩/\g < W.heap.size/\W.cell? ⟨g,m,none⟩=some (.int .i64 (wO k m:Int)):=by
  intro g v e1 e2 e3 e4;obtain rfl:m=0:=by omega
  subst e4;exact ⟨g,e1,lt_of_cell e3,e3⟩
 match k,hk,hm,one with
 | 0,_,_,one=>exact one _ _ rfl rfl h.a rfl
 | 1,_,_,one=>exact one _ _ rfl rfl h.b rfl
 | 2,_,_,one=>exact one _ _ rfl rfl h.c rfl
 | 3,_,hm,_=>exact absurd hm (bO _)
 | 4,_,hm,_=>exact absurd hm (bO _)
 | 5,_,hm,_=>exact absurd hm (bO _)
 | 6,_,hm,_=>exact absurd hm (bO _)
 | 7,_,hm,_=>exact absurd hm (bO _)
 | 8,_,hm,_=>exact absurd hm (bO _)
 | 9,_,hm,_=>exact absurd hm (bO _)
 | 10,_,hm,_=>exact absurd hm (bO _)
 | 11,_,hm,_=>exact absurd hm (bO _)
 | 12,_,_,one=>exact one _ _ rfl rfl (h.p 0 (by decide)) rfl
 | 13,_,_,one=>exact one _ _ rfl rfl (h.p 1 (by decide)) rfl
 | 14,_,_,one=>exact one _ _ rfl rfl (h.p 2 (by decide)) rfl
 | 15,_,_,one=>exact one _ _ rfl rfl (h.p 3 (by decide)) rfl
 | 16,_,_,one=>exact one _ _ rfl rfl (h.p 4 (by decide)) rfl
 | 17,_,hm,_=>exact absurd hm (bO _)
 | 18,_,hm,_ =>
  have hm':m < 2:=hm;rcases (show m=0\/m=1 by omega) with rfl | rfl
  ·exact ⟨n+21,rfl,lt_of_cell h.d,h.d⟩
  ·exact ⟨n+21,rfl,lt_of_cell h.e,h.e⟩
 | 19,_,_,one=>exact one _ _ rfl rfl h.f rfl
 | k+20,hk,_,_=>exact absurd hk (by omega)
theorem Eu (b k o1:Nat)(hk:k≠b):∀ (vs:List fC) (o:Nat) (w1:fu),(w1.setCells b o vs).cell? ⟨k,o1,none⟩=w1.cell? ⟨k,o1,none⟩:=by
 intro vs;induction vs with
 | nil=>intro o w1;rfl
 | cons v vs ih=>intro o w1;exact (ih _ _).trans (uy (fun e=>hk (congrArg Addr.block e).symm))
theorem NB.laid (h:NB W n)(vs:List fC):NB (W.setCells n 0 vs) n :=
 ⟨(Eu n _ _ (by omega) _ _ _).trans h.a,(Eu n _ _ (by omega) _ _ _).trans h.b,(Eu n _ _ (by omega) _ _ _).trans h.c,fun j hj=>(Eu n _ _ (by omega) _ _ _).trans (h.p j hj),(Eu n _ _ (by omega) _ _ _).trans h.d,(Eu n _ _ (by omega) _ _ _).trans h.e,(Eu n _ _ (by omega) _ _ _).trans h.f⟩
theorem Uk (w:fu)(a b c d e f g:Obj):let W:=(((((((w.alloc a).alloc b).alloc c).alloc d).alloc e).alloc f).alloc g)
  W.heap[w.heap.size]?=some a/\W.heap[w.heap.size+1]?=some b/\W.heap[w.heap.size+2]?=some c/\W.heap[w.heap.size+3]?=some d/\W.heap[w.heap.size+4]?=some e/\W.heap[w.heap.size+5]?=some f/\W.heap[w.heap.size+6]?=some g:=by
 intro W;have hW:W.heap=((((((w.heap.push a).push b).push c).push d).push e).push f).push g:=rfl;rw[hW];refine ⟨?_,?_,?_,?_,?_,?_,?_⟩<;>simp only[aB,Array.size_push]<;>(repeat' split)<;>first | rfl | (exfalso;omega) | exact absurd trivial (by assumption)
theorem Ul (w:fu)(z a b c:Obj):((((w.alloc z).alloc a).alloc b).alloc c).heap[w.heap.size+1]?=some a/\((((w.alloc z).alloc a).alloc b).alloc c).heap[w.heap.size+2]?=some b/\((((w.alloc z).alloc a).alloc b).alloc c).heap[w.heap.size+3]?=some c:=by
 have hW:((((w.alloc z).alloc a).alloc b).alloc c).heap=(((w.heap.push z).push a).push b).push c:=rfl;rw[hW];refine ⟨?_,?_,?_⟩<;>simp only[aB,Array.size_push]<;>(repeat' split)<;>first | rfl | (exfalso;omega) | exact absurd trivial (by assumption)
theorem yT {C:Array fC}{t:TypeId}(h:W.heap[g]?=some (.cells C t))(o:Nat):W.cell? ⟨g,o,none⟩=C[o]?:=by
 simp[World.cell?,h]
