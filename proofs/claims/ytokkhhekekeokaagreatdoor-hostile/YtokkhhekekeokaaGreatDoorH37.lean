import Derived.Test.YtokkhhekekeokaaGreatDoorH36
import Derived.Test.YtokkhhekekeokaaGreatDoorH16
set_option maxRecDepth 100000
set_option maxHeartbeats 4000000
namespace Go.Proofs.YtokkhhekekeokaaGreatDoor
open Go.RowKit
namespace Cd
def ybq (c:List UInt8) (w:World) (e:Ending) (w':World):Prop :=
 Below w.heap.size w w'∧((∃ P pp,Px.good c=some P∧e=.returned (.tuple #[.pointer (some ⟨pp,0,none⟩),.nilIface])∧Mk.PgAt w' w.heap.size P [] pp∧Rdy P) ∨
  (Px.good c=none∧∃ f,e=.returned (.tuple #[.pointer none,.iface 101 (.pointer (some ⟨f,0,none⟩))])))
def yb1 (br:Nat) (wr:World):Nat :=
 match wr.cell? ⟨br,0,none⟩ with
 | some (.string s)=>s.size
 | _=>0
theorem zzu {wr:World} {br nt:Nat} {s:List UInt8} (h:RrAt wr br nt s):yb1 br wr=s.length:=by
 unfold yb1;rw[h.cell];exact zyu s
theorem yad (c:List UInt8) (w:World) (hs:c.length≤maxLen)
  (HV:∀ (pp B0:Nat) (P:Px.Pg) (N:List ByteArray) (w:World),Mk.PgAt w B0 P N pp→(∀ i∈P.ins,Px.OkI i)→P.ins.length≤100000→Calls Tryz.prog 36 #[.pointer (some ⟨pp,0,none⟩)] w (Verd P w)) :
  Calls Tryz.prog 17 #[.string ⟨c.toArray⟩] w (ybq c w):=by
 have hz:=zyu c;unfold maxLen at hs;by_cases hlong:65536 < c.length
 ·have hg:=yat hlong;generalize (⟨c.toArray⟩:ByteArray)=S at *;have hi:(65536:Int) < (S.size:Int):=by omega
  go_enter Tryz.func17,Tryz.ntmps17
  go_wp2_with fail;go_ret2;exact ⟨(Below.refl _ _).alloc (Nat.le_refl _) _,Or.inr ⟨hg,_,rfl⟩⟩
 ·have HC:Hid (_):=zuu c Px.qpu w (by omega) (by decide)
  have HS:Hid (_):=hlong;have hi:¬ ((65536:Int) < ((⟨c.toArray⟩:ByteArray).size:Int)):=by rw[hz];omega
  by_cases hh:c.take Px.qpu.length=Px.qpu
  ·have hc:cutV c Px.qpu=.tuple #[.string ⟨(c.drop Px.qpu.length).toArray⟩,.bool true]:=if_pos hh;rw[hc] at HC;have HH:Hid (_):=hh;have hl2:(c.drop Px.qpu.length).length≤65536:=by rw[List.length_drop];omega
   clear hh hc;generalize hR:c.drop Px.qpu.length=R at *;have HR:Hid (_):=hR;generalize (⟨c.toArray⟩:ByteArray)=S at *;clear hlong hR;go_enter Tryz.func17,Tryz.ntmps17
   go_wp2_with fail;refine Calls.mono HC.out ?_;rintro e w1 ⟨rfl,rfl⟩;clear HC;have HM:Hid (∀ W:World,Calls Tryz.prog 26 #[] W fun e w1=>∃ T:Array Value,e=.returned (.agg T)∧T.size=80∧(∀ cs:Array Value,(Array.foldl (fun (cs:Array Value) (x:Value×Nat)=>cs.setIfInBounds (1+x.2) x.1) cs T.zipIdx 0 80).size=cs.size)∧Hid (T=(Rn.tabL W.heap.size).toArray∧Tch (fun _=>False) W w1)):=fun W=>by
    refine (Rn.qnh W).mono ?_;rintro e w1 ⟨rfl,hT,_⟩;exact ⟨_,rfl,rfl,zzd rfl,rfl,hT⟩
   go_wp2_with fail;refine Calls.mono (HM.out _) ?_;rintro e w2 ⟨T,rfl,hTs,hTf,H2⟩;clear HM;have S0:Hid (_):=yag (R:=R) H2.out;have HN:Hid (_):=zy0 _ _ R _ S0.out.rr (by omega)
   go_wp2_with fail;clear hTs hTf H2;generalize Array.foldl (fun (cs:Array Value) (x:Value×Nat)=>cs.setIfInBounds (1+x.2) x.1) (Tryz.zeroCells108.setIfInBounds 0 (.string ⟨R.toArray⟩)) T.zipIdx 0 80=TT at *
   generalize hW2:(w2.alloc (.cells TT 108)).alloc (.cells #[.slice none 0 0,.int .i64 0,.slice none 0 0,.slice none 0 0] 80)=W2 at *;generalize hbr:w2.heap.size=br at *;generalize hbp:br+1=bp at *;clear hbp;refine Calls.mono HN.out ?_;rintro e w3 (⟨hn,rfl,rfl⟩ | ⟨nv,r1,hn,hnv,rfl,hR3,hT3⟩)
   ·obtain ⟨x0,x1,x2,x3,xf,xl⟩:=qau S0.out.pg;have HG:Hid (Px.good c=none):=ybk HS.out HH.out (by rw[HR.out];exact hn)
    clear HN hn;go_wp2_with fail;go_ret2;exact ⟨(S0.out.b.setCell (p:=⟨bp,1,none⟩) S0.out.p0 _).alloc (by have:=S0.out.b.size;simpa using this) _,Or.inr ⟨HG.out,_,rfl⟩⟩
   ·have S1:Hid (_):=S0.out.read hT3 hR3;have hl1:r1.length≤65536:=by have:=(Px.zzw hn).1;omega
    have HNV:Hid (_):=hn;clear HN hR3 hT3 hn hW2 S0;obtain ⟨x0,x1,x2,x3,xf,xl⟩:=qau S1.out.pg;have S2:Hid (_):=S1.out.setN nv;have HW:Hid (_):=ya4 _ _ r1 _ S2.out.rr (by omega)
    go_wp2_with fail;clear x0 x1 x2 x3 xf xl S1;generalize w3.setCell ⟨bp,1,none⟩ (.int .i64 (nv:Int))=W3 at *;refine Calls.mono HW.out ?_;rintro e w4 ⟨t4,⟨hw,rfl⟩ | ⟨ws,r3,vw,hw,rfl,hR4,o4⟩⟩
    ·obtain ⟨b4,pg4⟩:=S2.out.broke t4;obtain ⟨x0,x1,x2,x3,xf,xl⟩:=qau pg4;have HG:Hid (Px.good c=none∧Below w1.heap.size w1 w4):=⟨zz7 HS.out HH.out (by rw[HR.out];exact HNV.out) hw,b4⟩
     have hp0:=S2.out.p0;clear HW hw t4 b4 pg4;go_wp2_with fail;go_ret2;exact ⟨(HG.out.2.setCell (p:=⟨bp,0,none⟩) hp0 _).alloc (by have:=HG.out.2.size;simpa using this) _,Or.inr ⟨HG.out.1,_,rfl⟩⟩
    ·have S3:Hid (_):=S2.out.read t4 hR4;have O4:Hid (w4.ownsRow w1.heap.size 9 1 vw ws.length (Mk.strCells ws)):=qz5 o4 S2.out.b.size;obtain ⟨hwl,hl3⟩:=ycf hw;have HWS:Hid (_):=hw;obtain ⟨x0,x1,x2,x3,xf,xl⟩:=qau S3.out.pg;have S4:Hid (_):=S3.out.setW O4.out;obtain ⟨ua,un,uc,rfl⟩:=Ref.qad o4;have hc0:=S4.out.rr.cell;have hbz:=S4.out.rr.lt;clear HW hw t4 hR4 o4 O4 S2;go_wp2_with fail;clear x0 x1 x2 x3 xf xl S3;generalize w4.setCell ⟨bp,0,none⟩ (.slice ua un uc)=W4 at *;obtain ⟨i0,hi0,hz0,hz1,hz2⟩:=info_parts Mk.zt4;go_loopw [] (fun wr=>∃ (L:List Px.Ins) (s:List UInt8) (vl:Value),s.length+L.length≤65536∧Hid (RdL w1 br bp w1.heap.size nv ws L s (.slice ua un uc) vl wr∧Px.rdIs r3.length r3=(Px.rdIs s.length s).map (L++·)∧∀ i∈L,Px.OkI i)) (fun wr=>yb1 br wr)
     case atStart =>
      refine ⟨[],r3,.slice none 0 0,by simp;omega,S4.out,?_,fun i hi=>by cases hi⟩
      cases Px.rdIs r3.length r3<;>rfl
     case round =>
      obtain ⟨L,s,vl,hls,hr⟩:=hrel;have hc1:=hr.out.1.rr.cell;have hbz1:=hr.out.1.rr.lt;have hmu:=zzu hr.out.1.rr;clear hc0 hbz S4;by_cases hs0:s=[]
      ·have hne:(⟨s.toArray⟩:ByteArray).toList.isEmpty=true:=by
        rw[ByteArray.toList_eq,hs0];rfl
       have hL:Px.rdIs r3.length r3=some L:=by
        rw[hr.out.2.1,hs0];show (some ([]:List Px.Ins)).map (L++·)=_
        simp
       have HP:Hid (Mk.PgAt wr w1.heap.size ⟨ws,nv,L⟩ [] bp):=⟨hr.out.1.p0,vl,.slice ua un uc,.slice none 0 0,hr.out.1.pg,hr.out.1.l,hr.out.1.w,World.ownsRow_nil _ _ _ _⟩;have HE:Hid (_):=ybj HS.out HH.out (by rw[HR.out];exact HNV.out) HWS.out hL
       have HVF:Hid (_):=HV bp w1.heap.size ⟨ws,nv,L⟩ [] wr HP.out hr.out.2.2 (by show L.length≤_;omega)
       generalize (⟨s.toArray⟩:ByteArray)=SS at *;clear hL HV;go_wp2_with fail;refine Calls.mono HVF.out ?_;rintro e w5 ⟨t5,⟨hv,rfl⟩ | ⟨hv,f,rfl⟩⟩
       ·have HF:Hid (ybq c w1 (.returned (.tuple #[.pointer (some ⟨bp,0,none⟩),.nilIface])) w5):=by
         refine ⟨hr.out.1.b.trans (t5.qbg hr.out.1.b.size fun _ h=>h.elim),Or.inl ⟨_,_,?_,rfl,?_,hv,hr.out.2.2,by show L.length≤_;omega,hwl,hnv⟩⟩
         ·rw[HE.out,if_pos hv]
         ·obtain ⟨q1,q2,q3,q4,q5,q6,q7,q8⟩:=HP.out;exact ⟨q1,q2,q3,q4,(t5.block _ (lt_of_block q5) fun h=>h).trans q5,qah q6 t5 (fun _ _ h=>h),qah q7 t5 (fun _ _ h=>h),qah q8 t5 (fun _ _ h=>h)⟩
        clear t5 hv HVF HP HE hr;go_wp2_with fail;go_ret2;exact HF.out
       ·have HF:Hid (ybq c w1 (.returned (.tuple #[.pointer none,.iface 101 (.pointer (some ⟨f,0,none⟩))])) w5):=by
         refine ⟨hr.out.1.b.trans (t5.qbg hr.out.1.b.size fun _ h=>h.elim),Or.inr ⟨?_,_,rfl⟩⟩
         rw[HE.out,if_neg (by rw[hv];decide)]
        clear t5 hv HVF HP HE hr;go_wp2_with fail;go_ret2;exact HF.out
      ·have hne:(⟨s.toArray⟩:ByteArray).toList.isEmpty=false:=by
        rw[ByteArray.toList_eq];show s.isEmpty=false
        rw[List.isEmpty_eq_false_iff];exact hs0
       have HI:Hid (_):=ycj br w1.heap.size s wr hr.out.1.rr (by omega)
       generalize (⟨s.toArray⟩:ByteArray)=SS at *;go_wp2_with fail;refine Calls.mono HI.out ?_;rintro e w5 ⟨t5,⟨hw,rfl⟩ | ⟨i,s1,hw,rfl,hR5⟩⟩
       ·obtain ⟨b5,pg5⟩:=hr.out.1.broke t5;obtain ⟨x0,x1,x2,x3,xf,xl⟩:=qau pg5;have HG:Hid (Px.good c=none∧Below w1.heap.size w1 w5):=by
         refine ⟨yau HS.out HH.out (by rw[HR.out];exact HNV.out) HWS.out ?_,b5⟩
         rw[hr.out.2.1,Px.yb4 hs0 hw];rfl
        obtain ⟨la,ln,lc,rfl⟩:=Ref.qad hr.out.1.l;clear HI hw t5 b5 pg5;go_wp2_with fail;go_region
        all_goals go_wp2_with fail
        all_goals
         go_ret2;exact ⟨((HG.out.2.alloc HG.out.2.size _).alloc (by have:=HG.out.2.size;simp;omega) _).drew,Or.inr ⟨HG.out.1,_,rfl⟩⟩
       ·have S5:Hid (_):=hr.out.1.read t5 hR5;obtain ⟨hs1,hoi⟩:=Px.yal hw;have HQ:Hid (Px.rdIs r3.length r3=(Px.rdIs s1.length s1).map ((L++[i])++·)∧∀ j∈L++[i],Px.OkI j):=by
         refine ⟨?_,fun j hj=>(List.mem_append.1 hj).elim (hr.out.2.2 j) (fun h=>by rw[List.mem_singleton.1 h];exact hoi)⟩
         rw[hr.out.2.1,Px.yb3 hw];cases Px.rdIs s1.length s1 with
         | none=>rfl
         | some q=>simp
        obtain ⟨x0,x1,x2,x3,xf,xl⟩:=qau S5.out.pg;obtain ⟨la,ln,lc,rfl⟩:=Ref.qad hr.out.1.l;clear HI t5 hR5 hw hoi hr hc1;generalize hA:(Obj.cells #[.int .i64 (i.k:Int),.int .i64 (i.a:Int),.int .i64 (i.b:Int)] 90)=A;have hW:Tch (fun _=>False) w5 (((w5.alloc A).alloc A).drew):=(((Tch.refl _ _).alloc _).alloc _).drew
        have O1:Hid ((((w5.alloc A).alloc A).drew).ownsRow w1.heap.size 90 3 (.slice la ln lc) L.length (Mk.qby L)):=qah S5.out.l hW (fun _ _ h=>h)
        have O2:Hid (∀ j u,[.int .i64 (i.k:Int),.int .i64 (i.a:Int),.int .i64 (i.b:Int)][j]?=some u→(((w5.alloc A).alloc A).drew).cell? ((⟨w5.heap.size+1,0,none⟩:Addr).add j)=some u):=Mk.zwx (t:=90) (by
         show ((w5.heap.push A).push A)[w5.heap.size+1]?=_
         rw[Ref.qdu,← hA])
        have O3:Hid (∀ u∈[Value.int .i64 (i.k:Int),.int .i64 (i.a:Int),.int .i64 (i.b:Int)],u.oneCell'=true):=by intro u hu;simp at hu;rcases hu with rfl | rfl | rfl<;>rfl
        have O4:Hid (L.length+1≤maxLen):=by unfold Hid maxLen;omega
        have O5:Hid ((L.length+1) * 24≤140737488355328):=by unfold Hid;omega
        have O6:Hid (w1.heap.size≤(((w5.alloc A).alloc A).drew).heap.size):=Nat.le_trans S5.out.b.size hW.size;have AQ:Hid (_):=S5.out.put i hW;subst hA;clear hW;go_wp2_with fail;go_region_law (refine qbh rfl _ _ 78 rfl w1.heap.size 90 i0 (.agg #[.int .i64 0,.int .i64 0,.int .i64 0]) 3 24 Tryz.underlying78 hi0 hz0 hz1 hz2 rfl (Nat.succ_pos 2) _ _ _ rfl O1.out _ 1 1 _ rfl rfl O2.out O3.out O4.out O5.out O6.out ?_;intro v' w6 hown' hgrow hloc;obtain ⟨a1,n1,k1,rfl,hp6,HN⟩:=AQ.out v' w6 hown' hgrow;obtain ⟨e0,e1,e2,e3,ef,el⟩:=qau hp6;clear hown' hgrow hloc hp6)
        all_goals go_wp2_with fail
        all_goals
         refine ⟨⟨L++[i],s1,_,?_,HN.out,HQ.out⟩,?_⟩
         ·rw[List.length_append];simp only[List.length_cons,List.length_nil];omega
         ·rw[zzu HN.out.rr];omega
  ·have hc:cutV c Px.qpu=.tuple #[.string ⟨c.toArray⟩,.bool false]:=if_neg hh;have hg:=yav hlong hh;rw[hc] at HC;generalize (⟨c.toArray⟩:ByteArray)=S at *;clear hh hc hlong;go_enter Tryz.func17,Tryz.ntmps17
   go_wp2_with fail;refine Calls.mono HC.out ?_;rintro e w1 ⟨rfl,rfl⟩;clear HC;go_wp2_with fail;go_ret2;exact ⟨(Below.refl _ _).alloc (Nat.le_refl _) _,Or.inr ⟨hg,_,rfl⟩⟩
open Go.RowKit
def tryI:Option Nat→Int
 | none=>-1
 | some q=>(q:Int)
def stC:Option Px.Vst→List Value
 | none=>[.bool false,.int .i64 0,.int .i64 0]
 | some s=>[.bool true,.int .i64 (s.1:Int),.int .i64 (tryI s.2)]
def stV (s:Px.Vst):Value:=.agg #[.bool true,.int .i64 (s.1:Int),.int .i64 (tryI s.2)]
theorem zyx (x:Option Px.Vst):(stC x).length=3:=by cases x<;>rfl
theorem yaz {S:List (Option Px.Vst)}:∀ {p:Nat} (_:p < S.length) (o:Nat),o < 3→(S.flatMap stC)[p * 3+o]?=(stC (Px.atV S p))[o]?:=by
 induction S with
 | nil=>intro p hp;cases hp
 | cons x S ih =>
  intro p hp o ho;have e1:(x::S).flatMap stC=stC x++S.flatMap stC:=rfl;cases p with
  | zero =>
   rw[e1,Nat.zero_mul,Nat.zero_add,List.getElem?_append_left (by rw[zyx];exact ho)]
   rfl
  | succ p =>
   rw[e1,List.getElem?_append_right (by rw[zyx];omega),zyx]
   have:=ih (p:=p) (by simpa using hp) o ho
   rw[show (p+1) * 3+o - 3=p * 3+o by omega,this]
   rfl
theorem ybl {S:List (Option Px.Vst)} (x:Option Px.Vst):∀ {p:Nat} (_:p < S.length),(S.set p x).flatMap stC=(((S.flatMap stC).set (p * 3) ((stC x)[0]'(by rw[zyx];decide))).set (p * 3+1) ((stC x)[1]'(by rw[zyx];decide))).set (p * 3+2) ((stC x)[2]'(by rw[zyx];decide)):=by
 induction S with
 | nil=>intro p hp;cases hp
 | cons y S ih =>
  intro p hp;cases p with
  | zero =>
   have e1:(y::S).flatMap stC=stC y++S.flatMap stC:=rfl;have e2:((y::S).set 0 x).flatMap stC=stC x++S.flatMap stC:=rfl;rw[e1,e2];cases x<;>cases y<;>rfl
  | succ p =>
   have e1:(y::S).flatMap stC=stC y++S.flatMap stC:=rfl;have e2:((y::S).set (p+1) x).flatMap stC=stC y++(S.set p x).flatMap stC:=rfl;rw[e1,e2,ih (p:=p) (by simpa using hp)]
   have hl:(stC y).length=3:=zyx y;rw[List.set_append_right _ _ (by rw[hl];omega),List.set_append_right _ _ (by rw[hl];omega),List.set_append_right _ _ (by rw[hl];omega),hl]
   rw[show (p+1) * 3 - 3=p * 3 by omega,show (p+1) * 3+1 - 3=p * 3+1 by omega,show (p+1) * 3+2 - 3=p * 3+2 by omega]
structure VfAt (w:World) (bv gs nt pp:Nat) (S:List (Option Px.Vst)):Prop where
 v:w.heap[bv]?=some (.cells (Value.pointer (some ⟨pp,0,none⟩)::(Rn.tabL nt++[.slice (some ⟨gs,0,none⟩) S.length S.length])).toArray 196)
 s:w.heap[gs]?=some (.cells (S.flatMap stC).toArray 198)
 ne:bv≠gs
 l:S.length≤1000000
theorem VfAt.slice {w:World} {bv gs nt pp:Nat} {S:List (Option Px.Vst)} (h:VfAt w bv gs nt pp S):w.cell? ⟨bv,81,none⟩=some (.slice (some ⟨gs,0,none⟩) S.length S.length):=by
 simp only[World.cell?,h.v];show (List.toArray _)[81]?=_
 rw[List.getElem?_toArray,List.getElem?_cons_succ,List.getElem?_append_right (by show 80≤80;decide)]
 rfl
theorem VfAt.state {w:World} {bv gs nt pp:Nat} {S:List (Option Px.Vst)} (h:VfAt w bv gs nt pp S) {p:Nat} (hp:p < S.length) (o:Nat) (ho:o < 3):w.cell? ⟨gs,p * 3+o,none⟩=(stC (Px.atV S p))[o]?:=by
 rw[← yaz hp o ho];simp[World.cell?,h.s]
theorem VfAt.free {w:World} {bv gs nt pp:Nat} {S:List (Option Px.Vst)} (h:VfAt w bv gs nt pp S):∀ o,w.frozen? ⟨gs,o,none⟩=false:=by
 intro o;simp[World.frozen?,h.s]
theorem VfAt.keep {w w':World} {bv gs nt pp:Nat} {S:List (Option Px.Vst)} (h:VfAt w bv gs nt pp S) (h1:w'.heap[bv]?=w.heap[bv]?) (h2:w'.heap[gs]?=w.heap[gs]?):VfAt w' bv gs nt pp S:=⟨h1.trans h.v,h2.trans h.s,h.ne,h.l⟩
theorem VfAt.set {w:World} {bv gs nt pp:Nat} {S:List (Option Px.Vst)} (h:VfAt w bv gs nt pp S) {p:Nat} (hp:p < S.length) (x:Px.Vst) :
  VfAt (((w.setCell ⟨gs,p * 3,none⟩ (.bool true)).setCell ⟨gs,p * 3+1,none⟩ (.int .i64 (x.1:Int))).setCell ⟨gs,p * 3+2,none⟩ (.int .i64 (tryI x.2))) bv gs nt pp (S.set p (some x)):=by
 refine ⟨?_,?_,h.ne,by rw[List.length_set];exact h.l⟩
 ·rw[Ref.qag _ h.ne,Ref.qag _ h.ne,Ref.qag _ h.ne,List.length_set];exact h.v
 ·rw[Ref.heap_set _ (Ref.heap_set _ (Ref.heap_set _ h.s)),ybl (some x) hp];simp only[List.setIfInBounds_toArray];rfl
open Go.RowKit
theorem zzf {a b:Option Nat} (h:tryI a=tryI b):a=b:=by
 cases a<;>cases b
 ·rfl
 ·simp only[tryI] at h;omega
 ·simp only[tryI] at h;omega
 ·simp only[tryI] at h;congr 1;omega
def Reached (w:World) (bv gs nt pp:Nat) (S:List (Option Px.Vst)) (R:Option (List (Option Px.Vst))) (e:Ending) (w':World):Prop :=
 e=.returned (.bool R.isSome)∧VfAt w' bv gs nt pp (R.getD S)∧Tch (·=gs) w w'
theorem yaf (bv gs nt pp p:Nat) (S:List (Option Px.Vst)) (s:Px.Vst) (w:World) (h:VfAt w bv gs nt pp S) (hp:p < S.length) :
  Calls Tryz.prog 165 #[.pointer (some ⟨bv,0,none⟩),.int .i64 (p:Int),stV s] w (Reached w bv gs nt pp S (Px.qbs S p s)):=by
 have c0:=h.slice;have hbv:bv < w.heap.size:=lt_of_block h.v;have hgs:gs < w.heap.size:=lt_of_block h.s;have ff:=h.free;have hne:=h.ne;have hne2:=h.ne.symm;have H:Hid (_):=h;have hp1:(p:Int) < (S.length:Int):=by omega
 have s0:=h.state hp 0 (by decide)
 have s1:=h.state hp 1 (by decide)
 have s2:=h.state hp 2 (by decide)
 rw[Nat.add_zero] at s0;unfold stV;obtain ⟨sh,st⟩:=s;cases hv:Px.atV S p with
 | none =>
  rw[hv] at s0 s1 s2;simp only[stC,List.getElem?_cons_zero,List.getElem?_cons_succ] at s0 s1 s2;have HS:Hid (Px.qbs S p (sh,st)=some (S.set p (some (sh,st)))):=by unfold Hid Px.qbs;rw[hv]
  clear h;generalize htI:tryI st=ti at *;go_enter Tryz.func165,Tryz.ntmps165
  go_wp2_with fail;go_region
  go_wp2_with fail;go_region
  go_wp2_with fail;go_ret;subst htI;refine ⟨by rw[HS.out];rfl,?_,?_⟩
  ·rw[HS.out];exact (H.out.set hp (sh,st)).keep (Below.heap_alloc _ _ _ (by simpa using hbv)) (Below.heap_alloc _ _ _ (by simpa using hgs))
  ·exact (((((Tch.refl (·=gs) w).setCell (p:=⟨gs,p * 3,none⟩) (Or.inl rfl) _).setCell (p:=⟨gs,p * 3+1,none⟩) (Or.inl rfl) _).setCell (p:=⟨gs,p * 3+2,none⟩) (Or.inl rfl) _).alloc _).drew.drew
 | some t =>
  obtain ⟨th,tt⟩:=t;rw[hv] at s0 s1 s2;simp only[stC,List.getElem?_cons_zero,List.getElem?_cons_succ] at s0 s1 s2;have HS:Hid (Px.qbs S p (sh,st)=if (th,tt)=(sh,st) then some S else none):=by unfold Hid Px.qbs;rw[hv]
  have HI:Hid (∀ {a b:Option Nat},tryI a=tryI b→a=b):=zzf;clear h;by_cases e1:th=sh
  ·subst e1;by_cases e2:tt=st
   ·subst e2;rw[if_pos rfl] at HS;generalize htI:tryI tt=ti at *;go_enter Tryz.func165,Tryz.ntmps165
    go_wp2_with fail;go_region
    go_wp2_with fail;go_ret;refine ⟨by rw[HS.out];rfl,?_,((Tch.refl _ _).alloc _).drew⟩
    rw[HS.out];exact H.out.keep (Below.heap_alloc _ _ _ hbv) (Below.heap_alloc _ _ _ hgs)
   ·rw[if_neg (by intro e;exact e2 (congrArg Prod.snd e))] at HS
    have hti:tryI tt≠tryI st:=fun e=>e2 (zzf e)
    have hti2:(tryI tt == tryI st)=false:=by rw[beq_eq_false_iff_ne];exact hti
    generalize tryI tt=ti at *;generalize tryI st=tj at *;go_enter Tryz.func165,Tryz.ntmps165
    go_wp2_with fail;go_region
    go_wp2_with fail;go_ret;refine ⟨by rw[HS.out];rfl,?_,((Tch.refl _ _).alloc _).drew⟩
    rw[HS.out];exact H.out.keep (Below.heap_alloc _ _ _ hbv) (Below.heap_alloc _ _ _ hgs)
  ·rw[if_neg (by intro e;exact e1 (congrArg Prod.fst e))] at HS
   have hti2:((th:Int) == (sh:Int))=false:=by rw[beq_eq_false_iff_ne];omega
   generalize tryI tt=ti at *;generalize tryI st=tj at *;go_enter Tryz.func165,Tryz.ntmps165
   go_wp2_with fail;go_region
   go_wp2_with fail;go_ret;refine ⟨by rw[HS.out];rfl,?_,((Tch.refl _ _).alloc _).drew⟩
   rw[HS.out];exact H.out.keep (Below.heap_alloc _ _ _ hbv) (Below.heap_alloc _ _ _ hgs)
theorem yay (b:Bool) (bv gs nt pp:Nat) (S:List (Option Px.Vst)) (s:Px.Vst) (w:World) (h:VfAt w bv gs nt pp S) (hq:∀ q,s.2=some q→q < S.length) :
  Calls Tryz.prog 133 #[.pointer (some ⟨bv,0,none⟩),.agg #[.bool b,.int .i64 (s.1:Int),.int .i64 (tryI s.2)]] w fun e w'=>e=.returned (.int .i64 (Px.qcg S s.2:Int))∧Tch (fun _=>False) w w':=by
 have c0:=h.slice;have hbv:bv < w.heap.size:=lt_of_block h.v;have hgs:gs < w.heap.size:=lt_of_block h.s;have H:Hid (_):=h;obtain ⟨sh,st⟩:=s;dsimp only at hq ⊢;cases st with
 | none =>
  clear h;go_enter Tryz.func133,Tryz.ntmps133
  unfold tryI;go_wp2_with fail;go_ret;exact ⟨rfl,(Tch.refl _ _).alloc _⟩
 | some q =>
  have hql:=hq q rfl;have hq1:(q:Int) < (S.length:Int):=by omega
  have hqn:((q:Int) == -1)=false:=by rw[beq_eq_false_iff_ne];omega
  have s1:=h.state hql 1 (by decide)
  obtain ⟨x,hx,hs1⟩:∃ x:Nat,Px.qcg S (some q)=x∧w.cell? ⟨gs,q * 3+1,none⟩=some (.int .i64 (x:Int)):=by
   unfold Px.qcg;cases hv:Px.atV S q with
   | none=>exact ⟨0,by simp only[hv],by rw[s1,hv];rfl⟩
   | some t=>exact ⟨t.1,by simp only[hv],by rw[s1,hv];rfl⟩
  rw[hx];clear h s1;go_enter Tryz.func133,Tryz.ntmps133
  unfold tryI;go_wp2_with fail;go_region
  go_wp2_with fail;go_ret;exact ⟨rfl,((Tch.refl _ _).alloc _).drew⟩
open Go.RowKit
theorem VfAt.tch {w w':World} {bv gs nt pp:Nat} {S:List (Option Px.Vst)} (h:VfAt w bv gs nt pp S) (t:Tch (fun _=>False) w w'):VfAt w' bv gs nt pp S :=
 h.keep (t.block _ (lt_of_block h.v) fun h=>h) (t.block _ (lt_of_block h.s) fun h=>h)
theorem zoh (k:Nat):Px.qdd k≤1:=by
 unfold Px.qdd;split
 ·omega
 ·split
  ·omega
  ·split
   ·omega
   ·split<;>omega
theorem al4d (w:World) (a b c d:Obj):Tch (fun _=>False) w ((((w.alloc a).alloc b).alloc c).alloc d).drew:=(((((Tch.refl _ w).alloc a).alloc b).alloc c).alloc d).drew
def Led (w:World) (bv gs nt pp:Nat) (R:Option (List (Option Px.Vst))) (e:Ending) (w':World):Prop :=
 e=.returned (.bool R.isSome)∧(∀ T,R=some T→VfAt w' bv gs nt pp T)∧Tch (·=gs) w w'
theorem zy6 {α:Type} {R:Option α} {S T:α} {P:α→Prop} (h:P (R.getD S)) (e:R=some T):P T:=by subst e;exact h
theorem zyz {S S':List (Option Px.Vst)} {p:Nat} {s:Px.Vst} (h:Px.qbs S p s=some S'):S'.length=S.length:=by
 unfold Px.qbs at h;split at h
 ·cases h;simp
 ·split at h
  ·cases h;rfl
  ·cases h
theorem ybf (bv gs nt pp p:Nat) (S:List (Option Px.Vst)) (k a c:Nat) (now:Px.Vst) (vn vd:Value) (w:World) (h:VfAt w bv gs nt pp S) (hp:p+1 < S.length) (hk:k < 20)
  (ha:12≤k→k≤16→a < S.length) (ht:Px.qbf k≤now.1) (hb:now.1≤1000000) (hq:k=16→∃ q t,now.2=some q∧q < S.length∧Px.atV S q=some t) (_ha16:a < 65536) (_hc16:c < 65536) (_hn1:vn.oneCell'=true) (_hd1:vd.oneCell'=true) :
  Calls Tryz.prog 135 #[.pointer (some ⟨bv,0,none⟩),.int .i64 (p:Int),.agg #[.int .i64 (k:Int),.int .i64 (a:Int),.int .i64 (c:Int)],.agg #[vn,.int .i64 (Px.qbf k:Int),.int .i64 (Px.qdd k:Int),vd],stV now] w
   (Led w bv gs nt pp (Px.znm S p ⟨k,a,c⟩ now)):=by
 obtain ⟨nh,nt'⟩:=now;dsimp only at ht hb hq;unfold stV;dsimp only;have H:Hid (_):=h;have hbv:bv < w.heap.size:=lt_of_block h.v;have hgs:gs < w.heap.size:=lt_of_block h.s;have hl:=h.l;have hg:Px.qdd k≤1:=zoh k;have hnx:(nh:Int)+((Px.qdd k:Int) - (Px.qbf k:Int))=((nh+Px.qdd k - Px.qbf k:Nat):Int):=by omega
 have REACH:Hid (∀ (S:List (Option Px.Vst)) (q:Nat) (s:Px.Vst) (W:World),VfAt W bv gs nt pp S→q < S.length→Calls Tryz.prog 165 #[.pointer (some ⟨bv,0,none⟩),.int .i64 (q:Int),.agg #[.bool true,.int .i64 (s.1:Int),.int .i64 (tryI s.2)]] W (Reached W bv gs nt pp S (Px.qbs S q s))):=fun S q s W h1 h2=>yaf bv gs nt pp q S s W h1 h2
 clear h;go_enter Tryz.func135,Tryz.ntmps135
 obtain ⟨NX,hNX⟩:∃ NX,nh+Px.qdd k - Px.qbf k=NX:=⟨_,rfl⟩;rw[hNX] at hnx;have hK14:k=14→1≤NX:=by intro e;subst e;rw[← hNX];have:Px.qdd 14=1:=rfl;have:Px.qbf 14=1:=rfl;omega
 generalize hTK:Px.qbf k=tk at *;generalize hGK:Px.qdd k=gk at *;by_cases h12:k=12
 ·have t12:((k:Int) == 12)=true:=by rw[h12];rfl
  go_wp2_with fail;refine Calls.mono (REACH.out S a (NX,nt') _ ?v (ha (by omega) (by omega))) ?_
  case v=>exact H.out.tch (((((Tch.refl (fun _=>False) w).alloc _).alloc _).alloc _).alloc _)
  rintro e w1 ⟨rfl,hv1,ht1⟩;have HV:Hid (VfAt w1 bv gs nt pp ((Px.qbs S a (NX,nt')).getD S)∧Tch (·=gs) w w1):=⟨hv1,(((((Tch.refl (·=gs) w).alloc _).alloc _).alloc _).alloc _).trans ht1⟩
  have HE:Hid (Px.znm S p ⟨k,a,c⟩ (nh,nt')=Px.qbs S a (NX,nt')):=by unfold Hid Px.znm;simp only[hGK,hTK,hNX];rw[if_pos h12]
  clear hv1 ht1;generalize Px.qbs S a (NX,nt')=R at *;go_wp2_with fail;go_ret;exact ⟨by rw[HE.out];rfl,fun T hT=>zy6 (P:=fun T=>VfAt w1 bv gs nt pp T) HV.out.1 (HE.out.symm.trans hT),HV.out.2⟩
 ·have t12:((k:Int) == 12)=false:=by rw[beq_eq_false_iff_ne];omega
  by_cases h13:k=13
  ·have t13:((k:Int) == 13)=true:=by rw[h13];rfl
   go_wp2_with fail;refine Calls.mono (REACH.out S a (NX,nt') _ ?v (ha (by omega) (by omega))) ?_
   case v=>exact H.out.tch (((((Tch.refl (fun _=>False) w).alloc _).alloc _).alloc _).alloc _)
   rintro e w1 ⟨rfl,hv1,ht1⟩;have HE:Hid (Px.znm S p ⟨k,a,c⟩ (nh,nt')=(Px.qbs S a (NX,nt')).bind fun S=>Px.qbs S (p+1) (NX,nt')):=by unfold Hid Px.znm;simp only[hGK,hTK,hNX];rw[if_neg h12,if_pos h13]
   have HT1:Hid (Tch (·=gs) w w1):=(((((Tch.refl (·=gs) w).alloc _).alloc _).alloc _).alloc _).trans ht1
   have hz1:w.heap.size+4≤w1.heap.size:=by have:=ht1.size;simp at this;omega
   obtain ⟨m0,m1,m2,mf⟩:=Mk.cells3 (w:=w1) (k:=w.heap.size+3) (a:=.bool true) (b:=.int .i64 ((NX,nt').1:Int)) (c:=.int .i64 (tryI (NX,nt').2)) (t:=198) (by
    rw[ht1.block (w.heap.size+3) (by simp) (by omega)]
    exact Lg.zqc (by simp))
   have hwb:w.heap.size+3 < w1.heap.size:=by omega
   cases hR:Px.qbs S a (NX,nt') with
   | none =>
    rw[hR] at HE;clear hv1 ht1;go_wp2_with fail;go_ret;exact ⟨by rw[HE.out];rfl,fun T hT=>absurd (HE.out.symm.trans hT) (by simp),HT1.out⟩
   | some S1 =>
    rw[hR] at hv1 HE;have HV:Hid (VfAt w1 bv gs nt pp S1):=hv1;have hl1:S1.length=S.length:=zyz hR;clear hv1 ht1;go_wp2_with fail;refine Calls.mono (REACH.out S1 (p+1) (NX,nt') _ ?v (by omega)) ?_
    case v=>exact HV.out
    rintro e w2 ⟨rfl,hv2,ht2⟩;have HV2:Hid (VfAt w2 bv gs nt pp ((Px.qbs S1 (p+1) (NX,nt')).getD S1)∧Tch (·=gs) w w2):=⟨hv2,HT1.out.trans ht2⟩
    have HE2:Hid (Px.znm S p ⟨k,a,c⟩ (nh,nt')=Px.qbs S1 (p+1) (NX,nt')):=HE.out;clear hv2 ht2;generalize Px.qbs S1 (p+1) (NX,nt')=R at *;cases R with
    | none =>
     go_wp2_with fail;go_ret;exact ⟨by rw[HE2.out];rfl,fun T hT=>absurd (HE2.out.symm.trans hT) (by simp),HV2.out.2⟩
    | some S2 =>
     go_wp2_with fail;go_ret;exact ⟨by rw[HE2.out];rfl,fun T hT=>zy6 (P:=fun T=>VfAt w2 bv gs nt pp T) HV2.out.1 (HE2.out.symm.trans hT),HV2.out.2⟩
  ·have t13:((k:Int) == 13)=false:=by rw[beq_eq_false_iff_ne];omega
   by_cases h14:k=14
   ·have t14:((k:Int) == 14)=true:=by rw[h14];rfl
    have h1:=hK14 h14;have hm1:(NX:Int) - 1=((NX - 1:Nat):Int):=by omega
    go_wp2_with fail;refine Calls.mono (REACH.out S a (NX - 1,nt') _ ?v (ha (by omega) (by omega))) ?_
    case v=>exact H.out.tch ((((((Tch.refl (fun _=>False) w).alloc _).alloc _).alloc _).alloc _).alloc _)
    rintro e w1 ⟨rfl,hv1,ht1⟩;have HE:Hid (Px.znm S p ⟨k,a,c⟩ (nh,nt')=(Px.qbs S a (NX - 1,nt')).bind fun S=>Px.qbs S (p+1) (NX,nt')):=by unfold Hid Px.znm;simp only[hGK,hTK,hNX];rw[if_neg h12,if_neg h13,if_pos h14]
    have HT1:Hid (Tch (·=gs) w w1):=((((((Tch.refl (·=gs) w).alloc _).alloc _).alloc _).alloc _).alloc _).trans ht1
    have hz1:w.heap.size+5≤w1.heap.size:=by have:=ht1.size;simp at this;omega
    obtain ⟨m0,m1,m2,mf⟩:=Mk.cells3 (w:=w1) (k:=w.heap.size+3) (a:=.bool true) (b:=.int .i64 ((NX,nt').1:Int)) (c:=.int .i64 (tryI (NX,nt').2)) (t:=198) (by
     rw[ht1.block (w.heap.size+3) (by simp) (by omega)]
     exact (Below.heap_alloc _ _ _ (by simp)).trans (Lg.zqc (by simp)))
    have hwb:w.heap.size+3 < w1.heap.size:=by omega
    cases hR:Px.qbs S a (NX - 1,nt') with
    | none =>
     rw[hR] at HE;clear hv1 ht1;go_wp2_with fail;go_ret;exact ⟨by rw[HE.out];rfl,fun T hT=>absurd (HE.out.symm.trans hT) (by simp),HT1.out⟩
    | some S1 =>
     rw[hR] at hv1 HE;have HV:Hid (VfAt w1 bv gs nt pp S1):=hv1;have hl1:S1.length=S.length:=zyz hR;clear hv1 ht1;go_wp2_with fail;refine Calls.mono (REACH.out S1 (p+1) (NX,nt') _ ?v (by omega)) ?_
     case v=>exact HV.out
     rintro e w2 ⟨rfl,hv2,ht2⟩;have HV2:Hid (VfAt w2 bv gs nt pp ((Px.qbs S1 (p+1) (NX,nt')).getD S1)∧Tch (·=gs) w w2):=⟨hv2,HT1.out.trans ht2⟩
     have HE2:Hid (Px.znm S p ⟨k,a,c⟩ (nh,nt')=Px.qbs S1 (p+1) (NX,nt')):=HE.out;clear hv2 ht2;generalize Px.qbs S1 (p+1) (NX,nt')=R at *;cases R with
     | none =>
      go_wp2_with fail;go_ret;exact ⟨by rw[HE2.out];rfl,fun T hT=>absurd (HE2.out.symm.trans hT) (by simp),HV2.out.2⟩
     | some S2 =>
      go_wp2_with fail;go_ret;exact ⟨by rw[HE2.out];rfl,fun T hT=>zy6 (P:=fun T=>VfAt w2 bv gs nt pp T) HV2.out.1 (HE2.out.symm.trans hT),HV2.out.2⟩
   ·have t14:((k:Int) == 14)=false:=by rw[beq_eq_false_iff_ne];omega
    by_cases h15:k=15
    ·have t15:((k:Int) == 15)=true:=by rw[h15];rfl
     go_wp2_with fail;refine Calls.mono (REACH.out S a (nh,nt') _ ?v (ha (by omega) (by omega))) ?_
     case v=>exact H.out.tch (((((Tch.refl (fun _=>False) w).alloc _).alloc _).alloc _).alloc _)
     rintro e w1 ⟨rfl,hv1,ht1⟩;have HE:Hid (Px.znm S p ⟨k,a,c⟩ (nh,nt')=(Px.qbs S a (nh,nt')).bind fun S=>Px.qbs S (p+1) (NX,some p)):=by unfold Hid Px.znm;simp only[hGK,hTK,hNX];rw[if_neg h12,if_neg h13,if_neg h14,if_pos h15]
     have HT1:Hid (Tch (·=gs) w w1):=(((((Tch.refl (·=gs) w).alloc _).alloc _).alloc _).alloc _).trans ht1
     have hz1:w.heap.size+4≤w1.heap.size:=by have:=ht1.size;simp at this;omega
     obtain ⟨m0,m1,m2,mf⟩:=Mk.cells3 (w:=w1) (k:=w.heap.size+3) (a:=.bool true) (b:=.int .i64 ((NX,some p).1:Int)) (c:=.int .i64 (tryI (NX,some p).2)) (t:=198) (by
      rw[ht1.block (w.heap.size+3) (by simp) (by omega)]
      exact Lg.zqc (by simp))
     have hwb:w.heap.size+3 < w1.heap.size:=by omega
     cases hR:Px.qbs S a (nh,nt') with
     | none =>
      rw[hR] at HE;clear hv1 ht1;go_wp2_with fail;go_ret;exact ⟨by rw[HE.out];rfl,fun T hT=>absurd (HE.out.symm.trans hT) (by simp),HT1.out⟩
     | some S1 =>
      rw[hR] at hv1 HE;have HV:Hid (VfAt w1 bv gs nt pp S1):=hv1;have hl1:S1.length=S.length:=zyz hR;clear hv1 ht1;go_wp2_with fail;refine Calls.mono (REACH.out S1 (p+1) (NX,some p) _ ?v (by omega)) ?_
      case v=>exact HV.out
      rintro e w2 ⟨rfl,hv2,ht2⟩;have HV2:Hid (VfAt w2 bv gs nt pp ((Px.qbs S1 (p+1) (NX,some p)).getD S1)∧Tch (·=gs) w w2):=⟨hv2,HT1.out.trans ht2⟩
      have HE2:Hid (Px.znm S p ⟨k,a,c⟩ (nh,nt')=Px.qbs S1 (p+1) (NX,some p)):=HE.out;clear hv2 ht2;generalize Px.qbs S1 (p+1) (NX,some p)=R at *;cases R with
      | none =>
       go_wp2_with fail;go_ret;exact ⟨by rw[HE2.out];rfl,fun T hT=>absurd (HE2.out.symm.trans hT) (by simp),HV2.out.2⟩
      | some S2 =>
       go_wp2_with fail;go_ret;exact ⟨by rw[HE2.out];rfl,fun T hT=>zy6 (P:=fun T=>VfAt w2 bv gs nt pp T) HV2.out.1 (HE2.out.symm.trans hT),HV2.out.2⟩
    ·have t15:((k:Int) == 15)=false:=by rw[beq_eq_false_iff_ne];omega
     by_cases h16:k=16
     ·have t16:((k:Int) == 16)=true:=by rw[h16];rfl
      obtain ⟨q,⟨th,tt⟩,rfl,hql,hqs⟩:=hq h16;have hq1:(q:Int) < (S.length:Int):=by omega
      have hI:tryI (some q)=(q:Int):=rfl;rw[hI];have c0:=H.out.slice;have s0:=H.out.state hql 0 (by decide)
      have s1:=H.out.state hql 1 (by decide)
      have s2:=H.out.state hql 2 (by decide)
      rw[hqs] at s0 s1 s2;rw[Nat.add_zero] at s0;simp only[stC,List.getElem?_cons_zero,List.getElem?_cons_succ] at s0 s1 s2;have HE:Hid (Px.znm S p ⟨k,a,c⟩ (nh,some q)=Px.qbs S a (th,tt)):=by
       unfold Hid Px.znm;simp only[hGK,hTK,hNX];rw[if_neg h12,if_neg h13,if_neg h14,if_neg h15,if_pos h16];simp only[Option.getD_some,hqs]
      have hne:=H.out.ne;have b1:bv < w.heap.size+1:=by omega
      have b2:bv < w.heap.size+1+1:=by omega
      have b3:bv < w.heap.size+1+1+1:=by omega
      have d1:gs < w.heap.size+1:=by omega
      have d2:gs < w.heap.size+1+1:=by omega
      have d3:gs < w.heap.size+1+1+1:=by omega
      have e1:bv < w.heap.size+2:=by omega
      have e2:bv < w.heap.size+3:=by omega
      have e3:gs < w.heap.size+2:=by omega
      have e4:gs < w.heap.size+3:=by omega
      have hapl:a < S.length:=ha (by omega) (by omega)
      have RW:Hid (∀ W,Tch (fun _=>False) w W→Calls Tryz.prog 165 #[.pointer (some ⟨bv,0,none⟩),.int .i64 (a:Int),.agg #[.bool true,.int .i64 (th:Int),.int .i64 (tryI tt)]] W (Reached W bv gs nt pp S (Px.qbs S a (th,tt)))):=fun W hW=>REACH.out S a (th,tt) W (H.out.tch hW) hapl
      go_wp2_with fail;go_region_with (go_at_call 165;refine Calls.mono (RW.out _ (al4d w _ _ _ _)) ?_;rintro e w1 ⟨rfl,hv1,ht1⟩)
      all_goals
       have HV:Hid (VfAt w1 bv gs nt pp ((Px.qbs S a (th,tt)).getD S)∧Tch (·=gs) w w1):=⟨hv1,(((((Tch.refl (·=gs) w).alloc _).alloc _).alloc _).alloc _).drew.trans ht1⟩
       clear hv1 ht1;generalize Px.qbs S a (th,tt)=R at *;go_wp2_with fail;go_ret;exact ⟨by rw[HE.out];rfl,fun T hT=>zy6 (P:=fun T=>VfAt w1 bv gs nt pp T) HV.out.1 (HE.out.symm.trans hT),HV.out.2⟩
     ·have t16:((k:Int) == 16)=false:=by rw[beq_eq_false_iff_ne];omega
      go_wp2_with fail;refine Calls.mono (REACH.out S (p+1) (NX,nt') _ ?v hp) ?_
      case v=>exact H.out.tch (((((Tch.refl (fun _=>False) w).alloc _).alloc _).alloc _).alloc _)
      rintro e w1 ⟨rfl,hv1,ht1⟩;have HV:Hid (VfAt w1 bv gs nt pp ((Px.qbs S (p+1) (NX,nt')).getD S)∧Tch (·=gs) w w1):=⟨hv1,(((((Tch.refl (·=gs) w).alloc _).alloc _).alloc _).alloc _).trans ht1⟩
      have HE:Hid (Px.znm S p ⟨k,a,c⟩ (nh,nt')=Px.qbs S (p+1) (NX,nt')):=by unfold Hid Px.znm;simp only[hGK,hTK,hNX];rw[if_neg h12,if_neg h13,if_neg h14,if_neg h15,if_neg h16]
      clear hv1 ht1;generalize Px.qbs S (p+1) (NX,nt')=R at *;go_wp2_with fail;go_ret;exact ⟨by rw[HE.out];rfl,fun T hT=>zy6 (P:=fun T=>VfAt w1 bv gs nt pp T) HV.out.1 (HE.out.symm.trans hT),HV.out.2⟩
open Go.RowKit
def zy4 (k m:Nat):Nat:=if k=18 then (if m=0 then 2 else 0) else if k=19 then 2 else if k=1∨k=2 then 1 else if 12≤k∧k≤16 then 3 else 0
theorem yb0 (k m:Nat):zy4 k m≤3:=by
 unfold zy4;split
 ·split<;>omega
 ·split
  ·omega
  ·split
   ·omega
   ·split<;>omega
def zyy (P:Px.Pg) (s x:Nat):Bool:=if s=1 then decide (x < P.nv) else if s=2 then decide (x < P.words.length) else if s=3 then decide (x < P.ins.length+1) else true
theorem yb7 (P:Px.Pg) (k a c:Nat):Px.fitV P ⟨k,a,c⟩=((Px.qfb k == 0 || zyy P (zy4 k 0) a) && (Px.qfb k != 2 || zyy P (zy4 k 1) c)):=by
 unfold Px.fitV zyy zy4 Px.qfb;dsimp only;by_cases h18:k=18
 ·subst h18;simp
 ·by_cases h19:k=19
  ·subst h19;simp
  ·by_cases h12:k=1∨k=2
   ·have h3:k≤2∨(12≤k∧k≤16)∨k=19:=by omega
    have h4:k≤2∨(12≤k∧k≤16):=by omega
    simp[h18,h19,h12,h4]
   ·by_cases h16:12≤k∧k≤16
    ·have h3:k≤2∨(12≤k∧k≤16)∨k=19:=by omega
     simp[h18,h19,h12,h16]
    ·simp[h18,h19,h12,h16]
def NeedAt (w:World) (ta:Option Addr) (k:Nat):Prop:=∀ m,m < Px.qfb k→∃ g,ta=some ⟨g,0,none⟩∧g < w.heap.size∧w.cell? ⟨g,m,none⟩=some (.int .i64 (zy4 k m:Int))
theorem yb8 (bv gs nt pp:Nat) (P:Px.Pg) (S:List (Option Px.Vst)) (k a c:Nat) (ta:Option Addr) (wa:Option Addr) (wc:Nat) (w:World) (h:VfAt w bv gs nt pp S) (hS:S.length=P.ins.length+1)
  (p0:w.cell? ⟨pp,0,none⟩=some (.slice wa P.words.length wc)) (p1:w.cell? ⟨pp,1,none⟩=some (.int .i64 (P.nv:Int))) (hn:NeedAt w ta k) (ha:a < 65536) (hc:c < 65536) :
  Calls Tryz.prog 134 #[.pointer (some ⟨bv,0,none⟩),.agg #[.int .i64 (k:Int),.int .i64 (a:Int),.int .i64 (c:Int)],.slice ta (Px.qfb k) (Px.qfb k)] w fun e w'=>e=.returned (.bool (Px.fitV P ⟨k,a,c⟩))∧Tch (fun _=>False) w w':=by
 have c81:=h.slice;have c0:w.cell? ⟨bv,0,none⟩=some (.pointer (some ⟨pp,0,none⟩)):=by simp[World.cell?,h.v]
 have hbv:bv < w.heap.size:=lt_of_block h.v;have hpp:pp < w.heap.size:=lt_of_cell p0;have hnd:=zg8 k;have HN:Hid (NeedAt w ta k):=hn;have HF:Hid (_):=yb7 P k a c;clear h hn;go_enter Tryz.func134,Tryz.ntmps134
 go_wp2;go_loop [12] (fun i=>∃ m:Nat,m≤Px.qfb k∧i=.int .i64 m∧Hid ((0 < m→zyy P (zy4 k 0) a=true)∧(1 < m→zyy P (zy4 k 1) c=true))) (fun i=>Px.qfb k - (intOf i).toNat)
 case atStart=>exact ⟨0,Nat.zero_le _,rfl,fun h=>by omega,fun h=>by omega⟩
 case round =>
  obtain ⟨m,hm,rfl,hr⟩:=hrel;by_cases hlt:m < Px.qfb k
  ·obtain ⟨g,rfl,hg,sg⟩:=HN.out m hlt;have hlt':(m:Int) < (Px.qfb k:Int):=by omega
   have hs3:=yb0 k m;obtain ⟨x,hx,hx16⟩:∃ x,(if m=0 then a else c)=x∧x < 65536:=⟨_,rfl,by split<;>assumption⟩
   obtain ⟨s,hs⟩:∃ s,zy4 k m=s:=⟨_,rfl⟩;rw[hs] at sg hs3;have key:zyy P s x=true→(0 < m+1→zyy P (zy4 k 0) a=true)∧(1 < m+1→zyy P (zy4 k 1) c=true):=by
    have hm2:m=0∨m=1:=by omega
    rcases hm2 with rfl | rfl
    ·obtain rfl:a=x:=by simpa using hx
     subst hs;exact fun h=>⟨fun _=>h,fun h=>by omega⟩
    ·obtain rfl:c=x:=by simpa using hx
     subst hs;exact fun h=>⟨fun _=>hr.out.1 (by omega),fun _=>h⟩
   have keyF:zyy P s x=false→Px.fitV P ⟨k,a,c⟩=false:=by
    intro hf;rw[HF.out];have hm2:m=0∨m=1:=by omega
    rcases hm2 with rfl | rfl
    ·obtain rfl:a=x:=by simpa using hx
     rw[hs,hf]
     have:(Px.qfb k == 0)=false:=by simp;omega
     simp[this]
    ·obtain rfl:c=x:=by simpa using hx
     rw[hs,hf]
     have:(Px.qfb k != 2)=false:=by simp;omega
     simp[this]
   have KEY:Hid (_):=And.intro key keyF;clear key keyF hs hr HF;have hm2:m=0∨m=1:=by omega
   have hcs:s=0∨s=1∨s=2∨s=3:=by omega
   rcases hm2 with rfl | rfl
   ·obtain rfl:a=x:=by simpa using hx
    go_wp2
    all_goals try (refine ⟨⟨1,by omega,rfl,KEY.out.1 ?_⟩,by simp[intOf];omega⟩;simp only[beq_iff_eq,beq_eq_false_iff_ne,ne_eq] at *;unfold zyy;(repeat' split)<;>first | rfl | (simp only[decide_eq_true_eq];omega) | omega)
    all_goals (
     go_ret;refine ⟨?_,(Tch.refl _ _).alloc _⟩;have hff:zyy P s a=false:=by
      simp only[beq_iff_eq,beq_eq_false_iff_ne,ne_eq] at *;unfold zyy;(repeat' split)<;>first | rfl | (simp only[decide_eq_false_iff_not];omega) | omega
     rw[KEY.out.2 hff];rfl)
   ·obtain rfl:c=x:=by simpa using hx
    go_wp2
    all_goals try (refine ⟨⟨2,by omega,rfl,KEY.out.1 ?_⟩,by simp[intOf];omega⟩;simp only[beq_iff_eq,beq_eq_false_iff_ne,ne_eq] at *;unfold zyy;(repeat' split)<;>first | rfl | (simp only[decide_eq_true_eq];omega) | omega)
    all_goals (
     go_ret;refine ⟨?_,(Tch.refl _ _).alloc _⟩;have hff:zyy P s c=false:=by
      simp only[beq_iff_eq,beq_eq_false_iff_ne,ne_eq] at *;unfold zyy;(repeat' split)<;>first | rfl | (simp only[decide_eq_false_iff_not];omega) | omega
     rw[KEY.out.2 hff];rfl)
  ·obtain rfl:m=Px.qfb k:=by omega
   have hne:¬ ((Px.qfb k:Int) < (Px.qfb k:Int)):=by omega
   go_wp2;go_ret;refine ⟨?_,(Tch.refl _ _).alloc _⟩;rw[HF.out];have h0:Px.qfb k=0∨Px.qfb k=1∨Px.qfb k=2:=by omega
   rcases h0 with h0 | h0 | h0<;>rw[h0] at hr ⊢
   ·rfl
   ·rw[hr.out.1 (by omega)];rfl
   ·rw[hr.out.1 (by omega),hr.out.2 (by omega)];rfl
open Go.RowKit
theorem ybz (n k:Nat) (hk:k < 20):∃ ta fn cap,(Rn.tabL n)[k * 4]?=some (.slice ta (Px.qfb k) (Px.qfb k))∧(Rn.tabL n)[k * 4+1]?=some (.int .i64 (Px.qbf k:Int))∧(Rn.tabL n)[k * 4+2]?=some (.int .i64 (Px.qdd k:Int))∧(Rn.tabL n)[k * 4+3]?=some (.func (.func fn) #[] cap):=by
 match k,hk with
 | 0,_=>exact ⟨_,_,_,rfl,rfl,rfl,rfl⟩
 | 1,_=>exact ⟨_,_,_,rfl,rfl,rfl,rfl⟩
 | 2,_=>exact ⟨_,_,_,rfl,rfl,rfl,rfl⟩
 | 3,_=>exact ⟨_,_,_,rfl,rfl,rfl,rfl⟩
 | 4,_=>exact ⟨_,_,_,rfl,rfl,rfl,rfl⟩
 | 5,_=>exact ⟨_,_,_,rfl,rfl,rfl,rfl⟩
 | 6,_=>exact ⟨_,_,_,rfl,rfl,rfl,rfl⟩
 | 7,_=>exact ⟨_,_,_,rfl,rfl,rfl,rfl⟩
 | 8,_=>exact ⟨_,_,_,rfl,rfl,rfl,rfl⟩
 | 9,_=>exact ⟨_,_,_,rfl,rfl,rfl,rfl⟩
 | 10,_=>exact ⟨_,_,_,rfl,rfl,rfl,rfl⟩
 | 11,_=>exact ⟨_,_,_,rfl,rfl,rfl,rfl⟩
 | 12,_=>exact ⟨_,_,_,rfl,rfl,rfl,rfl⟩
 | 13,_=>exact ⟨_,_,_,rfl,rfl,rfl,rfl⟩
 | 14,_=>exact ⟨_,_,_,rfl,rfl,rfl,rfl⟩
 | 15,_=>exact ⟨_,_,_,rfl,rfl,rfl,rfl⟩
 | 16,_=>exact ⟨_,_,_,rfl,rfl,rfl,rfl⟩
 | 17,_=>exact ⟨_,_,_,rfl,rfl,rfl,rfl⟩
 | 18,_=>exact ⟨_,_,_,rfl,rfl,rfl,rfl⟩
 | 19,_=>exact ⟨_,_,_,rfl,rfl,rfl,rfl⟩
 | k+20,hk=>exact absurd hk (by omega)
theorem VfAt.row {w:World} {bv gs nt pp:Nat} {S:List (Option Px.Vst)} (h:VfAt w bv gs nt pp S) {k o:Nat} {v:Value} (hk:k < 20) (ho:o < 4) (e:(Rn.tabL nt)[k * 4+o]?=some v):w.cell? ⟨bv,1+k * 4+o,none⟩=some v:=by
 simp only[World.cell?,h.v];show (List.toArray _)[1+k * 4+o]?=_
 rw[List.getElem?_toArray,show 1+k * 4+o=(k * 4+o)+1 by omega,List.getElem?_cons_succ,List.getElem?_append_left (by show _ < 80;omega)]
 exact e
theorem zyq {w W:World} {g o:Nat} {v:Value} (t:Tch (fun _=>False) w W) (h:w.cell? ⟨g,o,none⟩=some v):W.cell? ⟨g,o,none⟩=some v:=by
 have e:=t.block g (lt_of_cell h) fun h=>h
 simp only[World.cell?] at h ⊢;rw[e];exact h
theorem NeedAt.tch {w W:World} {ta:Option Addr} {k:Nat} (h:NeedAt w ta k) (t:Tch (fun _=>False) w W):NeedAt W ta k:=fun m hm=>by
 obtain ⟨g,e,hg,hc⟩:=h m hm;exact ⟨g,e,Nat.lt_of_lt_of_le hg t.size,zyq t hc⟩
def Kn (S:List (Option Px.Vst)) (p:Nat):Prop:=∀ q s,Px.atV S q=some s→s.1≤p∧∀ q',s.2=some q'→q' < p∧∃ t,Px.atV S q'=some t
def yco (w:World) (bv gs nt pp:Nat) (R:Option (List (Option Px.Vst))) (e:Ending) (w':World):Prop :=
 Tch (·=gs) w w'∧((R=none∧∃ s:ByteArray,s.size≠0∧e=.returned (.string s))∨∃ T,R=some T∧e=.returned (.string ⟨#[]⟩)∧VfAt w' bv gs nt pp T)
theorem ya6 (k:Nat):Px.qbf k≤2:=by
 unfold Px.qbf
 repeat' split
 all_goals omega
theorem al3d (w:World) (a b c:Obj):Tch (fun _=>False) w (((w.alloc a).alloc b).alloc c).drew∧(((w.alloc a).alloc b).alloc c).drew.heap[w.heap.size]?=some a∧(((w.alloc a).alloc b).alloc c).drew.heap[w.heap.size+1]?=some b∧(((w.alloc a).alloc b).alloc c).drew.heap[w.heap.size+1+1]?=some c:=by
 refine ⟨((((Tch.refl _ w).alloc a).alloc b).alloc c).drew,?_,?_,?_⟩
 ·exact ((((Tch.refl (fun _=>False) (w.alloc a)).alloc b).alloc c).block w.heap.size (by simp) fun h=>h).trans Lg.new1
 ·exact (((Tch.refl (fun _=>False) ((w.alloc a).alloc b)).alloc c).block (w.heap.size+1) (by simp) fun h=>h).trans Lg.new2
 ·have h:(((w.alloc a).alloc b).alloc c).heap[((w.alloc a).alloc b).heap.size]?=some c:=Lg.new1;have e:((w.alloc a).alloc b).heap.size=w.heap.size+1+1:=by simp
  rw[e] at h;exact h
theorem ybe (bv gs nt pp p:Nat) (P:Px.Pg) (S:List (Option Px.Vst)) (k a c:Nat) (wa:Option Addr) (wc:Nat) (w:World) (h:VfAt w bv gs nt pp S) (hS:S.length=P.ins.length+1) (hp:p+1 < S.length) (hK:Kn S p) (hk:k < 20) (ha:a < 65536) (hc:c < 65536)
  (p0:w.cell? ⟨pp,0,none⟩=some (.slice wa P.words.length wc)) (p1:w.cell? ⟨pp,1,none⟩=some (.int .i64 (P.nv:Int))) (hn:∀ ta,(Rn.tabL nt)[k * 4]?=some (.slice ta (Px.qfb k) (Px.qfb k))→NeedAt w ta k) :
  Calls Tryz.prog 92 #[.pointer (some ⟨bv,0,none⟩),.int .i64 (p:Int),.agg #[.int .i64 (k:Int),.int .i64 (a:Int),.int .i64 (c:Int)]] w (yco w bv gs nt pp (Px.qhl P S p ⟨k,a,c⟩)):=by
 have H:Hid (_):=h;have hbv:bv < w.heap.size:=lt_of_block h.v;have hgs:gs < w.heap.size:=lt_of_block h.s;have c81:=h.slice;obtain ⟨ta,fn,cap,e0,e1,e2,e3⟩:=ybz nt k hk;have r0:=h.row (o:=0) hk (by decide) e0
 have r1:=h.row (o:=1) hk (by decide) e1
 have r2:=h.row (o:=2) hk (by decide) e2
 have r3:=h.row (o:=3) hk (by decide) e3
 rw[Nat.add_zero] at r0;have HN:Hid (_):=hn ta e0;have hpl:p < S.length:=by omega
 have hp1:(p:Int) < (S.length:Int):=by omega
 have hk1:(k:Int) < 20:=by omega
 have s0:=h.state hpl 0 (by decide)
 have s1:=h.state hpl 1 (by decide)
 have s2:=h.state hpl 2 (by decide)
 rw[Nat.add_zero] at s0;have hl:=h.l;have hAC:∃ (kb:Bool) (nh:Nat) (tr:Option Nat),w.cell? ⟨gs,p * 3,none⟩=some (.bool kb)∧w.cell? ⟨gs,p * 3+1,none⟩=some (.int .i64 (nh:Int))∧w.cell? ⟨gs,p * 3+2,none⟩=some (.int .i64 (tryI tr))∧nh≤1000000∧(∀ q,tr=some q→q < S.length) ∧
   (kb=false→Px.qhl P S p ⟨k,a,c⟩=none)∧(kb=true→Px.atV S p=some (nh,tr)):=by
  cases hv:Px.atV S p with
  | none =>
   rw[hv] at s0 s1 s2;refine ⟨false,0,some 0,s0,s1,s2,by omega,fun q e=>(by cases e;omega),fun _=>?_,fun e=>(by cases e)⟩
   unfold Px.qhl;rw[hv]
  | some now =>
   rw[hv] at s0 s1 s2;obtain ⟨k1,k2⟩:=hK p now hv;exact ⟨true,now.1,now.2,s0,s1,s2,by omega,fun q e=>(by have:=(k2 q e).1;omega),fun e=>(by cases e),fun _=>rfl⟩
 clear s0 s1 s2;obtain ⟨kb,nh,tr,s0,s1,s2,hnh,htr,hF,hT⟩:=hAC;have HFT:Hid (_):=And.intro hF hT;have HFL:Hid (∀ W,Tch (fun _=>False) w W→Calls Tryz.prog 133 #[.pointer (some ⟨bv,0,none⟩),.agg #[.bool kb,.int .i64 (nh:Int),.int .i64 (tryI tr)]] W fun e w'=>e=.returned (.int .i64 (Px.qcg S tr:Int))∧Tch (fun _=>False) W w'):=fun W hW=>yay kb bv gs nt pp S (nh,tr) W (h.tch hW) htr
 have FIT:Hid (∀ W,Tch (fun _=>False) w W→Calls Tryz.prog 134 #[.pointer (some ⟨bv,0,none⟩),.agg #[.int .i64 (k:Int),.int .i64 (a:Int),.int .i64 (c:Int)],.slice ta (Px.qfb k) (Px.qfb k)] W fun e w'=>e=.returned (.bool (Px.fitV P ⟨k,a,c⟩))∧Tch (fun _=>False) W w'):=fun W hW =>
  yb8 bv gs nt pp P S k a c ta wa wc W (h.tch hW) hS (zyq hW p0) (zyq hW p1) ((hn ta e0).tch hW) ha hc
 have LEAD:Hid (∀ W,Tch (fun _=>False) w W→Px.fitV P ⟨k,a,c⟩=true→¬ nh < Px.qbf k+Px.qcg S tr→(k=16→∃ q,tr=some q)→Px.atV S p=some (nh,tr)→Calls Tryz.prog 135 #[.pointer (some ⟨bv,0,none⟩),.int .i64 (p:Int),.agg #[.int .i64 (k:Int),.int .i64 (a:Int),.int .i64 (c:Int)],.agg #[.slice ta (Px.qfb k) (Px.qfb k),.int .i64 (Px.qbf k:Int),.int .i64 (Px.qdd k:Int),.func (.func fn) #[] cap],.agg #[.bool true,.int .i64 (nh:Int),.int .i64 (tryI tr)]] W
   (Led W bv gs nt pp (Px.znm S p ⟨k,a,c⟩ (nh,tr)))):=fun W hW hf ht h16 hat =>
  ybf bv gs nt pp p S k a c (nh,tr) _ _ W (h.tch hW) hp hk (fun g1 g2=>by
   unfold Px.fitV at hf;dsimp only at hf;rw[if_neg (by omega),if_neg (by omega),if_pos ⟨g1,g2⟩] at hf
   rw[hS];exact of_decide_eq_true hf) (by show _≤nh;omega) hnh (fun e=>by
   obtain ⟨q,hq⟩:=h16 e;obtain ⟨k1,k2⟩:=(hK p _ hat).2 q hq;obtain ⟨t,ht⟩:=k2;exact ⟨q,t,hq,by omega,ht⟩) ha hc rfl rfl
 clear h hn e0 e1 e2 e3 hF hT htr HN;obtain ⟨tv,htv⟩:∃ tv,tryI tr=tv:=⟨_,rfl⟩;have HTV:Hid (_):=htv;rw[htv] at s2 HFL LEAD;clear htv;go_enter Tryz.func92,Tryz.ntmps92
 go_upto_region 1 with fail
 go_cut [7,8] (fun v7 v8 wc=>∃ br bn,v7=.pointer (some ⟨br,0,none⟩)∧v8=.pointer (some ⟨bn,0,none⟩)∧w.heap.size < br∧w.heap.size < bn∧br≠bn∧Hid (Tch (fun _=>False) w wc∧wc.heap[br]?=some (.cells #[.slice ta (Px.qfb k) (Px.qfb k),.int .i64 (Px.qbf k:Int),.int .i64 (Px.qdd k:Int),.func (.func fn) #[] cap] 84)∧wc.heap[bn]?=some (.cells #[.bool kb,.int .i64 (nh:Int),.int .i64 tv] 198)∧wc.heap[w.heap.size]?=some (.cells #[.int .i64 (k:Int),.int .i64 (a:Int),.int .i64 (c:Int)] 90)))
 case first =>
  have hbv1:bv < w.heap.size+1:=by omega
  have hgs1:gs < w.heap.size+1:=by omega
  go_region
  all_goals go_wp2_with fail
  all_goals go_meet
  ·obtain ⟨t,x0,x1,x2⟩:=al3d w (.cells #[.int .i64 (k:Int),.int .i64 (a:Int),.int .i64 (c:Int)] 90) (.cells #[.slice ta (Px.qfb k) (Px.qfb k),.int .i64 (Px.qbf k:Int),.int .i64 (Px.qdd k:Int),.func (.func fn) #[] cap] 84) (.cells #[.bool kb,.int .i64 (nh:Int),.int .i64 tv] 198);exact ⟨_,_,rfl,rfl,by omega,by omega,by omega,t,x1,x2,x0⟩
  ·obtain ⟨t,x0,x1,x2⟩:=al3d w (.cells #[.int .i64 (k:Int),.int .i64 (a:Int),.int .i64 (c:Int)] 90) (.cells #[.bool kb,.int .i64 (nh:Int),.int .i64 tv] 198) (.cells #[.slice ta (Px.qfb k) (Px.qfb k),.int .i64 (Px.qbf k:Int),.int .i64 (Px.qdd k:Int),.func (.func fn) #[] cap] 84);exact ⟨_,_,rfl,rfl,by omega,by omega,by omega,t,x2,x1,x0⟩
 case rest =>
  obtain ⟨br,bn,rfl,rfl,hbr,hbn,hne,HW⟩:=hcut;obtain ⟨n0,n1,n2,nf⟩:=Mk.cells3 HW.out.2.2.1;clear s0 s1 s2 r0 r1 r2 r3 c81 p0 p1;go_wp2_with fail;refine Calls.mono (HFL.out _ HW.out.1) ?_;rintro e w1 ⟨rfl,hT1⟩;obtain ⟨F,hFF⟩:∃ F,Px.qcg S tr=F:=⟨_,rfl⟩;rw[hFF];rw[hFF] at LEAD;have T1:Hid (Tch (fun _=>False) w w1∧w1.heap[br]?=some (.cells #[.slice ta (Px.qfb k) (Px.qfb k),.int .i64 (Px.qbf k:Int),.int .i64 (Px.qdd k:Int),.func (.func fn) #[] cap] 84)∧w1.heap[bn]?=some (.cells #[.bool kb,.int .i64 (nh:Int),.int .i64 tv] 198)∧w1.heap[w.heap.size]?=some (.cells #[.int .i64 (k:Int),.int .i64 (a:Int),.int .i64 (c:Int)] 90)):=by
   obtain ⟨x0,x1,x2,x3⟩:=HW.out;exact ⟨x0.trans hT1,(hT1.block _ (lt_of_block x1) fun h=>h).trans x1,(hT1.block _ (lt_of_block x2) fun h=>h).trans x2,(hT1.block _ (lt_of_block x3) fun h=>h).trans x3⟩
  clear hT1 HW HFL;cases kb with
  | false =>
   obtain ⟨m0,m1,m2,mf⟩:=Mk.cells3 T1.out.2.2.1;go_wp2_with fail;go_ret;exact ⟨T1.out.1.mono (fun _ _ h=>h.elim),Or.inl ⟨HFT.out.1 (by first | trivial | rfl),_,by decide,rfl⟩⟩
  | true =>
   have hat:=HFT.out.2 (by first | trivial | rfl)
   have HL:Hid (Px.qhl P S p ⟨k,a,c⟩=if !Px.fitV P ⟨k,a,c⟩ then none else if nh < Px.qbf k+F then none else if k=16∧(tr=none∨nh≠F) then none else Px.znm S p ⟨k,a,c⟩ (nh,tr)):=by
    unfold Hid Px.qhl;rw[hat];dsimp only;rw[hFF]
   obtain ⟨m0,m1,m2,mf⟩:=Mk.cells3 T1.out.2.2.1;obtain ⟨i0,i1,i2,if_⟩:=Mk.cells3 T1.out.2.2.2;have q0:w1.cell? ⟨br,0,none⟩=some (.slice ta (Px.qfb k) (Px.qfb k)):=by simp[World.cell?,T1.out.2.1]
   have HAT:Hid (_):=hat;clear hat HFT;go_wp2_with fail;refine Calls.mono (FIT.out _ T1.out.1) ?_;rintro e w2 ⟨rfl,hT2⟩;have T2:Hid (Tch (fun _=>False) w w2∧w2.heap[br]?=some (.cells #[.slice ta (Px.qfb k) (Px.qfb k),.int .i64 (Px.qbf k:Int),.int .i64 (Px.qdd k:Int),.func (.func fn) #[] cap] 84)∧w2.heap[bn]?=some (.cells #[.bool true,.int .i64 (nh:Int),.int .i64 tv] 198)∧w2.heap[w.heap.size]?=some (.cells #[.int .i64 (k:Int),.int .i64 (a:Int),.int .i64 (c:Int)] 90)):=by
    obtain ⟨x0,x1,x2,x3⟩:=T1.out;exact ⟨x0.trans hT2,(hT2.block _ (lt_of_block x1) fun h=>h).trans x1,(hT2.block _ (lt_of_block x2) fun h=>h).trans x2,(hT2.block _ (lt_of_block x3) fun h=>h).trans x3⟩
   clear hT2 T1 m0 m1 m2 mf i0 i1 i2 if_ q0 FIT;cases hf:Px.fitV P ⟨k,a,c⟩ with
   | false =>
    go_wp2_with fail;go_ret;exact ⟨T2.out.1.mono (fun _ _ h=>h.elim),Or.inl ⟨by rw[HL.out,hf];rfl,_,by decide,rfl⟩⟩
   | true =>
    have htk:=ya6 k;by_cases ht:nh < Px.qbf k+F
    ·have ht':(nh:Int) - (Px.qbf k:Int) < (F:Int):=by omega
     obtain ⟨m0,m1,m2,mf⟩:=Mk.cells3 T2.out.2.2.1;obtain ⟨i0,i1,i2,if_⟩:=Mk.cells3 T2.out.2.2.2;have q1:w2.cell? ⟨br,1,none⟩=some (.int .i64 (Px.qbf k:Int)):=by simp[World.cell?,T2.out.2.1]
     go_wp2_with fail;go_ret;exact ⟨T2.out.1.mono (fun _ _ h=>h.elim),Or.inl ⟨by rw[HL.out,hf,if_pos ht];rfl,_,by decide,rfl⟩⟩
    ·have ht':¬ (nh:Int) - (Px.qbf k:Int) < (F:Int):=by omega
     obtain ⟨m0,m1,m2,mf⟩:=Mk.cells3 T2.out.2.2.1;obtain ⟨i0,i1,i2,if_⟩:=Mk.cells3 T2.out.2.2.2;obtain ⟨q0,q1,q2,q3⟩:w2.cell? ⟨br,0,none⟩=some (.slice ta (Px.qfb k) (Px.qfb k))∧w2.cell? ⟨br,1,none⟩=some (.int .i64 (Px.qbf k:Int))∧w2.cell? ⟨br,2,none⟩=some (.int .i64 (Px.qdd k:Int))∧w2.cell? ⟨br,3,none⟩=some (.func (.func fn) #[] cap):=by simp[World.cell?,T2.out.2.1]
     by_cases hkk:k=16∧(tr=none∨nh≠F)
     ·obtain ⟨rfl,htn⟩:=hkk;have HLn:Hid (Px.qhl P S p ⟨16,a,c⟩=none):=by
       unfold Hid;rw[HL.out,hf,if_neg (show ¬ ((!true)=true) by decide),if_neg ht]
       exact if_pos (And.intro rfl htn)
      by_cases h1:tr=none
      ·obtain rfl:tv=-1:=by rw[← HTV.out,h1];rfl
       go_wp2_with fail;go_ret;exact ⟨T2.out.1.mono (fun _ _ h=>h.elim),Or.inl ⟨HLn.out,_,by decide,rfl⟩⟩
      ·have hnF:nh≠F:=htn.resolve_left h1;have htv1:(tv == -1)=false:=by
        rw[beq_eq_false_iff_ne,← HTV.out];cases tr with
        | none=>exact absurd rfl h1
        | some q=>simp only[tryI];omega
       have hnF':((nh:Int) == (F:Int))=false:=by rw[beq_eq_false_iff_ne];omega
       go_wp2_with fail;go_ret;exact ⟨T2.out.1.mono (fun _ _ h=>h.elim),Or.inl ⟨HLn.out,_,by decide,rfl⟩⟩
     ·have HLs:Hid (Px.qhl P S p ⟨k,a,c⟩=Px.znm S p ⟨k,a,c⟩ (nh,tr)):=by unfold Hid;rw[HL.out,hf,if_neg ht,if_neg hkk];rfl
      have L1:Hid (_):=LEAD.out w2 T2.out.1 hf ht (fun e=>by
       cases tr with
       | none=>exact absurd ⟨e,Or.inl rfl⟩ hkk
       | some q=>exact ⟨q,rfl⟩) HAT.out
      have hkk':((k:Int) == 16)=false∨(k=16∧(tv == -1)=false∧nh=F):=by
       by_cases h16:k=16
       ·refine Or.inr ⟨h16,?_,?_⟩
        ·rw[beq_eq_false_iff_ne,← HTV.out];cases tr with
         | none=>exact absurd ⟨h16,Or.inl rfl⟩ hkk
         | some q=>simp only[tryI];omega
        ·exact Classical.byContradiction fun g=>hkk ⟨h16,Or.inr g⟩
       ·exact Or.inl (by rw[beq_eq_false_iff_ne];omega)
      clear HL LEAD;rcases hkk' with h16 | ⟨rfl,htv1,rfl⟩
      ·go_wp2_with fail;refine Calls.mono L1.out ?_;rintro e w3 ⟨rfl,hV3,hT3⟩;have HX:Hid (Tch (·=gs) w w3∧∀ T,Px.znm S p ⟨k,a,c⟩ (nh,tr)=some T→VfAt w3 bv gs nt pp T):=⟨(T2.out.1.mono (fun _ _ h=>h.elim)).trans hT3,hV3⟩
       clear hV3 hT3 L1;obtain ⟨R,hR⟩:∃ R,Px.znm S p ⟨k,a,c⟩ (nh,tr)=R:=⟨_,rfl⟩;rw[hR] at HX HLs ⊢;clear hR;cases R with
       | none =>
        go_wp2_with fail;go_ret;exact ⟨HX.out.1,Or.inl ⟨HLs.out,_,by decide,rfl⟩⟩
       | some T =>
        go_wp2_with fail;go_ret;exact ⟨HX.out.1,Or.inr ⟨T,HLs.out,rfl,HX.out.2 T rfl⟩⟩
      ·go_wp2_with fail;refine Calls.mono L1.out ?_;rintro e w3 ⟨rfl,hV3,hT3⟩;have HX:Hid (Tch (·=gs) w w3∧∀ T,Px.znm S p ⟨16,a,c⟩ (nh,tr)=some T→VfAt w3 bv gs nt pp T):=⟨(T2.out.1.mono (fun _ _ h=>h.elim)).trans hT3,hV3⟩
       clear hV3 hT3 L1;obtain ⟨R,hR⟩:∃ R,Px.znm S p ⟨16,a,c⟩ (nh,tr)=R:=⟨_,rfl⟩;rw[hR] at HX HLs ⊢;clear hR;cases R with
       | none =>
        go_wp2_with fail;go_ret;exact ⟨HX.out.1,Or.inl ⟨HLs.out,_,by decide,rfl⟩⟩
       | some T =>
        go_wp2_with fail;go_ret;exact ⟨HX.out.1,Or.inr ⟨T,HLs.out,rfl,HX.out.2 T rfl⟩⟩
open Go.RowKit
def ybd (n k:Nat):Option Addr:=if k < 3 then some ⟨n+1+k,0,none⟩ else if 12≤k∧k≤16 then some ⟨n+4+k,0,none⟩ else if k=18 then some ⟨n+21,0,none⟩ else if k=19 then some ⟨n+22,0,none⟩ else none
theorem yac (n k:Nat) (hk:k < 20):(Rn.tabL n)[k * 4]?=some (.slice (ybd n k) (Px.qfb k) (Px.qfb k)):=by
 match k,hk with
 | 0,_=>rfl
 | 1,_=>rfl
 | 2,_=>rfl
 | 3,_=>rfl
 | 4,_=>rfl
 | 5,_=>rfl
 | 6,_=>rfl
 | 7,_=>rfl
 | 8,_=>rfl
 | 9,_=>rfl
 | 10,_=>rfl
 | 11,_=>rfl
 | 12,_=>rfl
 | 13,_=>rfl
 | 14,_=>rfl
 | 15,_=>rfl
 | 16,_=>rfl
 | 17,_=>rfl
 | 18,_=>rfl
 | 19,_=>rfl
 | k+20,hk=>exact absurd hk (by omega)
structure NB (W:World) (n:Nat):Prop where
 a:W.cell? ⟨n+1,0,none⟩=some (.int .i64 0)
 b:W.cell? ⟨n+2,0,none⟩=some (.int .i64 1)
 c:W.cell? ⟨n+3,0,none⟩=some (.int .i64 1)
 p:∀ j,j < 5→W.cell? ⟨n+16+j,0,none⟩=some (.int .i64 3)
 d:W.cell? ⟨n+21,0,none⟩=some (.int .i64 2)
 e:W.cell? ⟨n+21,1,none⟩=some (.int .i64 0)
 f:W.cell? ⟨n+22,0,none⟩=some (.int .i64 2)
theorem NB.need {W:World} {n:Nat} (h:NB W n) (k:Nat) (hk:k < 20):∀ ta,(Rn.tabL n)[k * 4]?=some (.slice ta (Px.qfb k) (Px.qfb k))→NeedAt W ta k:=by
 intro ta e;rw[yac n k hk] at e;obtain rfl:ybd n k=ta:=by injection e with e;injection e
 intro m hm;have one:∀ (g:Nat) (v:Int),ybd n k=some ⟨g,0,none⟩→Px.qfb k=1→W.cell? ⟨g,0,none⟩=some (.int .i64 v)→v=(zy4 k 0:Int)→∃ g,ybd n k=some ⟨g,0,none⟩∧g < W.heap.size∧W.cell? ⟨g,m,none⟩=some (.int .i64 (zy4 k m:Int)):=by
  intro g v e1 e2 e3 e4;obtain rfl:m=0:=by omega
  subst e4;exact ⟨g,e1,lt_of_cell e3,e3⟩
 match k,hk,hm,one with
 | 0,_,_,one=>exact one _ _ rfl rfl h.a rfl
 | 1,_,_,one=>exact one _ _ rfl rfl h.b rfl
 | 2,_,_,one=>exact one _ _ rfl rfl h.c rfl
 | 3,_,hm,_=>exact absurd hm (Nat.not_lt_zero _)
 | 4,_,hm,_=>exact absurd hm (Nat.not_lt_zero _)
 | 5,_,hm,_=>exact absurd hm (Nat.not_lt_zero _)
 | 6,_,hm,_=>exact absurd hm (Nat.not_lt_zero _)
 | 7,_,hm,_=>exact absurd hm (Nat.not_lt_zero _)
 | 8,_,hm,_=>exact absurd hm (Nat.not_lt_zero _)
 | 9,_,hm,_=>exact absurd hm (Nat.not_lt_zero _)
 | 10,_,hm,_=>exact absurd hm (Nat.not_lt_zero _)
 | 11,_,hm,_=>exact absurd hm (Nat.not_lt_zero _)
 | 12,_,_,one=>exact one _ _ rfl rfl (h.p 0 (by decide)) rfl
 | 13,_,_,one=>exact one _ _ rfl rfl (h.p 1 (by decide)) rfl
 | 14,_,_,one=>exact one _ _ rfl rfl (h.p 2 (by decide)) rfl
 | 15,_,_,one=>exact one _ _ rfl rfl (h.p 3 (by decide)) rfl
 | 16,_,_,one=>exact one _ _ rfl rfl (h.p 4 (by decide)) rfl
 | 17,_,hm,_=>exact absurd hm (Nat.not_lt_zero _)
 | 18,_,hm,_ =>
  have hm':m < 2:=hm;rcases (show m=0∨m=1 by omega) with rfl | rfl
  ·exact ⟨n+21,rfl,lt_of_cell h.d,h.d⟩
  ·exact ⟨n+21,rfl,lt_of_cell h.e,h.e⟩
 | 19,_,_,one=>exact one _ _ rfl rfl h.f rfl
 | k+20,hk,_,_=>exact absurd hk (by omega)
theorem zyr (b k o1:Nat) (hk:k≠b):∀ (vs:List Value) (o:Nat) (w1:World),(w1.setCells b o vs).cell? ⟨k,o1,none⟩=w1.cell? ⟨k,o1,none⟩:=by
 intro vs;induction vs with
 | nil=>intro o w1;rfl
 | cons v vs ih=>intro o w1;exact (ih _ _).trans (Rn.qb4 (fun e=>hk (congrArg Addr.block e).symm))
theorem NB.laid {W:World} {n:Nat} (h:NB W n) (vs:List Value):NB (W.setCells n 0 vs) n :=
 ⟨(zyr n _ _ (by omega) _ _ _).trans h.a,(zyr n _ _ (by omega) _ _ _).trans h.b,(zyr n _ _ (by omega) _ _ _).trans h.c,fun j hj=>(zyr n _ _ (by omega) _ _ _).trans (h.p j hj),(zyr n _ _ (by omega) _ _ _).trans h.d,(zyr n _ _ (by omega) _ _ _).trans h.e,(zyr n _ _ (by omega) _ _ _).trans h.f⟩
theorem blk7 (w:World) (a b c d e f g:Obj):let W:=(((((((w.alloc a).alloc b).alloc c).alloc d).alloc e).alloc f).alloc g)
  W.heap[w.heap.size]?=some a∧W.heap[w.heap.size+1]?=some b∧W.heap[w.heap.size+2]?=some c∧W.heap[w.heap.size+3]?=some d∧W.heap[w.heap.size+4]?=some e∧W.heap[w.heap.size+5]?=some f∧W.heap[w.heap.size+6]?=some g:=by
 intro W;have hW:W.heap=((((((w.heap.push a).push b).push c).push d).push e).push f).push g:=rfl;rw[hW];refine ⟨?_,?_,?_,?_,?_,?_,?_⟩<;>simp only[Array.getElem?_push,Array.size_push]<;>(repeat' split)<;>first | rfl | (exfalso;omega) | exact absurd trivial (by assumption)
theorem blk3 (w:World) (z a b c:Obj):((((w.alloc z).alloc a).alloc b).alloc c).heap[w.heap.size+1]?=some a∧((((w.alloc z).alloc a).alloc b).alloc c).heap[w.heap.size+2]?=some b∧((((w.alloc z).alloc a).alloc b).alloc c).heap[w.heap.size+3]?=some c:=by
 have hW:((((w.alloc z).alloc a).alloc b).alloc c).heap=(((w.heap.push z).push a).push b).push c:=rfl;rw[hW];refine ⟨?_,?_,?_⟩<;>simp only[Array.getElem?_push,Array.size_push]<;>(repeat' split)<;>first | rfl | (exfalso;omega) | exact absurd trivial (by assumption)
theorem zyt {W:World} {g:Nat} {C:Array Value} {t:TypeId} (h:W.heap[g]?=some (.cells C t)) (o:Nat):W.cell? ⟨g,o,none⟩=C[o]?:=by
 simp[World.cell?,h]
end Cd
end Go.Proofs.YtokkhhekekeokaaGreatDoor
