import Derived.Shelf.Strconv.Clone
import Derived.Test.YtokkhhekekeokaaGreatDoorC05
import Derived.Test.YtokkhhekekeokaaGreatDoorC21
set_option maxRecDepth 100000
set_option maxHeartbeats 4000000
namespace Go.Proofs.YtokkhhekekeokaaGreatDoor
open Go.RowKit Tryz
open Go.Shelf
def rE:Go.Shelf.Ren:=⟨fun | 316=>164 | n=>n,fun | 9=>9 | 3=>3 | 4=>4 | 37=>38 | 0=>0 | 127=>328 | 5=>5 | n=>n,fun | n=>n⟩
theorem wI:Go.Proofs.LaysM.n316 prog rE:={
 mixed:=by kernel_rfl
 f316:=func164.trans (congrArg some (by kernel_rfl))
 t0:=underlying0
 a0:=Tryz.isAgg0
 z0:=Tryz.sizeOf0
 v0:=Tryz.zeroValue0
 t3:=underlying3
 a3:=Tryz.isAgg3
 z3:=Tryz.sizeOf3
 v3:=Tryz.zeroValue3
 t4:=underlying4
 a4:=Tryz.isAgg4
 z4:=Tryz.sizeOf4
 v4:=Tryz.zeroValue4
 t9:=underlying9
 a9:=Tryz.isAgg9
 z9:=Tryz.sizeOf9
 v9:=Tryz.zeroValue9
 t37:=underlying38
 a37:=Tryz.isAgg38
 z37:=Tryz.sizeOf38
 v37:=Tryz.zeroValue38
 t127:=underlying328
 a127:=Tryz.isAgg328
 z127:=Tryz.sizeOf328
 v127:=Tryz.zeroValue328
 t5:=underlying5
 a5:=Tryz.isAgg5
 z5:=Tryz.sizeOf5
 v5:=Tryz.zeroValue5
 i0:=by kernel_rfl
 i3:=by kernel_rfl
 i4:=by kernel_rfl
 i5:=by kernel_rfl
 i9:=by kernel_rfl
 i37:=by kernel_rfl
 i127:=by kernel_rfl }
theorem YH (s:fq)(w:fu)(h:s.size<=10000000) :
  Calls prog 164 #[.string s] w fun e w'=>e=.returned (.string s)/\Below w.heap.size w w':=Any.stringslite_Clone wI s w (by omega)
namespace Mk
open Px Ref
def strCells (l:List fq):List fC:=l.map Value.string
variable {W w:fu}{l vs ws:List fq}
theorem NA {base:Nat}{va:Option Addr}{vn vc:Nat}(h:w.ownsRow base 9 1 (.slice va vn vc) l.length (strCells l)):vn=l.length/\l.length<=maxLen/\∀ i (hi:i < l.length),∃ g,va=some ⟨g,0,none⟩/\w.cell? ⟨g,i,none⟩=some (.string l[i]):=by
 rcases h.2 with ⟨h1,h2⟩ | ⟨g,cap,cur,h1,h2,h3,h4,h5,h6,h7⟩
 ·cases h1;exact ⟨h2.symm,by omega,fun i hi=>by omega⟩
 ·cases h1;refine ⟨rfl,by omega,fun i hi=>⟨g,rfl,?_⟩⟩
  have e:cur[i]?=(strCells l)[i]?:=by
   rw[<- h7,bC (by omega)];simp
  simp only[World.cell?,h3];rw[e];simp[strCells,hi]
theorem yD {k:IntKind}{a b:Int}(h:a=b):Ending.returned (.int k a)=.returned (.int k b):=by rw[h]
def uV (l:List fq)(x:fq):Int:=if iH l x then (fM l x:Int) else -1
variable {B b c k:Nat}
theorem YI {x:fq}(h:∀ i (_:i < k) (hl:i < l.length),(l[i].toList == x.toList)=false):iH l x=iH (l.drop k) x/\(iH l x=true->fM l x=k+fM (l.drop k) x):=by
 induction k generalizing l with
 | zero=>exact ⟨rfl,fun _=>by simp⟩
 | succ k ih =>
  cases l with
  | nil=>exact ⟨rfl,fun h=>by cases h⟩
  | cons v l =>
   have h0:=h 0 (by omega) (by simp)
   simp only[List.getElem_cons_zero] at h0;obtain ⟨i1,i2⟩:=ih (l:=l) fun i hi hl=>h (i+1) (by omega) (by simpa using hl)
   rw[iH,h0,Bool.false_or,List.drop_succ_cons,fM,if_neg (by simp[h0])]
   exact ⟨i1,fun hh=>by rw[i2 hh];omega⟩
theorem MH (l:List fq)(x:fq)(w:fu)(base:Nat)(va:Option Addr)(vn vc:Nat)(h:w.ownsRow base 9 1 (.slice va vn vc) l.length (strCells l)) :
  Calls prog 179 #[.slice va vn vc,.string x] w fun e w'=>e=.returned (.int .i64 (uV l x))/\w'=w:=by
 obtain ⟨rfl,hml,hcell⟩:=NA h;unfold maxLen at hml;have HC:Hid (_):=hcell;clear h hcell;go_enter func179,ntmps179
 go_wp2_with fail;go_loop [8] (fun i=>∃ k:Nat,k<=l.length/\i=.int .i64 k/\Hid (∀ i (_:i < k) (hl:i < l.length),(l[i].toList == x.toList)=false)) (fun i=>l.length - (intOf i).toNat)
 case atStart=>exact ⟨0,by omega,rfl,fun i hi _=>by omega⟩
 case round =>
  obtain ⟨k,hk,rfl,hv⟩:=hrel;by_cases hlt:k < l.length
  ·obtain ⟨g,rfl,hc⟩:=HC.o k hlt;have HB:Hid ((x.toList == l[k].toList)=(l[k].toList == x.toList)):=by unfold Hid;rw[bA,beq_iff_eq,beq_iff_eq];exact eq_comm
   cases hb:(x.toList == l[k].toList)
   ·go_wp2_with fail;refine ⟨⟨k+1,by omega,by go_num,fun i hi hl=>?_⟩,by simp[intOf];omega⟩
    by_cases e:i=k
    ·subst e;rw[<- HB.o];exact hb
    ·exact hv.o i (by omega) hl
   ·go_wp2_with fail;go_ret;refine ⟨yD ?_,rfl⟩;obtain ⟨e1,e2⟩:=YI hv.o;have hd:l.drop k=l[k]::l.drop (k+1):=cB hlt;have hh:iH l x=true:=by rw[e1,hd,iH,<- HB.o,hb];rfl
    unfold uV;rw[if_pos hh,e2 hh,hd,fM,if_pos (by rw[<- HB.o];exact hb)]
    simp
  ·go_wp2_with fail;go_ret;refine ⟨yD ?_,rfl⟩;obtain ⟨e1,_⟩:=YI hv.o;unfold uV;rw[if_neg];rw[e1,cZ (by omega)]
   simp[iH]
variable {p vl vv vw:fC}{t:TypeId}
theorem YJ (h:W.heap[b]?=some (.cells #[p] t)):∀ j u,[p][j]?=some u->W.cell? ((⟨b,0,none⟩:Addr).add j)=some u:=by
 intro j u hj;match j,hj with
 | 0,hj=>simp at hj;subst hj;simp[Addr.add,World.cell?,h]
theorem Sb (s:fq)(w:fu)(h:s.size<=10000000) :
  Calls prog 132 #[.string s] w fun e w'=>e=.returned (.string s)/\Below w.heap.size w w':=by
 go_enter func132,ntmps132
 go_wp2_with fail;refine (YH s _ h).mono ?_;rintro e w1 ⟨rfl,h1⟩;have H1:Hid (_):=h1;clear h1;go_wp2_with fail;go_ret;exact ⟨rfl,H1.o⟩
theorem YK:(prog.info? 9).map (fun i=>(i.zero,i.size,i.bytes))=some (some (.string ⟨#[]⟩),1,16):=by kernel_rfl
def Sc (B c o:Nat)(ws:List fq)(x:fq)(v:fC)(w:fu)(e:Ending)(w':fu):Prop :=
 e=.returned (.int .i64 (fM (gN ws x) x:Int)) /\
  ((iH ws x=true/\fO (fun _=>False) w w')\/(iH ws x=false/\∃ v' w3,w'=w3.setCell ⟨c,o,none⟩ v'/\w3.ownsRow B 9 1 v' (ws.length+1) (strCells (ws++[x]))/\fO (fun k=>v.ownBlock=some k) w w3/\(v'.ownBlock=v.ownBlock\/∃ n,v'.ownBlock=some n/\w.heap.size<=n/\n < w3.heap.size)))
theorem Af (B c o:Nat)(ws:List fq)(x:fq)(w:fu)(va:Option Addr)(vn vc:Nat)(hB:B<=w.heap.size)(hx:x.size<=10000000)(hl:ws.length<=10000000)(h0:w.cell? ⟨c,o,none⟩=some (.slice va vn vc))(hf:w.frozen? ⟨c,o,none⟩=false)(hne:(Value.slice va vn vc).ownBlock≠some c)(h:w.ownsRow B 9 1 (.slice va vn vc) ws.length (strCells ws)) :
  Calls prog 152 #[.pointer (some ⟨c,o,none⟩),.string x] w (Sc B c o ws x (.slice va vn vc) w):=by
 have hcz:c < w.heap.size:=lt_of_cell h0;have H:Hid (w.ownsRow B 9 1 (.slice va vn vc) ws.length (strCells ws)):=h;clear h;cases hh:iH ws x
 ·obtain ⟨i0,hi,hz0,hz1,hz2⟩:=info_parts YK;have EI:Hid (uV ws x=-1):=by unfold Hid uV;rw[hh];rfl
  have HH:Hid (iH ws x=false):=hh;clear hh;go_enter func152,ntmps152
  go_wp2_with fail;refine (MH ws x _ B _ _ _ H.o).mono ?_;rintro e w' ⟨rfl,rfl⟩;rw[EI.o];have CQ:Hid (∀ w1:fu,Below w'.heap.size w' w1 ->
    Hid ((w1.alloc (.cells #[.string x] 9)).ownsRow B 9 1 (.slice va vn vc) ws.length (strCells ws))/\Hid (∀ j u,[Value.string x][j]?=some u->(w1.alloc (.cells #[.string x] 9)).cell? ((⟨w1.heap.size,0,none⟩:Addr).add j)=some u)/\Hid (B<=(w1.alloc (.cells #[.string x] 9)).heap.size)/\w1.cell? ⟨c,o,none⟩=some (.slice va vn vc)/\c < w1.heap.size /\
    Hid (∀ v' w3,w3.ownsRow B 9 1 v' (ws.length+1) (strCells ws++[.string x])->(w1.alloc (.cells #[.string x] 9)).grownBy w3 (Value.slice va vn vc).ownBlock->(v'.ownBlock=(Value.slice va vn vc).ownBlock\/v'.ownBlock=some (w1.alloc (.cells #[.string x] 9)).heap.size) ->
     ∃ a1 c1,v'=.slice a1 (ws.length+1) c1/\w3.cell? ⟨c,o,none⟩=some (.slice va vn vc)/\w3.frozen? ⟨c,o,none⟩=false/\Hid (Sc B c o ws x (.slice va vn vc) w' (.returned (.int .i64 (ws.length:Int))) (w3.setCell ⟨c,o,none⟩ v')))):=by
   intro w1 hb1;have hT0:fO (fun _=>False) w' w1:=fO.below (fO.refl _ _) hb1
   have hT1:fO (fun _=>False) w' (w1.alloc (.cells #[.string x] 9)):=hT0.alloc _
   have hc1:w1.heap[c]?=w'.heap[c]?:=hT0.block c hcz (fun h=>h)
   refine ⟨gZ H.o hT1 (fun _ _ h=>h),?_,by have:=hT1.size;exact aP hB this,(aF (w:=w') (a:=⟨c,o,none⟩) hc1).trans h0,by have:=hT0.size;omega,?_⟩
   ·refine YJ (t:=9) ?_;show (w1.heap.push _)[w1.heap.size]?=_
    rw[aB,if_pos rfl]
   ·intro v' w3 hown hg hloc;have mH:fO (fun k=>(Value.slice va vn vc).ownBlock=some k) w' w3:=(hT1.mono fun _ _ h=>h.elim).grown hg fun k hk=>ak hk
    have hc3:w3.heap[c]?=w'.heap[c]?:=mH.block c hcz hne;have e1:strCells (ws++[x])=strCells ws++[.string x]:=by simp[strCells]
    have e2:fM (gN ws x) x=ws.length:=by unfold gN;rw[if_neg (by rw[HH.o];simp)];exact pB HH.o
    have hloc':v'.ownBlock=(Value.slice va vn vc).ownBlock\/∃ n,v'.ownBlock=some n/\w'.heap.size<=n/\n < w3.heap.size:=by
     rcases hloc with hl | hl
     ·exact ak hl
     ·exact ah ⟨_,hl,hT1.size,(hown.lt _ hl).2⟩
    have hN:Sc B c o ws x (.slice va vn vc) w' (.returned (.int .i64 (ws.length:Int))) (w3.setCell ⟨c,o,none⟩ v'):=⟨yD (by rw[e2]),ah ⟨HH.o,v',w3,rfl,by rw[e1];exact hown,mH,hloc'⟩⟩
    rcases hown.2 with ⟨rfl,h2⟩ | ⟨g,cap,cur,rfl,r⟩
    ·omega
    ·exact ⟨_,_,rfl,(aF (w:=w') (a:=⟨c,o,none⟩) hc3).trans h0,(bQ (w:=w') (a:=⟨c,o,none⟩) hc3).trans hf,hN⟩
  have O3:Hid (∀ u∈[Value.string x],u.oneCell'=true):=by intro u hu;simp at hu;subst hu;rfl
  have O4:Hid (ws.length+1<=maxLen):=by unfold Hid maxLen;omega
  have O5:Hid ((ws.length+1) * 16<=140737488355328):=by unfold Hid;omega
  go_wp2_with fail;go_region_law (first
   | (refine wR rfl _ _ 77 rfl B 9 i0 (.string ⟨#[]⟩) 1 16 underlying77 hi hz0 hz1 hz2 rfl (bZ 0) _ _ _ rfl O1.o _ 1 1 _ rfl rfl O2.o O3.o O4.o O5.o O6.o ?_;intro v' w3 hown' hgrow hloc;obtain ⟨a1,c1,rfl,hc3,hf3,HN⟩:=AQ.o v' w3 hown' hgrow hloc;clear hown' hgrow hloc)
   | (go_simp;go_wp2_with (go_at_call 132;refine (Sb x _ hx).mono ?_;rintro e w1 ⟨rfl,hb1⟩;obtain ⟨O1,O2,O6,hcc,hcz1,AQ⟩:=CQ.o w1 ⟨hb1.os,hb1.tape,hb1.output,hb1.size,hb1.block⟩;clear hb1)))
  all_goals
   go_wp2_with fail;go_ret;exact HN.o
 ·have EI:Hid (uV ws x=(fM ws x:Int)):=by unfold Hid uV;rw[hh];rfl
  have EJ:Hid (fM (gN ws x) x=fM ws x):=by unfold Hid gN;rw[if_pos hh]
  have HH:Hid (iH ws x=true):=hh;clear hh;go_enter func152,ntmps152
  go_wp2_with fail;refine (MH ws x _ B _ _ _ H.o).mono ?_;rintro e w' ⟨rfl,rfl⟩;rw[EI.o];go_wp2_with fail;go_ret;exact ⟨yD (by rw[EJ.o]),ak ⟨HH.o,fO.refl _ _⟩⟩
def qO (l:List Px.Ins):List fC:=l.flatMap fun i=>[.int .i64 (i.k:Int),.int .i64 (i.a:Int),.int .i64 (i.b:Int)]
theorem YL (l:List Px.Ins)(i:Px.Ins):qO (l++[i])=qO l++[.int .i64 (i.k:Int),.int .i64 (i.a:Int),.int .i64 (i.b:Int)]:=by simp[qO]
structure gH (w:fu)(B c:Nat)(L:List Px.Ins)(ws vs:List fq)(vl vw vv:fC):Prop where
 hB:B<=c
 at_:w.heap[c]?=some (.cells #[vl,vw,vv] 93)
 list:w.ownsRow B 90 3 vl L.length (qO L)
 fT:w.ownsRow B 9 1 vw ws.length (strCells ws)
 vars:w.ownsRow B 9 1 vv vs.length (strCells vs)
 sep:Sep B c w [vl,vw,vv]
variable {L:List Px.Ins}
theorem gH.lt (h:gH w B c L ws vs vl vw vv):c < w.heap.size:=(aG.1 h.at_).1
theorem cells3 {a b c:fC}(hh:w.heap[k]?=some (.cells #[a,b,c] t)) :
  w.cell? ⟨k,0,none⟩=some a/\w.cell? ⟨k,1,none⟩=some b/\w.cell? ⟨k,2,none⟩=some c/\∀ o,w.frozen? ⟨k,o,none⟩=false:=by
 refine ⟨?_,?_,?_,?_⟩<;>simp[World.cell?,World.frozen?,hh]
theorem gH.turn {w w3:fu}{B c o:Nat}{L:List Px.Ins}{ws vs:List fq}{vl vw vv v v':fC}(h:gH w B c L ws vs vl vw vv)(ho:[vl,vw,vv][o]?=some v)(hT:fO (fun k=>v.ownBlock=some k) w w3)(hloc:v'.ownBlock=v.ownBlock\/∃ n,v'.ownBlock=some n/\w.heap.size<=n/\n < w3.heap.size) :
  (w3.setCell ⟨c,o,none⟩ v').heap[c]?=some (.cells ((#[vl,vw,vv]:Array fC).setIfInBounds o v') 93)/\Below B w (w3.setCell ⟨c,o,none⟩ v')/\fO (fun k=>v.ownBlock=some k\/k=c) w (w3.setCell ⟨c,o,none⟩ v')/\v'.ownBlock≠some c/\Sep B c (w3.setCell ⟨c,o,none⟩ v') ([vl,vw,vv].set o v'):=by
 have kN:¬ v.ownBlock=some c:=fun e=>(h.sep.own v (bJ ho) c e).2.1 rfl
 have hc3:w3.heap[c]?=w.heap[c]?:=hT.block c h.lt kN;have oZ:fO (fun k=>v.ownBlock=some k\/k=c) w (w3.setCell ⟨c,o,none⟩ v'):=fO.setCell (T:=fun k=>v.ownBlock=some k\/k=c) (hT.mono fun k _ hk=>ak hk) (p:=⟨c,o,none⟩) (ak (ah rfl)) _
 have hBl:Below B w (w3.setCell ⟨c,o,none⟩ v'):=oZ.mY (by have:=h.lt;have:=h.hB;omega) fun k hk=>by
  rcases hk with hk | rfl
  ·exact (h.sep.own v (bJ ho) k hk).1
  ·exact h.hB
 have hloc':v'.ownBlock=v.ownBlock\/v'.ownBlock=none\/∃ n,v'.ownBlock=some n/\w.heap.size<=n/\n < (w3.setCell ⟨c,o,none⟩ v').heap.size:=by
  rcases hloc with hl | ⟨n,hl,h1,h2⟩
  ·exact ak hl
  ·exact ah (ah ⟨n,hl,h1,by simpa [World.setCell] using h2⟩)
 refine ⟨?_,hBl,oZ,?_,?_⟩
 ·rw[Ref.heap_set _ (hc3.trans h.at_)]
 ·intro e;rcases hloc with hl | ⟨n,hl,h1,h2⟩
  ·rw[hl] at e;exact kN e
  ·rw[hl] at e;cases e;have:=h.lt;omega
 ·have hB:B<=w.heap.size:=by have:=h.lt;have:=h.hB;omega
  match o,ho with
  | 0,ho=>simp at ho;subst ho;exact Sep.turn (A:=[]) (R:=[vw,vv]) h.sep oZ.size hB h.lt hloc'
  | 1,ho=>simp at ho;subst ho;exact Sep.turn (A:=[vl]) (R:=[vv]) h.sep oZ.size hB h.lt hloc'
  | 2,ho=>simp at ho;subst ho;exact Sep.turn (A:=[vl,vw]) (R:=[]) h.sep oZ.size hB h.lt hloc'
  | o+3,ho=>simp at ho
theorem gH.other {o j:Nat}{v u:fC}(h:gH w B c L ws vs vl vw vv)(ho:[vl,vw,vv][o]?=some v)(hj:[vl,vw,vv][j]?=some u)(hne:j≠o):∀ k,u.ownBlock=some k->¬ (v.ownBlock=some k\/k=c):=by
 intro k hk hh;rcases hh with hh | rfl
 ·exact h.sep.mem hj ho hne k hk hh
 ·exact (h.sep.own u (bJ hj) _ hk).2.1 rfl
theorem gH.same {w':fu}(h:gH w B c L ws vs vl vw vv)(hT:fO (fun _=>False) w w'):gH w' B c L ws vs vl vw vv/\Below B w w' :=
 ⟨⟨h.hB,by rw[hT.block c h.lt (fun h=>h)];exact h.at_,gZ h.list hT (fun _ _ h=>h),gZ h.fT hT (fun _ _ h=>h),gZ h.vars hT (fun _ _ h=>h),h.sep.world hT.size⟩,hT.mY (by have:=h.lt;have:=h.hB;omega) fun _ h=>h.elim⟩
def iM (B c:Nat)(L:List Px.Ins)(ws vs:List fq)(w w':fu):Prop:=Below B w w'/\∃ vl vw vv,gH w' B c L ws vs vl vw vv
theorem Dm (B c:Nat)(L:List Px.Ins)(ws vs:List fq)(x:fq)(vl vw vv:fC)(w:fu)(h:gH w B c L ws vs vl vw vv)(hx:x.size<=10000000)(hl:ws.length<=10000000) :
  Calls prog 153 #[.pointer (some ⟨c,0,none⟩),.string x] w fun e w'=>e=.returned (.int .i64 (fM (gN ws x) x:Int))/\iM B c L (gN ws x) vs w w':=by
 obtain ⟨c0,c1,c2,cf⟩:=cells3 h.at_;have hB:B<=w.heap.size:=by have:=h.lt;have:=h.hB;omega
 obtain ⟨a,n,k,rfl⟩:=jm h.fT;have hne:(Value.slice a n k).ownBlock≠some c:=fun e=>(h.sep.own (.slice a n k) (by simp) c e).2.1 rfl
 have H:Hid (_):=h;clear h;go_enter func153,ntmps153
 go_wp2_with fail;refine (Af B c 1 ws x _ a n k hB hx hl c1 (cf 1) hne H.o.fT).mono ?_;rintro e w1 ⟨rfl,h1⟩;have H1:Hid (_):=h1;clear h1;go_wp2_with fail;go_ret;refine ⟨rfl,?_⟩;rcases H1.o with ⟨hh,hT⟩ | ⟨hh,v',w3,rfl,hown,hT,hloc⟩
 ·obtain ⟨q1,q2⟩:=H.o.same hT;have e1:gN ws x=ws:=by unfold gN;rw[if_pos hh]
  rw[e1];exact ⟨q2,_,_,_,q1⟩
 ·obtain ⟨t1,t2,t3,t4,t5⟩:=H.o.turn (o:=1) rfl hT hloc;have e1:gN ws x=ws++[x]:=by unfold gN;rw[if_neg (by rw[hh];simp)]
  rw[e1];refine ⟨t2,vl,v',vv,H.o.hB,by rw[t1];rfl,gZ H.o.list t3 (H.o.other (o:=1) (j:=0) rfl rfl (by decide)),?_,gZ H.o.vars t3 (H.o.other (o:=1) (j:=2) rfl rfl (by decide)),t5⟩
  rw[ay];exact ownsRow_setCell_other hown (a:=⟨c,1,none⟩) t4 _
theorem zw (B c:Nat)(L:List Px.Ins)(ws vs:List fq)(x:fq)(vl vw vv:fC)(w:fu)(h:gH w B c L ws vs vl vw vv)(hx:x.size<=10000000)(hl:vs.length<=10000000) :
  Calls prog 105 #[.pointer (some ⟨c,0,none⟩),.string x] w fun e w'=>e=.returned (.int .i64 (fM (gN vs x) x:Int))/\iM B c L ws (gN vs x) w w':=by
 obtain ⟨c0,c1,c2,cf⟩:=cells3 h.at_;have hB:B<=w.heap.size:=by have:=h.lt;have:=h.hB;omega
 obtain ⟨a,n,k,rfl⟩:=jm h.vars;have hne:(Value.slice a n k).ownBlock≠some c:=fun e=>(h.sep.own (.slice a n k) (by simp) c e).2.1 rfl
 have H:Hid (_):=h;clear h;go_enter func105,ntmps105
 go_wp2_with fail;refine (Af B c 2 vs x _ a n k hB hx hl c2 (cf 2) hne H.o.vars).mono ?_;rintro e w1 ⟨rfl,h1⟩;have H1:Hid (_):=h1;clear h1;go_wp2_with fail;go_ret;refine ⟨rfl,?_⟩;rcases H1.o with ⟨hh,hT⟩ | ⟨hh,v',w3,rfl,hown,hT,hloc⟩
 ·obtain ⟨q1,q2⟩:=H.o.same hT;have e1:gN vs x=vs:=by unfold gN;rw[if_pos hh]
  rw[e1];exact ⟨q2,_,_,_,q1⟩
 ·obtain ⟨t1,t2,t3,t4,t5⟩:=H.o.turn (o:=2) rfl hT hloc;have e1:gN vs x=vs++[x]:=by unfold gN;rw[if_neg (by rw[hh];simp)]
  rw[e1];refine ⟨t2,vl,vw,v',H.o.hB,by rw[t1];rfl,gZ H.o.list t3 (H.o.other (o:=2) (j:=0) rfl rfl (by decide)),gZ H.o.fT t3 (H.o.other (o:=2) (j:=1) rfl rfl (by decide)),?_,t5⟩
  rw[ay];exact ownsRow_setCell_other hown (a:=⟨c,2,none⟩) t4 _
theorem YM:(prog.info? 90).map (fun i=>(i.zero,i.size,i.bytes))=some (some (.agg #[.int .i64 0,.int .i64 0,.int .i64 0]),3,24):=by kernel_rfl
theorem Sd:(prog.info? 3).map (·.size)=some 1:=by kernel_rfl
theorem YN (w:fu)(c c':Array fC)(t:TypeId):(w.alloc (.cells c t)).setRow w.heap.size c'=w.alloc (.cells c' t):=by
 have:(w.heap.push (.cells c t)).modify w.heap.size (fun
   | .cells _ elem frozen=>.cells c' elem frozen
   | o=>o)=w.heap.push (.cells c' t):=by
  apply Array.ext_getElem?
  intro i;rw[Array.getElem?_modify,aB,aB];by_cases h:i=w.heap.size
  ·subst h;simp
  ·rw[if_neg (fun e=>h e.symm),if_neg h,if_neg h]
 exact congrArg (fun h=>({ w with heap:=h }:fu)) this
theorem gH.zsd (h:gH w B c L ws vs vl vw vv)(i:Px.Ins)(hW:fO (fun _=>False) w W) :
  ∀ v' w3,w3.ownsRow B 90 3 v' (L.length+1) (qO L++[.int .i64 (i.k:Int),.int .i64 (i.a:Int),.int .i64 (i.b:Int)])->W.grownBy w3 vl.ownBlock->(v'.ownBlock=vl.ownBlock\/v'.ownBlock=some W.heap.size) ->
   ∃ a1 n1 c1,v'=.slice a1 n1 c1/\w3.heap[c]?=some (.cells #[vl,vw,vv] 93)/\Hid (iM B c (L++[i]) ws vs w (w3.setCell ⟨c,0,none⟩ v')):=by
 intro v' w3 hown hg hloc;obtain ⟨a1,n1,c1,rfl⟩:=jm hown;have hT:fO (fun k=>vl.ownBlock=some k) w w3:=(hW.mono fun _ _ h=>h.elim).grown hg fun k hk=>ak hk
 have kN:¬ vl.ownBlock=some c:=fun e=>(h.sep.own vl (by simp) c e).2.1 rfl
 have hloc':(Value.slice a1 n1 c1).ownBlock=vl.ownBlock\/∃ n,(Value.slice a1 n1 c1).ownBlock=some n/\w.heap.size<=n/\n < w3.heap.size:=by
  rcases hloc with hl | hl
  ·exact ak hl
  ·exact ah ⟨_,hl,hW.size,(hown.lt _ hl).2⟩
 obtain ⟨t1,t2,t3,t4,t5⟩:=h.turn (o:=0) rfl hT hloc';refine ⟨a1,n1,c1,rfl,(hT.block c h.lt kN).trans h.at_,t2,.slice a1 n1 c1,vw,vv,h.hB,by rw[t1];rfl,?_,gZ h.fT t3 (h.other (o:=0) (j:=1) rfl rfl (by decide)),gZ h.vars t3 (h.other (o:=0) (j:=2) rfl rfl (by decide)),t5⟩
 rw[ay,YL];exact ownsRow_setCell_other hown (a:=⟨c,0,none⟩) t4 _
theorem Sg {q r:fC}(h:W.heap[b]?=some (.cells #[p,q,r] t)):∀ j u,[p,q,r][j]?=some u->W.cell? ((⟨b,0,none⟩:Addr).add j)=some u:=by
 intro j u hj;match j,hj with
 | 0,hj=>simp at hj;subst hj;simp[Addr.add,World.cell?,h]
 | 1,hj=>simp at hj;subst hj;simp[Addr.add,World.cell?,h]
 | 2,hj=>simp at hj;subst hj;simp[Addr.add,World.cell?,h]
theorem Si (B c k x y m:Nat)(sa:Option Addr)(sn sc:Nat)(L:List Px.Ins)(ws vs:List fq)(vl vw vv:fC)(w:fu)(h:gH w B c L ws vs vl vw vv)(hl:L.length<=10000000)(hcp:(Builtin.copy_ #[22,22] 3 #[.slice (some ⟨w.heap.size,1,none⟩) 2 2,.slice sa sn sc]).run prog (w.alloc (.cells #[.int .i64 (k:Int),.int .i64 0,.int .i64 0] 90))=.ok (goInt m) (w.alloc (.cells #[.int .i64 (k:Int),.int .i64 (x:Int),.int .i64 (y:Int)] 90))) :
  Calls prog 104 #[.pointer (some ⟨c,0,none⟩),.int .i64 (k:Int),.slice sa sn sc] w fun e w'=>e=.returned (.tuple #[])/\iM B c (L++[⟨k,x,y⟩]) ws vs w w':=by
 obtain ⟨c0,c1,c2,cf⟩:=cells3 h.at_;have hB:B<=w.heap.size:=by have:=h.lt;have:=h.hB;omega
 have hcz:=h.lt;obtain ⟨a,n,cp,rfl⟩:=jm h.list;obtain ⟨i0,hi,hz0,hz1,hz2⟩:=info_parts YM;generalize hA:(Obj.cells #[.int .i64 (k:Int),.int .i64 (x:Int),.int .i64 (y:Int)] 90)=A;have hW:fO (fun _=>False) w (((w.alloc A).alloc A).drew):=(((fO.refl _ _).alloc _).alloc _).drew
 have O1:Hid ((((w.alloc A).alloc A).drew).ownsRow B 90 3 (.slice a n cp) L.length (qO L)):=gZ h.list hW (fun _ _ h=>h)
 have O2:Hid (∀ j u,[.int .i64 (k:Int),.int .i64 (x:Int),.int .i64 (y:Int)][j]?=some u->(((w.alloc A).alloc A).drew).cell? ((⟨w.heap.size+1,0,none⟩:Addr).add j)=some u):=Sg (t:=90) (by
  show ((w.heap.push A).push A)[w.heap.size+1]?=_
  rw[wV,<- hA])
 have O3:Hid (∀ u∈[Value.int .i64 (k:Int),.int .i64 (x:Int),.int .i64 (y:Int)],u.oneCell'=true):=by intro u hu;simp at hu;rcases hu with rfl | rfl | rfl<;>rfl
 have O4:Hid (L.length+1<=maxLen):=by unfold Hid maxLen;omega
 have O5:Hid ((L.length+1) * 24<=140737488355328):=by unfold Hid;omega
 have O6:Hid (B<=(((w.alloc A).alloc A).drew).heap.size):=by
  show B<=((w.heap.push A).push A).size
  simp;omega
 have AQ:Hid (_):=h.zsd ⟨k,x,y⟩ hW;subst hA;clear hW h;go_enter func104,ntmps104
 go_wp2_with fail;go_region_law (refine wR rfl _ _ 78 rfl B 90 i0 (.agg #[.int .i64 0,.int .i64 0,.int .i64 0]) 3 24 underlying78 hi hz0 hz1 hz2 rfl (bZ 2) _ _ _ rfl O1.o _ 1 1 _ rfl rfl O2.o O3.o O4.o O5.o O6.o ?_;intro v' w3 hown' hgrow hloc;obtain ⟨a1,n1,k1,rfl,hc3,HN⟩:=AQ.o v' w3 hown' hgrow hloc;obtain ⟨e0,e1,e2,ef⟩:=cells3 hc3;clear hown' hgrow hloc hc3)
 all_goals
  go_wp2_with fail;go_end0
  exact ⟨rfl,HN.o⟩
theorem BR (B c k:Nat)(L:List Px.Ins)(ws vs:List fq)(vl vw vv:fC)(w:fu)(h:gH w B c L ws vs vl vw vv)(hl:L.length<=10000000) :
  Calls prog 104 #[.pointer (some ⟨c,0,none⟩),.int .i64 (k:Int),.slice none 0 0] w fun e w'=>e=.returned (.tuple #[])/\iM B c (L++[⟨k,0,0⟩]) ws vs w w' :=
 Si B c k 0 0 0 none 0 0 L ws vs vl vw vv w h hl (run_copy_nil (P:=prog) _ _ _ _ 3 _ _ _ underlying22 (by rw[Sd];rfl))
theorem zlz (B c k x g:Nat)(L:List Px.Ins)(ws vs:List fq)(vl vw vv:fC)(w:fu)(h:gH w B c L ws vs vl vw vv)(hl:L.length<=10000000)(hg:w.cell? ⟨g,0,none⟩=some (.int .i64 (x:Int))) :
  Calls prog 104 #[.pointer (some ⟨c,0,none⟩),.int .i64 (k:Int),.slice (some ⟨g,0,none⟩) 1 1] w fun e w'=>e=.returned (.tuple #[])/\iM B c (L++[⟨k,x,0⟩]) ws vs w w':=by
 refine Si B c k x 0 1 _ _ _ L ws vs vl vw vv w h hl ?_;have hgz:g < w.heap.size:=lt_of_cell hg;rw[run_copy_row (P:=prog) _ _ _ _ 3 w.heap.size 1 2 2 ⟨g,0,none⟩ 1 1 #[.int .i64 (k:Int),.int .i64 0,.int .i64 0] 90 [.int .i64 (x:Int)] underlying22 Sd (by show (w.heap.push _)[w.heap.size]?=_;rw[aB,if_pos rfl]) rfl ?_ (by simp) (by intro v hv;simp at hv;subst hv;rfl),YN]
 ·rfl
 ·intro j v hj;match j,hj with
  | 0,hj =>
   simp at hj;subst hj;rw[show (⟨g,0,none⟩:Addr).add 0=⟨g,0,none⟩ from rfl];exact (aF (w:=w) (a:=⟨g,0,none⟩) (aD w _ g hgz)).trans hg
theorem zly (B c k x y g:Nat)(L:List Px.Ins)(ws vs:List fq)(vl vw vv:fC)(w:fu)(h:gH w B c L ws vs vl vw vv)(hl:L.length<=10000000)(hg:w.cell? ⟨g,0,none⟩=some (.int .i64 (x:Int)))(hg1:w.cell? ⟨g,1,none⟩=some (.int .i64 (y:Int))) :
  Calls prog 104 #[.pointer (some ⟨c,0,none⟩),.int .i64 (k:Int),.slice (some ⟨g,0,none⟩) 2 2] w fun e w'=>e=.returned (.tuple #[])/\iM B c (L++[⟨k,x,y⟩]) ws vs w w':=by
 refine Si B c k x y 2 _ _ _ L ws vs vl vw vv w h hl ?_;have hgz:g < w.heap.size:=lt_of_cell hg;rw[run_copy_row (P:=prog) _ _ _ _ 3 w.heap.size 1 2 2 ⟨g,0,none⟩ 2 2 #[.int .i64 (k:Int),.int .i64 0,.int .i64 0] 90 [.int .i64 (x:Int),.int .i64 (y:Int)] underlying22 Sd (by show (w.heap.push _)[w.heap.size]?=_;rw[aB,if_pos rfl]) rfl ?_ (by simp) (by intro v hv;simp at hv;rcases hv with rfl | rfl<;>rfl),YN]
 ·rfl
 ·intro j v hj;match j,hj with
  | 0,hj =>
   simp at hj;subst hj;rw[show (⟨g,0,none⟩:Addr).add 0=⟨g,0,none⟩ from rfl];exact (aF (w:=w) (a:=⟨g,0,none⟩) (aD w _ g hgz)).trans hg
  | 1,hj =>
   simp at hj;subst hj;rw[show (⟨g,0,none⟩:Addr).add 1=⟨g,1,none⟩ from rfl];exact (aF (w:=w) (a:=⟨g,1,none⟩) (aD w _ g hgz)).trans hg1
theorem gH.len {a:Option Addr}{n:Nat}(h:gH w B c L ws vs (.slice a n k) vw vv):n=L.length:=by
 rcases h.list.2 with ⟨h1,h2⟩ | ⟨g,cap,cur,h1,_⟩
 ·cases h1;exact h2.symm
 ·cases h1;rfl
theorem YO (B c:Nat)(L:List Px.Ins)(ws vs:List fq)(vl vw vv:fC)(w:fu)(h:gH w B c L ws vs vl vw vv) :
  Calls prog 180 #[.pointer (some ⟨c,0,none⟩)] w fun e w'=>e=.returned (.int .i64 (L.length:Int))/\w'=w:=by
 obtain ⟨c0,c1,c2,cf⟩:=cells3 h.at_;obtain ⟨a,n,k,rfl⟩:=jm h.list;obtain rfl:=h.len;clear h;go_enter func180,ntmps180
 go_wp2_with fail;go_ret;exact ⟨rfl,rfl⟩
theorem F6 (B c k:Nat)(L:List Px.Ins)(ws vs:List fq)(vl vw vv:fC)(w:fu)(h:gH w B c L ws vs vl vw vv)(hl:L.length<=10000000) :
  Calls prog 154 #[.pointer (some ⟨c,0,none⟩),.int .i64 (k:Int)] w fun e w'=>e=.returned (.int .i64 (L.length:Int))/\iM B c (L++[⟨k,0,0⟩]) ws vs w w':=by
 have H:Hid (_):=h;clear h;go_enter func154,ntmps154
 go_wp2_with fail;refine (BR B c k L ws vs vl vw vv _ H.o hl).mono ?_;rintro e w1 ⟨rfl,b1,lD,oL,oM,h1⟩;have H1:Hid (_/\_):=⟨b1,h1⟩;clear b1 h1;go_wp2_with fail;refine (YO B c _ ws vs lD oL oM _ H1.o.2).mono ?_;rintro e w' ⟨rfl,rfl⟩;have e1:((L++[(⟨k,0,0⟩:Px.Ins)]).length:Int)=(L.length:Int)+1:=by simp
 rw[e1];go_wp2_with fail;go_ret;exact ⟨yD (by omega),H1.o.1,_,_,_,H1.o.2⟩
def nY (L:List Px.Ins)(at_:Nat):List Px.Ins:=L.modify at_ fun i=>{ i with a:=L.length }
theorem JB (L:List Px.Ins)(at_:Nat):(nY L at_).length=L.length:=by simp[nY]
theorem qv8 (L:List Px.Ins)(n v:Nat)(h:n < L.length):(qO L).set (n * 3+1) (.int .i64 (v:Int))=qO (L.modify n fun i=>{ i with a:=v }):=by
 induction L generalizing n with
 | nil=>simp at h
 | cons i L ih =>
  cases n with
  | zero=>simp[qO]
  | succ n =>
   have e:(n+1) * 3+1=(n * 3+1)+3:=by omega
   have:=ih n (by simpa using h)
   rw[e];show [Value.int .i64 (i.k:Int),.int .i64 (i.a:Int),.int .i64 (i.b:Int)]++(qO L).set (n * 3+1) (.int .i64 (v:Int))=_
   rw[this];rfl
theorem F7 (B c n:Nat)(L:List Px.Ins)(ws vs:List fq)(vl vw vv:fC)(w:fu)(h:gH w B c L ws vs vl vw vv)(hn:n < L.length) :
  Calls prog 155 #[.pointer (some ⟨c,0,none⟩),.int .i64 (n:Int)] w fun e w'=>e=.returned (.tuple #[])/\iM B c (nY L n) ws vs w w':=by
 obtain ⟨c0,c1,c2,cf⟩:=cells3 h.at_;obtain ⟨h1,h2⟩:=h.list;rcases h2 with ⟨_,h2⟩ | ⟨g,cap,cur,rfl,hg,hh,hnc,hcm,hcs,htk⟩
 ·omega
 ·have hcell:∃ u,w.cell? ⟨g,n * 3+1,none⟩=some u:=by
   have hlt:n * 3+1 < cur.size:=by omega
   exact ⟨cur[n * 3+1],by simp[World.cell?,hh,hlt]⟩
  obtain ⟨u,hcell⟩:=hcell;have hfr:∀ o,w.frozen? ⟨g,o,none⟩=false:=fun o=>by simp[World.frozen?,hh]
  obtain ⟨hd,_⟩:=h.same (fO.refl (fun _=>False) w).drew
  have hst:=(hd.list.stored (n * 3+1) (.int .i64 (L.length:Int))).1;have hT:fO (·=g) w (w.drew.setCell ⟨g,n * 3+1,none⟩ (.int .i64 (L.length:Int))):=fO.setCell (T:=(·=g)) (fO.refl _ _).drew (p:=⟨g,n * 3+1,none⟩) (ak rfl) _
  have hgo:=h.sep.own (.slice (some ⟨g,0,none⟩) L.length cap) (by simp) g rfl
  have hoth:∀ j u,j≠0->[(.slice (some ⟨g,0,none⟩) L.length cap),vw,vv][j]?=some u->∀ k,u.ownBlock=some k->¬ k=g:=by
   intro j u hj hu k hk e;subst e;exact h.sep.mem hu (show [(.slice (some ⟨k,0,none⟩) L.length cap),vw,vv][0]?=some _ from rfl) hj k hk rfl
  have hM:iM B c (nY L n) ws vs w (w.drew.setCell ⟨g,n * 3+1,none⟩ (.int .i64 (L.length:Int))):=by
   refine ⟨hT.mY (by have:=h.lt;have:=h.hB;omega) (fun k hk=>by rw[hk];exact hgo.1),_,_,_,h.hB,?_,?_,gZ h.fT hT (hoth 1 _ (by decide) rfl),gZ h.vars hT (hoth 2 _ (by decide) rfl),h.sep.world hT.size⟩
   ·rw[hT.block c h.lt (fun e=>hgo.2.1 e.symm)];exact h.at_
   ·rw[JB];unfold nY;rw[<- qv8 L n L.length hn];exact hst
  have HM:Hid (_/\_):=⟨hM,hd⟩;have hnc3:(L.length:Nat)<=9223372036854775807:=by unfold maxLen at hcm;omega
  clear hM h hd hst hT hgo hoth hh hcs htk h1;go_enter func155,ntmps155
  go_wp2_with fail;go_region_with (go_at_call 180;refine (YO B c L ws vs _ _ _ _ HM.o.2).mono ?_;rintro e w' ⟨rfl,rfl⟩)
  all_goals
   go_end0
   exact ⟨rfl,HM.o.1⟩
end Mk
namespace Px
open Lg
theorem zhv {op:Nat}:pR op=4+jd op:=by
 unfold pR jd
 repeat' split
 all_goals rfl
theorem AV (x:Ex):iY x<=lU x:=by
 match x with
 | ⟨op,n,fD,pl,own,none,r⟩=>rw[iY,lU];omega
 | ⟨op,n,fD,pl,own,some l,none⟩ =>
  have:=AV l
  rw[iY,lU];omega
 | ⟨op,n,fD,pl,own,some l,some r⟩ =>
  have:=AV l
  have:=AV r
  rw[iY,lU];omega
theorem F8 (ws:List fq)(x:fq):(gN ws x).length<=ws.length+1:=by
 unfold gN;split<;>simp
theorem Eh (x:Ex)(vs:List fq):(jU x vs).length<=vs.length+lU x:=by
 match x with
 | ⟨op,n,fD,pl,own,none,r⟩ =>
  have:=F8 vs fD
  rw[jU,lU];split<;>omega
 | ⟨op,n,fD,pl,own,some l,none⟩ =>
  have:=Eh l vs
  rw[jU,lU];omega
 | ⟨op,n,fD,pl,own,some l,some r⟩ =>
  have h1:=Eh l vs
  have:=Eh r (jU l vs)
  rw[jU,lU];omega
end Px
namespace Mk
open Lg Px
structure Gk (w:fu)(B:Nat):Prop where
 tab:∀ j,j < 7->w.cell? ⟨13,j,none⟩=some (.int .i64 ((4+j:Nat):Int))
 lo:17<=B
variable {w:fu}
theorem Gk.below {w':fu}{B:Nat}(g:Gk w B)(h:Below B w w'):Gk w' B :=
 ⟨fun j hj=>by rw[aF (w:=w) (a:=⟨13,j,none⟩) (h.block _ (by have:=g.lo;show 13 < B;omega))];exact g.tab j hj,g.lo⟩
theorem quq (v:fC)(w:fu):(Instr.typeAssert (.iface 277 v) 230 277 true).run prog w=.ok (.tuple #[v,.bool true]) w:=by kernel_rfl
theorem qwz (v:fC)(w:fu):(Instr.typeAssert (.iface 288 v) 230 277 true).run prog w=.ok (.tuple #[.pointer none,.bool false]) w:=by kernel_rfl
theorem qyv (v:fC)(w:fu):(Instr.typeAssert (.iface 288 v) 230 288 true).run prog w=.ok (.tuple #[v,.bool true]) w:=by kernel_rfl
theorem qqn (v:fC)(w:fu):(Instr.typeAssert (.iface 228 v) 230 277 true).run prog w=.ok (.tuple #[.pointer none,.bool false]) w:=by kernel_rfl
theorem qqx (v:fC)(w:fu):(Instr.typeAssert (.iface 228 v) 230 288 true).run prog w=.ok (.tuple #[.pointer none,.bool false]) w:=by kernel_rfl
theorem qm9 (v:fC)(w:fu):(Instr.typeAssert (.iface 228 v) 230 228 true).run prog w=.ok (.tuple #[v,.bool true]) w:=by kernel_rfl
theorem zd9 (v:fC)(w:fu):(Instr.typeAssert (.iface 291 v) 230 277 true).run prog w=.ok (.tuple #[.pointer none,.bool false]) w:=by kernel_rfl
theorem zka (v:fC)(w:fu):(Instr.typeAssert (.iface 291 v) 230 288 true).run prog w=.ok (.tuple #[.pointer none,.bool false]) w:=by kernel_rfl
theorem qw0 (v:fC)(w:fu):(Instr.typeAssert (.iface 291 v) 230 228 true).run prog w=.ok (.tuple #[.pointer none,.bool false]) w:=by kernel_rfl
theorem zvl (v:fC)(w:fu):(Instr.typeAssert (.iface 291 v) 230 291 true).run prog w=.ok (.tuple #[v,.bool true]) w:=by kernel_rfl
theorem qyw (v:fC)(w:fu):(Instr.typeAssert (.iface 294 v) 230 277 true).run prog w=.ok (.tuple #[.pointer none,.bool false]) w:=by kernel_rfl
theorem zd8 (v:fC)(w:fu):(Instr.typeAssert (.iface 294 v) 230 288 true).run prog w=.ok (.tuple #[.pointer none,.bool false]) w:=by kernel_rfl
theorem qup (v:fC)(w:fu):(Instr.typeAssert (.iface 294 v) 230 228 true).run prog w=.ok (.tuple #[.pointer none,.bool false]) w:=by kernel_rfl
theorem zpi (v:fC)(w:fu):(Instr.typeAssert (.iface 294 v) 230 291 true).run prog w=.ok (.tuple #[.pointer none,.bool false]) w:=by kernel_rfl
theorem zj9 (v:fC)(w:fu):(Instr.typeAssert (.iface 294 v) 230 294 true).run prog w=.ok (.tuple #[v,.bool true]) w:=by kernel_rfl
variable {k:Nat}{a b:fC}{t:TypeId}
theorem YP (hh:w.heap[k]?=some (.cells #[a] t)):w.cell? ⟨k,0,none⟩=some a/\∀ o,w.frozen? ⟨k,o,none⟩=false:=by
 refine ⟨?_,?_⟩<;>simp[World.cell?,World.frozen?,hh]
theorem sQ (hh:w.heap[k]?=some (.cells #[a,b] t)):w.cell? ⟨k,0,none⟩=some a/\w.cell? ⟨k,1,none⟩=some b/\∀ o,w.frozen? ⟨k,o,none⟩=false:=by
 refine ⟨?_,?_,?_⟩<;>simp[World.cell?,World.frozen?,hh]
theorem YQ {c d:fC}(hh:w.heap[k]?=some (.cells #[a,b,c,d] t)):w.cell? ⟨k,0,none⟩=some a/\w.cell? ⟨k,1,none⟩=some b/\w.cell? ⟨k,2,none⟩=some c/\w.cell? ⟨k,3,none⟩=some d/\∀ o,w.frozen? ⟨k,o,none⟩=false:=by
 refine ⟨?_,?_,?_,?_,?_⟩<;>simp[World.cell?,World.frozen?,hh]
theorem Bu (x:Bool)(w:fu):Calls prog 62 #[.bool x] w fun e w'=>e=.returned (.int .i64 (if x then 1 else 0))/\w'=w:=by
 cases x
 all_goals
  go_enter func62,ntmps62
  go_wp2;go_ret;exact ⟨rfl,rfl⟩
theorem wJ (B c k x:Nat)(L:List Px.Ins)(ws vs:List fq)(vl vw vv:fC)(w:fu)(h:gH w B c L ws vs vl vw vv)(hl:L.length<=10000000) :
  Calls prog 104 #[.pointer (some ⟨c,0,none⟩),.int .i64 (k:Int),.slice (some ⟨w.heap.size,0,none⟩) 1 1] (w.alloc (.cells #[.int .i64 (x:Int)] 3)) fun e w'=>e=.returned (.tuple #[])/\iM B c (L++[⟨k,x,0⟩]) ws vs w w':=by
 obtain ⟨h1,b1⟩:=h.same ((fO.refl (fun _=>False) w).alloc (.cells #[.int .i64 (x:Int)] 3))
 refine (zlz B c k x w.heap.size L ws vs vl vw vv _ h1 hl (YP Lg.new1).1).mono ?_;rintro e w' ⟨rfl,b2,h2⟩;exact ⟨rfl,b1.trans b2,h2⟩
def Sj (B c:Nat)(VV:List fq)(x:Px.Ex):Prop:=∀ (w:fu) (L:List Px.Ins) (ws vs:List fq) (vl vw vv:fC) (tl ql:Nat),
 jv w x (· < B) (.iface tl (Ref.ptr ql))->gH w B c L ws vs vl vw vv->Gk w B->jU x vs <+: VV->L.length+lU x<=10000000->vs.length+lU x<=10000000 ->
 Calls prog 103 #[.pointer (some ⟨c,0,none⟩),.iface tl (.pointer (some ⟨ql,0,none⟩))] w fun e w'=>e=.returned (.tuple #[])/\iM B c (L++jo (fM VV) x) ws (jU x vs) w w'
theorem qyh (B c n q:Nat)(own:fC)(L:List Px.Ins)(ws vs:List fq)(vl vw vv:fC)(w:fu)(hM:gH w B c L ws vs vl vw vv)(h4:w.heap[q]?=some (.cells #[.int .i64 (n:Int),own] 287))(hl:L.length<=10000000) :
  Calls prog 103 #[.pointer (some ⟨c,0,none⟩),.iface 277 (.pointer (some ⟨q,0,none⟩))] w fun e w'=>e=.returned (.tuple #[])/\iM B c (L++[⟨0,n,0⟩]) ws vs w w':=by
 have HM:Hid (gH w B c L ws vs vl vw vv):=hM;obtain ⟨c0,c1,cf⟩:=sQ h4;have f1:=quq;clear hM h4;go_enter func103,ntmps103
 go_wp2_with fail;refine (wJ B c 0 n L ws vs vl vw vv w HM.o hl).mono ?_;rintro e w' ⟨rfl,h1⟩;go_wp2_with fail;go_end0
 exact ⟨rfl,h1⟩
theorem zdh (B c q:Nat)(x:Bool)(L:List Px.Ins)(ws vs:List fq)(vl vw vv:fC)(w:fu)(hM:gH w B c L ws vs vl vw vv)(h4:w.heap[q]?=some (.cells #[.bool x] 290))(hl:L.length<=10000000) :
  Calls prog 103 #[.pointer (some ⟨c,0,none⟩),.iface 288 (.pointer (some ⟨q,0,none⟩))] w fun e w'=>e=.returned (.tuple #[])/\iM B c (L++[⟨0,if x then 1 else 0,0⟩]) ws vs w w':=by
 have HM:Hid (gH w B c L ws vs vl vw vv):=hM;obtain ⟨c0,cf⟩:=YP h4;have f1:=qwz;have f2:=qyv;clear hM h4;cases x
 all_goals
  simp only[if_true,eH,if_false];go_enter func103,ntmps103
  go_wp2_with fail;refine (Bu _ _).mono ?_;rintro e w' ⟨rfl,rfl⟩;simp only[if_true,eH,if_false];go_wp2_with fail;refine (wJ B c 0 _ L ws vs vl vw vv _ HM.o hl).mono ?_;rintro e w' ⟨rfl,h1⟩;go_wp2_with fail;go_end0
  exact ⟨rfl,h1⟩
theorem qtv (B c q:Nat)(fD:fq)(own:fC)(L:List Px.Ins)(ws vs:List fq)(vl vw vv:fC)(w:fu)(hM:gH w B c L ws vs vl vw vv)(h4:w.heap[q]?=some (.cells #[.string fD,own] 236))(hl:L.length<=10000000)(hx:fD.size<=10000000)(hl2:vs.length<=10000000) :
  Calls prog 103 #[.pointer (some ⟨c,0,none⟩),.iface 228 (.pointer (some ⟨q,0,none⟩))] w fun e w'=>e=.returned (.tuple #[])/\iM B c (L++[⟨1,fM (gN vs fD) fD,0⟩]) ws (gN vs fD) w w':=by
 have HM:Hid (gH w B c L ws vs vl vw vv):=hM;obtain ⟨c0,c1,cf⟩:=sQ h4;have f1:=qqn;have f2:=qqx;have f3:=qm9;clear hM h4;go_enter func103,ntmps103
 go_wp2_with fail;refine (zw B c L ws vs fD vl vw vv _ HM.o hx hl2).mono ?_;rintro e w' ⟨rfl,b1,lD,oL,oM,h1⟩;have H1:Hid (_/\_):=⟨b1,h1⟩;clear b1 h1;go_wp2_with fail;refine (wJ B c 1 _ L ws _ lD oL oM _ H1.o.2 hl).mono ?_;rintro e w' ⟨rfl,b2,h2⟩;have H2:Hid (_/\_):=⟨b2,h2⟩;clear b2 h2;go_wp2_with fail;go_end0
 exact ⟨rfl,H1.o.1.trans H2.o.1,H2.o.2⟩
theorem zml (op:Nat):jd op < 7:=by
 unfold jd
 repeat' split
 all_goals omega
def JC (B c:Nat)(VV:List fq)(x:Px.Ex)(tl ql:Nat)(L:List Px.Ins)(ws vs:List fq)(w:fu):Prop :=
 Calls prog 103 #[.pointer (some ⟨c,0,none⟩),.iface tl (.pointer (some ⟨ql,0,none⟩))] w fun e w'=>e=.returned (.tuple #[])/\iM B c (L++jo (fM VV) x) ws (jU x vs) w w'
theorem zoo (B c q tl ql:Nat)(VV:List fq)(l:Px.Ex)(own:fC)(L:List Px.Ins)(ws vs:List fq)(w:fu)(h4:w.heap[q]?=some (.cells #[.iface tl (Ref.ptr ql),own] 293))(hC:JC B c VV l tl ql L ws vs w)(hl:(L++jo (fM VV) l).length<=10000000) :
  Calls prog 103 #[.pointer (some ⟨c,0,none⟩),.iface 291 (.pointer (some ⟨q,0,none⟩))] w fun e w'=>e=.returned (.tuple #[])/\iM B c (L++(jo (fM VV) l++[⟨11,0,0⟩])) ws (jU l vs) w w':=by
 obtain ⟨c0,c1,cf⟩:=sQ h4;have f1:=zd9;have f2:=zka;have f3:=qw0;have f4:=zvl;have HC:Hid (JC B c VV l tl ql L ws vs w):=hC;have HL:Hid (_):=hl;clear h4 hC hl;go_enter func103,ntmps103
 go_wp2_with fail;refine aA HC.o ?_;rintro e w' ⟨rfl,b1,lD,oL,oM,h1⟩;have H1:Hid (_/\_):=⟨b1,h1⟩;clear b1 h1;go_wp2_with fail;refine (BR B c 11 _ ws _ lD oL oM _ H1.o.2 HL.o).mono ?_;rintro e w' ⟨rfl,b2,h2⟩;have H2:Hid (_/\_):=⟨b2,h2⟩;clear b2 h2;go_wp2_with fail;go_end0
 refine ⟨rfl,H1.o.1.trans H2.o.1,?_⟩;rw[<- aI];exact H2.o.2
theorem zit (B c q tl ql tr qr op:Nat)(VV:List fq)(l r:Px.Ex)(own:fC)(L:List Px.Ins)(ws vs:List fq)(w:fu)(oJ:q < B)(hG:Gk w B)(h4:w.heap[q]?=some (.cells #[.int .i64 (jd op:Int),.iface tl (Ref.ptr ql),.iface tr (Ref.ptr qr),own] 297))(hC:JC B c VV l tl ql L ws vs w)(hC2:∀ w1,iM B c (L++jo (fM VV) l) ws (jU l vs) w w1->JC B c VV r tr qr (L++jo (fM VV) l) ws (jU l vs) w1)(hl:(L++jo (fM VV) l++jo (fM VV) r).length<=10000000) :
  Calls prog 103 #[.pointer (some ⟨c,0,none⟩),.iface 294 (.pointer (some ⟨q,0,none⟩))] w fun e w'=>e=.returned (.tuple #[])/\iM B c (L++(jo (fM VV) l++jo (fM VV) r++[⟨pR op,0,0⟩])) ws (jU r (jU l vs)) w w':=by
 obtain ⟨c0,c1,c2,c3,cf⟩:=YQ h4;have f1:=qyw;have f2:=zd8;have f3:=qup;have f4:=zpi;have f5:=zj9;have hix:jd op < 7:=zml op;have CQ:Hid (∀ W,Below B w W->W.cell? ⟨q,0,none⟩=some (.int .i64 (jd op:Int))/\W.cell? ⟨q,1,none⟩=some (.iface tl (.pointer (some ⟨ql,0,none⟩)))/\W.cell? ⟨q,2,none⟩=some (.iface tr (.pointer (some ⟨qr,0,none⟩)))/\W.cell? ⟨13,jd op,none⟩=some (.int .i64 ((pR op:Nat):Int))):=by
  intro W hb;obtain ⟨d0,d1,d2,d3,df⟩:=YQ ((hb.block q oJ).trans h4);refine ⟨d0,d1,d2,?_⟩;rw[zhv];exact (hG.below hb).tab _ hix
 have HC:Hid (JC B c VV l tl ql L ws vs w):=hC;have JD:Hid (_):=hC2;have HL:Hid (_):=hl;clear h4 hC hC2 hl hG c3;generalize jd op=ix at *;go_enter func103,ntmps103
 go_wp2_with fail;refine aA HC.o ?_;rintro e w1 ⟨rfl,h1⟩;have H1:Hid (_):=h1;clear h1;obtain ⟨d0,d1,d2,d3⟩:=CQ.o w1 H1.o.1;go_wp2_with fail;refine aA (JD.o w1 H1.o) ?_;rintro e w2 ⟨rfl,b2,ny,yE,yF,h2⟩;have H2:Hid (_/\_):=⟨b2,h2⟩;clear b2 h2;clear c0 c1 c2 d0 d1 d2 d3;obtain ⟨c0,c1,c2,c3⟩:=CQ.o w2 (H1.o.1.trans H2.o.1);go_wp2_with fail;refine (BR B c (pR op) _ ws _ ny yE yF _ H2.o.2 HL.o).mono ?_;rintro e w' ⟨rfl,b3,h3⟩;have H3:Hid (_/\_):=⟨b3,h3⟩;clear b3 h3;go_wp2_with fail;go_end0
 refine ⟨rfl,(H1.o.1.trans H2.o.1).trans H3.o.1,?_⟩;rw[aI,aI] at H3;rw[aI];exact H3.o.2
theorem Dv (B c:Nat)(VV:List fq)(x:Px.Ex)(hw:mO x)(ht:oN x):Sj B c VV x:=by
 intro w L ws vs vl vw vv tl ql hX hM hG hV hl hl2;match x,hw,ht with
 | ⟨op,n,fD,pl,own,none,none⟩,hw,ht =>
  rw[lU] at hl hl2;obtain ⟨q,hq,⟨h2,h3,h4⟩ | ⟨h2,h3,h4⟩ | ⟨h2,h3,h4⟩⟩:=hX
  ·cases h3;subst h2;rw[jo,jU,if_neg (by decide),if_neg (by decide)]
   exact qyh B c n _ _ L ws vs vl vw vv w hM h4 (by omega)
  ·cases h3;subst h2;rw[jU,if_pos rfl] at hV;rw[jo,jU,if_pos rfl,if_pos rfl,GU (vZ _ _) hV];exact qtv B c _ fD _ L ws vs vl vw vv w hM h4 (by omega) (by omega) (by omega)
  ·cases h3;subst h2;rw[jo,jU,if_neg (by decide),if_neg (by decide)]
   have:=zdh B c _ (n == 1) L ws vs vl vw vv w hM h4 (by omega)
   rw[oN] at ht;have hn:=ht rfl;match n,hn with
   | 0,_=>exact this
   | 1,_=>exact this
 | ⟨op,n,fD,pl,own,some l,none⟩,hw,ht =>
  obtain ⟨hop,q,tl',wE,hq,h2,h3,h4⟩:=hX;cases h2;rw[mO] at hw;rw[oN] at ht;rw[lU] at hl hl2;rw[jU] at hV |-;rw[jo];refine zoo B c _ tl' wE VV l _ L ws vs w h3 (Dv B c VV l hw.2 ht w L ws vs vl vw vv tl' wE h4 hM hG hV (by omega) (by omega)) ?_
  have:=uH (fM VV) l
  have:=AV l
  simp;omega
 | ⟨op,n,fD,pl,own,some l,some r⟩,hw,ht =>
  obtain ⟨q,tl',wE,tr,qr,hq,h2,h3,h4,h5⟩:=hX;cases h2;rw[mO] at hw;rw[oN] at ht;rw[lU] at hl hl2;rw[jU] at hV |-;rw[jo];have e1:=uH (fM VV) l;have e2:=AV l;have e3:=uH (fM VV) r;have e4:=AV r;have e5:=Eh l vs;refine zit B c _ tl' wE tr qr op VV l r _ L ws vs w hq hG h3 (Dv B c VV l hw.2.1 ht.1 w L ws vs vl vw vv tl' wE h4 hM hG ((EU r _).trans hV) (by omega) (by omega)) ?_ (by simp;omega)
  rintro w1 ⟨b1,lD,oL,oM,h1⟩;exact Dv B c VV r hw.2.2 ht.2 w1 _ ws _ lD oL oM tr qr (h5.keep fun k hk=>b1.block k hk) h1 (hG.below b1) hV (by simp;omega) (by omega)
end Mk
namespace Px
theorem Sk (iv:fq->Nat)(x:Option Ex):(lu iv x).length<=uT x+1:=by
 cases x with
 | none=>simp[lu]
 | some e =>
  have:=uH iv e
  have:=AV e
  show (jo iv e).length<=lU e+1
  omega
theorem YR (x:Option Ex)(vs:List fq):(nM x vs).length<=vs.length+uT x:=by
 cases x with
 | none=>simp[nM]
 | some e=>exact Eh e vs
theorem zw0 (iw iv:fq->Nat)(fD:fq)(ex:Option Ex)(gu undo:fq)(n:Nat):(wS iw iv fD ex gu undo n).length<=uT ex+4:=by
 have:=Sk iv ex
 unfold wS;split<;>simp<;>omega
theorem YS (iw iv:fq->Nat)(x:Sm)(h1:∀ p,(mkS iw iv x.one p).length<=lI x.one)(h2:∀ p,(mkS iw iv x.two p).length<=lI x.two)(p:Nat):(kE iw iv x p).length<=kV x:=by
 have e1:=Sk iv x.ex;have e2:=zw0 iw iv x.fD x.ex x.gu x.undo x.n;unfold kE kV;split
 ·simp;omega
 ·split
  ·omega
  ·split
   ·have a1:=h1 (p+(lu iv x.ex).length+1);have a2:=h2 (p+(lu iv x.ex).length+1+(mkS iw iv x.one (p+(lu iv x.ex).length+1)).length+1);dsimp only;split
    ·simp;omega
    ·simp;omega
   ·split
    ·have a1:=h1 (p+1);have a2:=h2 (p+1+(mkS iw iv x.one (p+1)).length+1);simp;omega
    ·split
     ·have a1:=h1 (p+2);simp;omega
     ·simp;omega
theorem BS (iw iv:fq->Nat)(l:List Sm):∀ p,(mkS iw iv l p).length<=lI l:=by
 match l with
 | []=>intro p;rw[EL,Aw];exact aj _
 | ⟨op,fD,pl,ex,gu,fZ,undo,n,gG,one,two⟩::rest =>
  intro p;rw[CK,D5,ay]
  have:=YS iw iv ⟨op,fD,pl,ex,gu,fZ,undo,n,gG,one,two⟩ (BS iw iv one) (BS iw iv two) p
  have:=BS iw iv rest (p+(kE iw iv ⟨op,fD,pl,ex,gu,fZ,undo,n,gG,one,two⟩ p).length)
  omega
theorem zvw (fD undo:fq)(ws:List fq):(vB fD undo ws).length<=ws.length+2:=by
 have:=F8 ws fD
 have:=F8 (gN ws fD) undo
 unfold vB;split<;>omega
theorem YT (x:Sm)(h1:∀ ws,(jq x.one ws).length<=ws.length+lI x.one)(h2:∀ ws,(jq x.two ws).length<=ws.length+lI x.two)(ws:List fq):(kM x ws).length<=ws.length+kV x:=by
 have a0:=zvw x.fD x.undo ws;have a1:=h1 ws;have a2:=h2 (jq x.one ws);unfold kM kV
 repeat' split
 all_goals omega
theorem Ei (l:List Sm):∀ ws,(jq l ws).length<=ws.length+lI l:=by
 match l with
 | []=>intro ws;rw[GX];omega
 | ⟨op,fD,pl,ex,gu,fZ,undo,n,gG,one,two⟩::rest =>
  intro ws;rw[CV,D5]
  have:=YT ⟨op,fD,pl,ex,gu,fZ,undo,n,gG,one,two⟩ (Ei one) (Ei two) ws
  have:=Ei rest (kM ⟨op,fD,pl,ex,gu,fZ,undo,n,gG,one,two⟩ ws)
  omega
theorem YU (x:Sm)(h1:∀ ws,(iV x.one ws).length<=ws.length+lI x.one)(h2:∀ ws,(iV x.two ws).length<=ws.length+lI x.two)(vs:List fq):(kF x vs).length<=vs.length+kV x:=by
 have a0:=YR x.ex vs;have a1:=F8 (nM x.ex vs) x.fD;have a2:=F8 (nM x.ex vs) x.gu;have b1:=h1 vs;have b2:=h2 (iV x.one vs);have b3:=h1 (nM x.ex vs);have b4:=h2 (iV x.one (nM x.ex vs));unfold kF kV
 repeat' split
 all_goals omega
theorem BU (l:List Sm):∀ vs,(iV l vs).length<=vs.length+lI l:=by
 match l with
 | []=>intro ws;rw[Lr];omega
 | ⟨op,fD,pl,ex,gu,fZ,undo,n,gG,one,two⟩::rest =>
  intro ws;rw[ET,D5]
  have:=YU ⟨op,fD,pl,ex,gu,fZ,undo,n,gG,one,two⟩ (BU one) (BU two) ws
  have:=BU rest (kF ⟨op,fD,pl,ex,gu,fZ,undo,n,gG,one,two⟩ ws)
  omega
end Px
namespace Mk
theorem zha (P R:List Px.Ins)(i:Px.Ins)(f:Px.Ins->Px.Ins):(P++(i::R)).modify P.length f=P++(f i::R):=by
 induction P with
 | nil=>rfl
 | cons x P ih=>simp only[bG,aC,List.modify_succ_cons,ih]
theorem YV (P R:List Px.Ins)(k:Nat):nY (P++(⟨k,0,0⟩::R)) P.length=P++(⟨k,P.length+1+R.length,0⟩::R):=by
 unfold nY;rw[zha];simp;omega
def tX (B c:Nat)(v:fC)(L:List Px.Ins)(ws vs:List fq)(w:fu):Prop :=
 Calls prog 27 #[.pointer (some ⟨c,0,none⟩),v] w fun e w'=>e=.returned (.tuple #[])/\iM B c L ws vs w w'
theorem zky (B c q:Nat)(a1 a2:Option Addr)(n1 n2 k1 k2:Nat)(L L1 L2 L3 L4 L5:List Px.Ins)(ws vs sI vs1 lG vs2:List fq)(vl vw vv:fC)(w:fu)(oJ:q < B)(hM:gH w B c L ws vs vl vw vv)(h4:w.heap[q]?=some (.cells #[.slice a1 n1 k1,.slice a2 n2 k2] 310))(e1:L++[⟨15,0,0⟩]=L1)(e3:nY (L2++[⟨16,0,0⟩]) L.length=L3)(e5:nY L4 L2.length=L5)(hl1:L.length<=10000000)(hl2:L2.length<=10000000)(hl3:L.length < (L2++[(⟨16,0,0⟩:Px.Ins)]).length)(hl4:L2.length < L4.length)(yG:∀ w1,iM B c L1 ws vs w w1->tX B c (.slice a1 n1 k1) L2 sI vs1 w1)(hC2:∀ w1,iM B c L3 sI vs1 w w1->tX B c (.slice a2 n2 k2) L4 lG vs2 w1) :
  Calls prog 108 #[.pointer (some ⟨c,0,none⟩),.pointer (some ⟨q,0,none⟩)] w fun e w'=>e=.returned (.tuple #[])/\iM B c L5 lG vs2 w w':=by
 have CQ:Hid (∀ W,Below B w W->W.cell? ⟨q,0,none⟩=some (.slice a1 n1 k1)/\W.cell? ⟨q,1,none⟩=some (.slice a2 n2 k2)/\∀ o,W.frozen? ⟨q,o,none⟩=false):=fun W hb=>sQ ((hb.block q oJ).trans h4)
 have HM:Hid (gH w B c L ws vs vl vw vv):=hM;have Ej:Hid (∀ w1,iM B c L1 ws vs w w1->tX B c (.slice a1 n1 k1) L2 sI vs1 w1):=yG;have JD:Hid (∀ w1,iM B c L3 sI vs1 w w1->tX B c (.slice a2 n2 k2) L4 lG vs2 w1):=hC2;have HL:Hid (L.length<=10000000/\L2.length<=10000000/\L.length < (L2++[(⟨16,0,0⟩:Px.Ins)]).length/\L2.length < L4.length):=⟨hl1,hl2,hl3,hl4⟩;have E1:Hid (L++[⟨15,0,0⟩]=L1):=e1;have E3:Hid (nY (L2++[⟨16,0,0⟩]) L.length=L3):=e3;have E5:Hid (nY L4 L2.length=L5):=e5;clear hl1 hl2 hl3 hl4 h4 hM yG hC2 e1 e3 e5;obtain ⟨c0,c1,cf⟩:=CQ.o w (aH B w);go_enter func108,ntmps108
 go_wp2_with fail;refine (F6 B c 15 L ws vs vl vw vv w HM.o HL.o.1).mono ?_;rintro e w1 ⟨rfl,h1⟩;rw[E1.o] at h1;have H1:Hid (iM B c L1 ws vs w w1):=h1;clear h1 c0 c1 cf;obtain ⟨c0,c1,cf⟩:=CQ.o w1 H1.o.1;go_wp2_with fail;refine aA (Ej.o w1 H1.o) ?_;rintro e w2 ⟨rfl,b2,ny,yE,yF,h2⟩;have H2:Hid (Below B w w2/\gH w2 B c L2 sI vs1 ny yE yF):=⟨H1.o.1.trans b2,h2⟩;clear b2 h2 c0 c1 cf H1;go_wp2_with fail;refine (F6 B c 16 L2 _ _ ny yE yF w2 H2.o.2 HL.o.2.1).mono ?_;rintro e w3 ⟨rfl,b3,nR,rF,rG,h3⟩;have H3:Hid (Below B w w3/\gH w3 B c (L2++[⟨16,0,0⟩]) sI vs1 nR rF rG):=⟨H2.o.1.trans b3,h3⟩
 clear b3 h3 H2;go_wp2_with fail;refine (F7 B c L.length _ _ _ nR rF rG w3 H3.o.2 HL.o.2.2.1).mono ?_;rintro e w4 ⟨rfl,b4,h4⟩;rw[E3.o] at h4;have H4:Hid (iM B c L3 sI vs1 w w4):=⟨H3.o.1.trans b4,h4⟩;clear b4 h4 H3;obtain ⟨c0,c1,cf⟩:=CQ.o w4 H4.o.1;go_wp2_with fail;refine aA (JD.o w4 H4.o) ?_;rintro e w5 ⟨rfl,b5,BX,BZ,Cb,h5⟩;have H5:Hid (Below B w w5/\gH w5 B c L4 lG vs2 BX BZ Cb):=⟨H4.o.1.trans b5,h5⟩;clear b5 h5 c0 c1 cf H4;go_wp2_with fail;refine (F7 B c L2.length L4 _ _ BX BZ Cb w5 H5.o.2 HL.o.2.2.2).mono ?_;rintro e w6 ⟨rfl,b6,h6⟩
 rw[E5.o] at h6;have H6:Hid (iM B c L5 lG vs2 w w6):=⟨H5.o.1.trans b6,h6⟩;clear b6 h6;go_wp2_with fail;go_end0
 exact ⟨rfl,H6.o⟩
def zB (B c tl ql:Nat)(L:List Px.Ins)(ws vs:List fq)(w:fu):Prop :=
 Calls prog 103 #[.pointer (some ⟨c,0,none⟩),.iface tl (.pointer (some ⟨ql,0,none⟩))] w fun e w'=>e=.returned (.tuple #[])/\iM B c L ws vs w w'
theorem qxk (B c q qn n:Nat)(pn:fC)(a1:Option Addr)(n1 k1:Nat)(L L1 L2 L3 L4 L5:List Px.Ins)(ws vs sI vs1:List fq)(vl vw vv:fC)(w:fu)(oJ:q < B)(hM:gH w B c L ws vs vl vw vv)(h4:w.heap[q]?=some (.cells #[.pointer (some ⟨qn,0,none⟩),.slice a1 n1 k1] 280))(h5:w.heap[qn]?=some (.cells #[.int .i64 (n:Int),pn] 287))(e1:L++[⟨0,n,0⟩]=L1)(e2:L1++[⟨14,0,0⟩]=L2)(e4:L3++[⟨12,L1.length,0⟩]=L4)(e5:nY L4 L1.length=L5)(hl1:L.length<=10000000)(hl2:L1.length<=10000000)(hl3:L3.length<=10000000)(hl4:L1.length < L4.length)(yG:∀ w1,iM B c L2 ws vs w w1->tX B c (.slice a1 n1 k1) L3 sI vs1 w1) :
  Calls prog 109 #[.pointer (some ⟨c,0,none⟩),.pointer (some ⟨q,0,none⟩)] w fun e w'=>e=.returned (.tuple #[])/\iM B c L5 sI vs1 w w':=by
 have CQ:Hid (∀ W,Below B w W->W.cell? ⟨q,0,none⟩=some (.pointer (some ⟨qn,0,none⟩))/\W.cell? ⟨q,1,none⟩=some (.slice a1 n1 k1)/\∀ o,W.frozen? ⟨q,o,none⟩=false):=fun W hb=>sQ ((hb.block q oJ).trans h4)
 have HM:Hid (gH w B c L ws vs vl vw vv):=hM;have Ej:Hid (∀ w1,iM B c L2 ws vs w w1->tX B c (.slice a1 n1 k1) L3 sI vs1 w1):=yG;have HL:Hid (L.length<=10000000/\L1.length<=10000000/\L3.length<=10000000/\L1.length < L4.length):=⟨hl1,hl2,hl3,hl4⟩;have E1:Hid (L++[⟨0,n,0⟩]=L1):=e1;have E2:Hid (L1++[⟨14,0,0⟩]=L2):=e2;have E4:Hid (L3++[⟨12,L1.length,0⟩]=L4):=e4;have E5:Hid (nY L4 L1.length=L5):=e5;obtain ⟨d0,d1,df⟩:=sQ h5;clear hl1 hl2 hl3 hl4 h4 h5 hM yG e1 e2 e4 e5;obtain ⟨c0,c1,cf⟩:=CQ.o w (aH B w);go_enter func109,ntmps109
 go_wp2_with fail;refine (wJ B c 0 n L ws vs vl vw vv w HM.o HL.o.1).mono ?_;rintro e w1 ⟨rfl,b1,lD,oL,oM,h1⟩;rw[E1.o] at h1;have H1:Hid (Below B w w1/\gH w1 B c L1 ws vs lD oL oM):=⟨b1,h1⟩;clear b1 h1 c0 c1 cf d0 d1 df;go_wp2_with fail;refine (F6 B c 14 L1 _ _ lD oL oM w1 H1.o.2 HL.o.2.1).mono ?_;rintro e w2 ⟨rfl,b2,h2⟩;rw[E2.o] at h2;have H2:Hid (iM B c L2 ws vs w w2):=⟨H1.o.1.trans b2,h2⟩;clear b2 h2;obtain ⟨c0,c1,cf⟩:=CQ.o w2 H2.o.1;go_wp2_with fail;refine aA (Ej.o w2 H2.o) ?_;rintro e w3 ⟨rfl,b3,nR,rF,rG,h3⟩;have H3:Hid (Below B w w3/\gH w3 B c L3 sI vs1 nR rF rG):=⟨H2.o.1.trans b3,h3⟩
 clear b3 h3 c0 c1 cf;go_wp2_with fail;refine (wJ B c 12 L1.length L3 _ _ nR rF rG w3 H3.o.2 HL.o.2.2.1).mono ?_;rintro e w4 ⟨rfl,b4,Fx,JE,JF,h4⟩;rw[E4.o] at h4;have H4:Hid (Below B w w4/\gH w4 B c L4 sI vs1 Fx JE JF):=⟨H3.o.1.trans b4,h4⟩;clear b4 h4;go_wp2_with fail;refine (F7 B c L1.length L4 _ _ Fx JE JF w4 H4.o.2 HL.o.2.2.2).mono ?_;rintro e w6 ⟨rfl,b6,h6⟩;rw[E5.o] at h6;have H6:Hid (iM B c L5 sI vs1 w w6):=⟨H4.o.1.trans b6,h6⟩;clear b6 h6;go_wp2_with fail;go_end0
 exact ⟨rfl,H6.o⟩
theorem qwo (B c q qr tl ql:Nat)(pn:fC)(a1 a2:Option Addr)(n1 k1 k2:Nat)(L1 L2 L3 L5:List Px.Ins)(ws vs1 lG vs2:List fq)(w:fu)(oJ:q < B)(h4:w.heap[q]?=some (.cells #[.pointer (some ⟨qr,0,none⟩),.slice a1 n1 k1,.slice a2 0 k2] 307))(h5:w.heap[qr]?=some (.cells #[.iface tl (.pointer (some ⟨ql,0,none⟩)),pn] 305))(e2:L1++[⟨13,0,0⟩]=L2)(e5:nY L3 L1.length=L5)(hl1:L1.length<=10000000)(hl4:L1.length < L3.length)(hC0:zB B c tl ql L1 ws vs1 w)(yG:∀ w1,iM B c L2 ws vs1 w w1->tX B c (.slice a1 n1 k1) L3 lG vs2 w1) :
  Calls prog 107 #[.pointer (some ⟨c,0,none⟩),.pointer (some ⟨q,0,none⟩)] w fun e w'=>e=.returned (.tuple #[])/\iM B c L5 lG vs2 w w':=by
 have CQ:Hid (∀ W,Below B w W->W.cell? ⟨q,0,none⟩=some (.pointer (some ⟨qr,0,none⟩))/\W.cell? ⟨q,1,none⟩=some (.slice a1 n1 k1)/\W.cell? ⟨q,2,none⟩=some (.slice a2 0 k2)/\∀ o,W.frozen? ⟨q,o,none⟩=false):=fun W hb=>cells3 ((hb.block q oJ).trans h4)
 have JG:Hid (zB B c tl ql L1 ws vs1 w):=hC0;have Ej:Hid (∀ w1,iM B c L2 ws vs1 w w1->tX B c (.slice a1 n1 k1) L3 lG vs2 w1):=yG;have HL:Hid (L1.length<=10000000/\L1.length < L3.length):=⟨hl1,hl4⟩;have E2:Hid (L1++[⟨13,0,0⟩]=L2):=e2;have E5:Hid (nY L3 L1.length=L5):=e5;obtain ⟨d0,d1,df⟩:=sQ h5;clear hl1 hl4 h4 h5 hC0 yG e2 e5;obtain ⟨c0,c1,c2,cf⟩:=CQ.o w (aH B w);go_enter func107,ntmps107
 go_wp2_with fail;refine aA JG.o ?_;rintro e w1 ⟨rfl,b1,lD,oL,oM,h1⟩;have H1:Hid (Below B w w1/\gH w1 B c L1 ws vs1 lD oL oM):=⟨b1,h1⟩;clear b1 h1 c0 c1 c2 cf d0 d1 df;go_wp2_with fail;refine (F6 B c 13 L1 _ _ lD oL oM w1 H1.o.2 HL.o.1).mono ?_;rintro e w2 ⟨rfl,b2,h2⟩;rw[E2.o] at h2;have H2:Hid (iM B c L2 ws vs1 w w2):=⟨H1.o.1.trans b2,h2⟩;clear b2 h2;obtain ⟨c0,c1,c2,cf⟩:=CQ.o w2 H2.o.1;go_wp2_with fail;refine aA (Ej.o w2 H2.o) ?_;rintro e w3 ⟨rfl,b3,nR,rF,rG,h3⟩;have H3:Hid (Below B w w3/\gH w3 B c L3 lG vs2 nR rF rG):=⟨H2.o.1.trans b3,h3⟩
 clear b3 h3 c0 c1 c2 cf;obtain ⟨c0,c1,c2,cf⟩:=CQ.o w3 H3.o.1;go_wp2_with fail;refine (F7 B c L1.length L3 _ _ nR rF rG w3 H3.o.2 HL.o.2).mono ?_;rintro e w6 ⟨rfl,b6,h6⟩;rw[E5.o] at h6;have H6:Hid (iM B c L5 lG vs2 w w6):=⟨H3.o.1.trans b6,h6⟩;clear b6 h6;go_wp2_with fail;go_end0
 exact ⟨rfl,H6.o⟩
theorem qwn (B c q qr tl ql:Nat)(pn:fC)(a1 a2:Option Addr)(n1 n2 k1 k2:Nat)(L1 L2 L3 L5 L6 L7:List Px.Ins)(ws vs1 lG vs2 nJ vs3:List fq)(w:fu)(oJ:q < B)(h4:w.heap[q]?=some (.cells #[.pointer (some ⟨qr,0,none⟩),.slice a1 n1 k1,.slice a2 n2 k2] 307))(hn2:0 < n2)(h5:w.heap[qr]?=some (.cells #[.iface tl (.pointer (some ⟨ql,0,none⟩)),pn] 305))(e2:L1++[⟨13,0,0⟩]=L2)(e5:nY (L3++[⟨12,0,0⟩]) L1.length=L5)(e7:nY L6 L3.length=L7)(hl1:L1.length<=10000000)(hl3:L3.length<=10000000)(hl4:L1.length < (L3++[(⟨12,0,0⟩:Px.Ins)]).length)(YW:L3.length < L6.length)(hC0:zB B c tl ql L1 ws vs1 w)(yG:∀ w1,iM B c L2 ws vs1 w w1->tX B c (.slice a1 n1 k1) L3 lG vs2 w1)(hC2:∀ w1,iM B c L5 lG vs2 w w1->tX B c (.slice a2 n2 k2) L6 nJ vs3 w1) :
  Calls prog 107 #[.pointer (some ⟨c,0,none⟩),.pointer (some ⟨q,0,none⟩)] w fun e w'=>e=.returned (.tuple #[])/\iM B c L7 nJ vs3 w w':=by
 have CQ:Hid (∀ W,Below B w W->W.cell? ⟨q,0,none⟩=some (.pointer (some ⟨qr,0,none⟩))/\W.cell? ⟨q,1,none⟩=some (.slice a1 n1 k1)/\W.cell? ⟨q,2,none⟩=some (.slice a2 n2 k2)/\∀ o,W.frozen? ⟨q,o,none⟩=false):=fun W hb=>cells3 ((hb.block q oJ).trans h4)
 have JG:Hid (zB B c tl ql L1 ws vs1 w):=hC0;have Ej:Hid (∀ w1,iM B c L2 ws vs1 w w1->tX B c (.slice a1 n1 k1) L3 lG vs2 w1):=yG;have JD:Hid (∀ w1,iM B c L5 lG vs2 w w1->tX B c (.slice a2 n2 k2) L6 nJ vs3 w1):=hC2;have HL:Hid (L1.length<=10000000/\L3.length<=10000000/\L1.length < (L3++[(⟨12,0,0⟩:Px.Ins)]).length/\L3.length < L6.length):=⟨hl1,hl3,hl4,YW⟩;have E2:Hid (L1++[⟨13,0,0⟩]=L2):=e2;have E5:Hid (nY (L3++[⟨12,0,0⟩]) L1.length=L5):=e5;have E7:Hid (nY L6 L3.length=L7):=e7;obtain ⟨d0,d1,df⟩:=sQ h5;clear hl1 hl3 hl4 YW h4 h5 hC0 yG hC2 e2 e5 e7;obtain ⟨c0,c1,c2,cf⟩:=CQ.o w (aH B w)
 go_enter func107,ntmps107
 go_wp2_with fail;refine aA JG.o ?_;rintro e w1 ⟨rfl,b1,lD,oL,oM,h1⟩;have H1:Hid (Below B w w1/\gH w1 B c L1 ws vs1 lD oL oM):=⟨b1,h1⟩;clear b1 h1 c0 c1 c2 cf d0 d1 df;go_wp2_with fail;refine (F6 B c 13 L1 _ _ lD oL oM w1 H1.o.2 HL.o.1).mono ?_;rintro e w2 ⟨rfl,b2,h2⟩;rw[E2.o] at h2;have H2:Hid (iM B c L2 ws vs1 w w2):=⟨H1.o.1.trans b2,h2⟩;clear b2 h2;obtain ⟨c0,c1,c2,cf⟩:=CQ.o w2 H2.o.1;go_wp2_with fail;refine aA (Ej.o w2 H2.o) ?_;rintro e w3 ⟨rfl,b3,nR,rF,rG,h3⟩;have H3:Hid (Below B w w3/\gH w3 B c L3 lG vs2 nR rF rG):=⟨H2.o.1.trans b3,h3⟩
 clear b3 h3 c0 c1 c2 cf;obtain ⟨c0,c1,c2,cf⟩:=CQ.o w3 H3.o.1;go_wp2_with fail;refine (F6 B c 12 L3 _ _ nR rF rG w3 H3.o.2 HL.o.2.1).mono ?_;rintro e w4 ⟨rfl,b4,Fx,JE,JF,h4⟩;have H4:Hid (Below B w w4/\gH w4 B c (L3++[⟨12,0,0⟩]) lG vs2 Fx JE JF):=⟨H3.o.1.trans b4,h4⟩;clear b4 h4 c0 c1 c2 cf;go_wp2_with fail;refine (F7 B c L1.length _ _ _ Fx JE JF w4 H4.o.2 HL.o.2.2.1).mono ?_;rintro e w5 ⟨rfl,b5,h5⟩;rw[E5.o] at h5;have H5:Hid (iM B c L5 lG vs2 w w5):=⟨H4.o.1.trans b5,h5⟩;clear b5 h5;obtain ⟨c0,c1,c2,cf⟩:=CQ.o w5 H5.o.1;go_wp2_with fail;refine aA (JD.o w5 H5.o) ?_
 rintro e w6 ⟨rfl,b6,zC,zD,zF,h6⟩;have H6:Hid (Below B w w6/\gH w6 B c L6 nJ vs3 zC zD zF):=⟨H5.o.1.trans b6,h6⟩;clear b6 h6 c0 c1 c2 cf;go_wp2_with fail;refine (F7 B c L3.length L6 _ _ zC zD zF w6 H6.o.2 HL.o.2.2.2).mono ?_;rintro e w7 ⟨rfl,b7,h7⟩;rw[E7.o] at h7;have H7:Hid (iM B c L7 nJ vs3 w w7):=⟨H6.o.1.trans b7,h7⟩;clear b7 h7;go_wp2_with fail;go_end0
 exact ⟨rfl,H7.o⟩
