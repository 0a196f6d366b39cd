import Derived.Shelf.Strconv.Clone
import Derived.Test.YtgkhgealpneodaaGreatDoorG17
set_option maxRecDepth 100000
set_option maxHeartbeats 4000000
namespace Go.Proofs.YtgkhgealpneodaaGreatDoor
open Go.RowKit
open Go.Shelf
def tC:Go.Shelf.Ren:=⟨fun|316=>263|n=>n,fun|9=>9|3=>3|4=>4|37=>213|0=>0|127=>390|5=>5|n=>n,fun|n=>n⟩
theorem xW:Go.Proofs.LaysM.n316 Tryz.prog tC:={
 mixed:=by kernel_rfl
 f316:=Tryz.func263.trans (congrArg some (by kernel_rfl))
 t0:=Tryz.underlying0
 a0:=Tryz.isAgg0
 z0:=Tryz.sizeOf0
 v0:=Tryz.zeroValue0
 t3:=Tryz.underlying3
 a3:=Tryz.isAgg3
 z3:=Tryz.sizeOf3
 v3:=Tryz.zeroValue3
 t4:=Tryz.underlying4
 a4:=Tryz.isAgg4
 z4:=Tryz.sizeOf4
 v4:=Tryz.zeroValue4
 t9:=Tryz.underlying9
 a9:=Tryz.isAgg9
 z9:=Tryz.sizeOf9
 v9:=Tryz.zeroValue9
 t37:=Tryz.underlying213
 a37:=Tryz.isAgg213
 z37:=Tryz.sizeOf213
 v37:=Tryz.zeroValue213
 t127:=Tryz.underlying390
 a127:=Tryz.isAgg390
 z127:=Tryz.sizeOf390
 v127:=Tryz.zeroValue390
 t5:=Tryz.underlying5
 a5:=Tryz.isAgg5
 z5:=Tryz.sizeOf5
 v5:=Tryz.zeroValue5
 i0:=by kernel_rfl
 i3:=by kernel_rfl
 i4:=by kernel_rfl
 i5:=by kernel_rfl
 i9:=by kernel_rfl
 i37:=by kernel_rfl
 i127:=by kernel_rfl}
theorem zdp(s:dX)(w:dY)(h:s.size<=10000000):fI 263 #[.string s] w fun e w'=>e=fM (.string s)/\gU w w':=Any.stringslite_Clone xW s w (by omega)
namespace Mk
open Px Ref
def iG(l:List dX):List dZ:=l.map Value.string
variable{W w:dY}{l vs ws:List dX}
theorem Zx{base:Nat}{va:Option Addr}{vn vc:Nat}(h:w.ownsRow base 9 1 (.slice va vn vc) l.length (iG l)):vn=l.length/\l.length<=maxLen/\∀i(hi:i<l.length),∃g,va=some ⟨g,0,none⟩/\w.cell? ⟨g,i,none⟩=some (.string l[i]):=by
 obtain⟨h1,h2⟩|⟨g,cap,cur,h1,h2,h3,h4,h5,h6,h7⟩:=h.2;·cases h1;exact⟨h2.symm,by omega,fun i hi=>by omega⟩
 cases h1;refine⟨rfl,by omega,fun i hi=>⟨g,rfl,?_⟩⟩;have e:cur[i]?=(iG l)[i]?:=by rw[<- h7,bE (by omega)];simp
 simp only[World.cell?,h3];rw[e];simp[iG,hi]
theorem zK{k:IntKind}{a b:Int}(h:a=b):Ending.returned (.int k a)=fM (.int k b):=by rw[h]
def kK(l:List dX)(x:dX):Int:=if iR l x then(fF l x:Int)else -1
variable{B b c k:Nat}
theorem Zy{x:dX}(h:∀i(_:i<k)(hl:i<l.length),(l[i].toList==x.toList)=false):iR l x=iR (l.drop k) x/\(iR l x=true->fF l x=k+fF (l.drop k) x):=by
 induction k generalizing l with| zero=>exact⟨rfl,fun _=>by simp⟩| succ k ih=>
 cases l with| nil=>exact⟨rfl,fun h=>by cases h⟩| cons v l=>
 have h0:=h 0 (by omega) (by simp);simp only[dV]at h0;obtain⟨i1,i2⟩:=ih (l:=l) fun i hi hl=>h (i+1) (by omega) (by simpa using hl);rw[iR,h0,Bool.false_or,List.drop_succ_cons,fF,ah (by simp[h0])];exact⟨i1,fun hh=>by rw[i2 hh];omega⟩
theorem JO(l:List dX)(x:dX)(w:dY)(base:Nat)(va:Option Addr)(vn vc:Nat)(h:w.ownsRow base 9 1 (.slice va vn vc) l.length (iG l)):fI 145 #[.slice va vn vc,.string x] w fun e w'=>e=fM (eF (kK l x))/\w'=w:=by
 obtain⟨rfl,hml,hcell⟩:=Zx h;unfold maxLen at hml;have HC:Hid _:=hcell;go_enter Tryz.func145,Tryz.ntmps145;go_wp2_with fail;go_loop [8] (fun i=>∃k:Nat,k<=l.length/\i=eF k/\Hid (∀i(_:i<k)(hl:i<l.length),(l[i].toList==x.toList)=false)) (fun i=>l.length-(intOf i).toNat)
 case atStart=>exact⟨0,by omega,rfl,fun i hi _=>by omega⟩
 case round=>
  obtain⟨k,hk,rfl,hv⟩:=hrel;by_cases hlt:k<l.length
  ·obtain⟨g,rfl,hc⟩:=HC.o k hlt;have HB:Hid ((x.toList==l[k].toList)=(l[k].toList==x.toList)):=by unfold Hid;rw[bI,beq_iff_eq,beq_iff_eq];exact eq_comm
   cases hb:(x.toList==l[k].toList)
   ·go_wp2_with fail;refine⟨⟨k+1,by omega,by go_num,fun i hi hl=>?_⟩,by simp[intOf];omega⟩;by_cases e:i=k;·subst e;rw[<- HB.o];exact hb
    exact hv.o i (by omega) hl
   go_wp2_with fail;go_ret;refine⟨zK ?_,rfl⟩;obtain⟨e1,e2⟩:=Zy hv.o;have hd:l.drop k=l[k]::l.drop (k+1):=bV hlt;have hh:iR l x=true:=by rw[e1,hd,iR,<- HB.o,hb];rfl
   unfold kK;rw[aA hh,e2 hh,hd,fF,aA (by rw[<- HB.o];exact hb)];simp
  go_wp2_with fail;go_ret;refine⟨zK ?_,rfl⟩;obtain⟨e1,_⟩:=Zy hv.o;unfold kK;rw[ah];rw[e1,dh (by omega)];simp[iR]
variable{p vl vv vw:dZ}{t:TypeId}
theorem Zz(h:W.heap[b]?=some (.cells #[p] t)):∀j u,[p][j]?=some u->W.cell? ((⟨b,0,none⟩:Addr).add j)=some u:=by intro j u hj;match j,hj with| 0,hj=>simp at hj;subst hj;simp[Addr.add,World.cell?,h]
theorem zjb(s:dX)(w:dY)(h:s.size<=10000000):fI 246 #[.string s] w fun e w'=>e=fM (.string s)/\gU w w':=by go_enter Tryz.func246,Tryz.ntmps246;go_wp2_with fail;refine(zdp s _ h).mono ?_;rintro e w1 ⟨rfl,h1⟩;have H1:Hid _:=h1;go_wp2_with fail;go_ret;exact⟨rfl,H1.o⟩
theorem zt3:(Tryz.prog.info? 9).map (fun i=>(i.zero,i.size,i.bytes))=some (some (.string ⟨#[]⟩),1,16):=by kernel_rfl
def Tw(B c o:Nat)(ws:List dX)(x:dX)(v:dZ)(w:dY)(e:Ending)(w':dY):Prop:=
 e=fM (eF (fF (iK ws x) x:Int)) /\
  ((iR ws x=true/\fE (fun _=>False) w w')\/(iR ws x=false/\∃v' w3,w'=w3.setCell ⟨c,o,none⟩ v'/\w3.ownsRow B 9 1 v' (ws.length+1) (iG (ws++[x]))/\fE (fun k=>v.ownBlock=some k) w w3/\(v'.ownBlock=v.ownBlock\/∃n,v'.ownBlock=some n/\w.heap.size<=n/\n<w3.heap.size)))
theorem G5(B c o:Nat)(ws:List dX)(x:dX)(w:dY)(va:Option Addr)(vn vc:Nat)(hB:B<=w.heap.size)(hx:x.size<=10000000)(hl:ws.length<=10000000)(h0:w.cell? ⟨c,o,none⟩=some (.slice va vn vc))(hf:w.frozen? ⟨c,o,none⟩=false)(hne:(Value.slice va vn vc).ownBlock≠some c)(h:w.ownsRow B 9 1 (.slice va vn vc) ws.length (iG ws)):fI 202 #[.pointer (some ⟨c,o,none⟩),.string x] w (Tw B c o ws x (.slice va vn vc) w):=by
 have hcz:c<w.heap.size:=lt_of_cell h0;have H:Hid (w.ownsRow B 9 1 (.slice va vn vc) ws.length (iG ws)):=h;cases hh:iR ws x
 ·obtain⟨i0,hi,hz0,hz1,hz2⟩:=info_parts zt3;have EI:Hid (kK ws x=-1):=by unfold Hid kK;rw[hh];rfl
  have HH:Hid (iR ws x=false):=hh;go_enter Tryz.func202,Tryz.ntmps202;go_wp2_with fail;refine(JO ws x _ B _ _ _ H.o).mono ?_;rintro e w' ⟨rfl,rfl⟩;rw[EI.o];have CQ:Hid (∀w1:dY,gU w' w1 ->
    Hid ((w1.alloc (.cells #[.string x] 9)).ownsRow B 9 1 (.slice va vn vc) ws.length (iG ws))/\Hid (∀j u,[Value.string x][j]?=some u->(w1.alloc (.cells #[.string x] 9)).cell? ((⟨w1.heap.size,0,none⟩:Addr).add j)=some u)/\Hid (B<=(w1.alloc (.cells #[.string x] 9)).heap.size)/\w1.cell? ⟨c,o,none⟩=some (.slice va vn vc)/\c<w1.heap.size /\
    Hid (∀v' w3,w3.ownsRow B 9 1 v' (ws.length+1) (iG ws++[.string x])->(w1.alloc (.cells #[.string x] 9)).grownBy w3 (Value.slice va vn vc).ownBlock->(v'.ownBlock=(Value.slice va vn vc).ownBlock\/v'.ownBlock=some (w1.alloc (.cells #[.string x] 9)).heap.size) ->
     ∃a1 c1,v'=.slice a1 (ws.length+1) c1/\w3.cell? ⟨c,o,none⟩=some (.slice va vn vc)/\w3.frozen? ⟨c,o,none⟩=false/\Hid (Tw B c o ws x (.slice va vn vc) w' (fM (eF (ws.length:Int))) (w3.setCell ⟨c,o,none⟩ v')))):=by
   intro w1 hb1;have hT0:fE (fun _=>False) w' w1:=fE.below (fE.refl _ _) hb1;have hT1:fE (fun _=>False) w' (w1.alloc (.cells #[.string x] 9)):=hT0.alloc _;have hc1:w1.heap[c]?=w'.heap[c]?:=hT0.block c hcz (fun h=>h);refine⟨iM H.o hT1 (fun _ _ h=>h),?_,by have:=hT1.size;exact aK hB this,(aH (w:=w') (a:=⟨c,o,none⟩) hc1).trans h0,by have:=hT0.size;omega,?_⟩;·refine Zz (t:=9) ?_;show(w1.heap.push _)[w1.heap.size]?=_;rw[aD,aA rfl]
   intro v' w3 hown hg hloc;have vo:fE (fun k=>(Value.slice va vn vc).ownBlock=some k) w' w3:=(hT1.mono fun _ _ h=>h.elim).grown hg fun k hk=>ak hk;have hc3:w3.heap[c]?=w'.heap[c]?:=vo.block c hcz hne;have e1:iG (ws++[x])=iG ws++[.string x]:=by simp[iG]
   have e2:fF (iK ws x) x=ws.length:=by unfold iK;rw[ah (by rw[HH.o];simp)];exact Hi HH.o
   have hloc':v'.ownBlock=(Value.slice va vn vc).ownBlock\/∃n,v'.ownBlock=some n/\w'.heap.size<=n/\n<w3.heap.size:=by
    obtain hl|hl:=hloc;·exact ak hl
    exact aj ⟨_,hl,hT1.size,(hown.lt _ hl).2⟩
   have hN:Tw B c o ws x (.slice va vn vc) w' (fM (eF (ws.length:Int))) (w3.setCell ⟨c,o,none⟩ v'):=⟨zK (by rw[e2]),aj ⟨HH.o,v',w3,rfl,by rw[e1];exact hown,vo,hloc'⟩⟩;obtain⟨rfl,h2⟩|⟨g,cap,cur,rfl,r⟩:=hown.2;·omega
   exact⟨_,_,rfl,(aH (w:=w') (a:=⟨c,o,none⟩) hc3).trans h0,(cO (w:=w') (a:=⟨c,o,none⟩) hc3).trans hf,hN⟩
  have O3:Hid (∀u∈[Value.string x],u.oneCell'=true):=by intro u hu;simp at hu;subst hu;rfl
  have O4:Hid (ws.length+1<=maxLen):=by unfold Hid maxLen;omega
  have O5:Hid ((ws.length+1)*16<=140737488355328):=by unfold Hid;omega
  go_wp2_with fail;go_region_law (first
   |(refine zk rfl _ _ 142 rfl B 9 i0 (.string ⟨#[]⟩) 1 16 Tryz.underlying142 hi hz0 hz1 hz2 rfl (bX 0) _ _ _ rfl O1.o _ 1 1 _ rfl rfl O2.o O3.o O4.o O5.o O6.o ?_;intro v' w3 hown' hgrow hloc;obtain⟨a1,c1,rfl,hc3,hf3,HN⟩:=AQ.o v' w3 hown' hgrow hloc;clear hown' hgrow hloc)
   |(go_simp;go_wp2_with (go_at_call 246;refine(zjb x _ hx).mono ?_;rintro e w1 ⟨rfl,hb1⟩;obtain⟨O1,O2,O6,hcc,hcz1,AQ⟩:=CQ.o w1 ⟨hb1.os,hb1.tape,hb1.output,hb1.size,hb1.block⟩;clear hb1)))
  all_goals
   go_wp2_with fail;go_ret;exact HN.o
 have EI:Hid (kK ws x=(fF ws x:Int)):=by unfold Hid kK;rw[hh];rfl
 have EJ:Hid (fF (iK ws x) x=fF ws x):=by unfold Hid iK;rw[aA hh]
 have HH:Hid (iR ws x=true):=hh;go_enter Tryz.func202,Tryz.ntmps202;go_wp2_with fail;refine(JO ws x _ B _ _ _ H.o).mono ?_;rintro e w' ⟨rfl,rfl⟩;rw[EI.o];go_wp2_with fail;go_ret;exact⟨zK (by rw[EJ.o]),ak ⟨HH.o,fE.refl _ _⟩⟩
def vQ(l:List fC):List dZ:=l.flatMap fun i=>[eF (i.k:Int),eF (i.a:Int),eF (i.b:Int)]
theorem qtn(l:List fC)(i:fC):vQ (l++[i])=vQ l++[eF (i.k:Int),eF (i.a:Int),eF (i.b:Int)]:=by simp[vQ]
structure iA(w:dY)(B c:Nat)(L:List fC)(ws vs:List dX)(vl vw vv:dZ):Prop where
 hB:B<=c
 at_:w.heap[c]?=some (.cells #[vl,vw,vv] 156)
 list:w.ownsRow B 219 3 vl L.length (vQ L)
 gT:w.ownsRow B 9 1 vw ws.length (iG ws)
 vars:w.ownsRow B 9 1 vv vs.length (iG vs)
 sep:Sep B c w [vl,vw,vv]
variable{L:List fC}
theorem iA.lt(h:iA w B c L ws vs vl vw vv):c<w.heap.size:=(aN.1 h.at_).1
theorem cells3{a b c:dZ}(hh:w.heap[k]?=some (.cells #[a,b,c] t)):w.cell? ⟨k,0,none⟩=some a/\w.cell? ⟨k,1,none⟩=some b/\w.cell? ⟨k,2,none⟩=some c/\∀o,w.frozen? ⟨k,o,none⟩=false:=by refine⟨?_,?_,?_,?_⟩<;>simp[World.cell?,World.frozen?,hh]
theorem iA.turn{w w3:dY}{B c o:Nat}{L:List fC}{ws vs:List dX}{vl vw vv v v':dZ}(h:iA w B c L ws vs vl vw vv)(ho:[vl,vw,vv][o]?=some v)(hT:fE (fun k=>v.ownBlock=some k) w w3)(hloc:v'.ownBlock=v.ownBlock\/∃n,v'.ownBlock=some n/\w.heap.size<=n/\n<w3.heap.size):(w3.setCell ⟨c,o,none⟩ v').heap[c]?=some (.cells ((#[vl,vw,vv]:Array dZ).setIfInBounds o v') 156)/\Below B w (w3.setCell ⟨c,o,none⟩ v')/\fE (fun k=>v.ownBlock=some k\/k=c) w (w3.setCell ⟨c,o,none⟩ v')/\v'.ownBlock≠some c/\Sep B c (w3.setCell ⟨c,o,none⟩ v') ([vl,vw,vv].set o v'):=by
 have lV:¬v.ownBlock=some c:=fun e=>(h.sep.own v (bL ho) c e).2.1 rfl;have hc3:w3.heap[c]?=w.heap[c]?:=hT.block c h.lt lV;have uN:fE (fun k=>v.ownBlock=some k\/k=c) w (w3.setCell ⟨c,o,none⟩ v'):=fE.setCell (T:=fun k=>v.ownBlock=some k\/k=c) (hT.mono fun k _ hk=>ak hk) (p:=⟨c,o,none⟩) (ak (aj rfl)) _;have hBl:Below B w (w3.setCell ⟨c,o,none⟩ v'):=uN.qj (by have:=h.lt;have:=h.hB;omega) fun k hk=>by
  obtain hk|rfl:=hk;·exact(h.sep.own v (bL ho) k hk).1
  exact h.hB
 have hloc':v'.ownBlock=v.ownBlock\/v'.ownBlock=none\/∃n,v'.ownBlock=some n/\w.heap.size<=n/\n<(w3.setCell ⟨c,o,none⟩ v').heap.size:=by
  obtain hl|⟨n,hl,h1,h2⟩:=hloc;·exact ak hl
  exact aj (aj ⟨n,hl,h1,by simpa[World.setCell]using h2⟩)
 refine⟨?_,hBl,uN,?_,?_⟩;·rw[Ref.heap_set _ (hc3.trans h.at_)]
 ·intro e;obtain hl|⟨n,hl,h1,h2⟩:=hloc;·rw[hl]at e;exact lV e
  rw[hl]at e;cases e;have:=h.lt;omega
 have hB:B<=w.heap.size:=by have:=h.lt;have:=h.hB;omega
 match o,ho with| 0,ho=>simp at ho;subst ho;exact Sep.turn (A:=[]) (R:=[vw,vv]) h.sep uN.size hB h.lt hloc'| 1,ho=>simp at ho;subst ho;exact Sep.turn (A:=[vl]) (R:=[vv]) h.sep uN.size hB h.lt hloc'| 2,ho=>simp at ho;subst ho;exact Sep.turn (A:=[vl,vw]) (R:=[]) h.sep uN.size hB h.lt hloc'| o+3,ho=>simp at ho
theorem iA.other{o j:Nat}{v u:dZ}(h:iA w B c L ws vs vl vw vv)(ho:[vl,vw,vv][o]?=some v)(hj:[vl,vw,vv][j]?=some u)(hne:j≠o):∀k,u.ownBlock=some k->¬(v.ownBlock=some k\/k=c):=by
 intro k hk hh;obtain hh|rfl:=hh;·exact h.sep.mem hj ho hne k hk hh
 exact(h.sep.own u (bL hj) _ hk).2.1 rfl
theorem iA.same{w':dY}(h:iA w B c L ws vs vl vw vv)(hT:fE (fun _=>False) w w'):iA w' B c L ws vs vl vw vv/\Below B w w':=⟨⟨h.hB,by rw[hT.block c h.lt (fun h=>h)];exact h.at_,iM h.list hT (fun _ _ h=>h),iM h.gT hT (fun _ _ h=>h),iM h.vars hT (fun _ _ h=>h),h.sep.world hT.size⟩,hT.qj (by have:=h.lt;have:=h.hB;omega) fun _ h=>h.elim⟩
def jI(B c:Nat)(L:List fC)(ws vs:List dX)(w w':dY):Prop:=Below B w w'/\∃vl vw vv,iA w' B c L ws vs vl vw vv
theorem EO(B c:Nat)(L:List fC)(ws vs:List dX)(x:dX)(vl vw vv:dZ)(w:dY)(h:iA w B c L ws vs vl vw vv)(hx:x.size<=10000000)(hl:ws.length<=10000000):fI 203 #[fq c,.string x] w fun e w'=>e=fM (eF (fF (iK ws x) x:Int))/\jI B c L (iK ws x) vs w w':=by
 obtain⟨c0,c1,c2,cf⟩:=cells3 h.at_;have hB:B<=w.heap.size:=by have:=h.lt;have:=h.hB;omega
 obtain⟨a,n,k,rfl⟩:=lu h.gT;have hne:(Value.slice a n k).ownBlock≠some c:=fun e=>(h.sep.own (.slice a n k) (by simp) c e).2.1 rfl;have H:Hid _:=h;go_enter Tryz.func203,Tryz.ntmps203;go_wp2_with fail;refine(G5 B c 1 ws x _ a n k hB hx hl c1 (cf 1) hne H.o.gT).mono ?_;rintro e w1 ⟨rfl,h1⟩;have H1:Hid _:=h1;go_wp2_with fail;go_ret;refine⟨rfl,?_⟩;obtain⟨hh,hT⟩|⟨hh,v',w3,rfl,hown,hT,hloc⟩:=H1.o
 ·obtain⟨q1,q2⟩:=H.o.same hT;have e1:iK ws x=ws:=by unfold iK;rw[aA hh]
  rw[e1];exact⟨q2,_,_,_,q1⟩
 obtain⟨t1,t2,t3,t4,t5⟩:=H.o.turn (o:=1) rfl hT hloc;have e1:iK ws x=ws++[x]:=by unfold iK;rw[ah (by rw[hh];simp)]
 rw[e1];refine⟨t2,vl,v',vv,H.o.hB,by rw[t1];rfl,iM H.o.list t3 (H.o.other (o:=1) (j:=0) rfl rfl (by decide)),?_,iM H.o.vars t3 (H.o.other (o:=1) (j:=2) rfl rfl (by decide)),t5⟩;rw[aC];exact ownsRow_setCell_other hown (a:=⟨c,1,none⟩) t4 _
theorem Av(B c:Nat)(L:List fC)(ws vs:List dX)(x:dX)(vl vw vv:dZ)(w:dY)(h:iA w B c L ws vs vl vw vv)(hx:x.size<=10000000)(hl:vs.length<=10000000):fI 166 #[fq c,.string x] w fun e w'=>e=fM (eF (fF (iK vs x) x:Int))/\jI B c L ws (iK vs x) w w':=by
 obtain⟨c0,c1,c2,cf⟩:=cells3 h.at_;have hB:B<=w.heap.size:=by have:=h.lt;have:=h.hB;omega
 obtain⟨a,n,k,rfl⟩:=lu h.vars;have hne:(Value.slice a n k).ownBlock≠some c:=fun e=>(h.sep.own (.slice a n k) (by simp) c e).2.1 rfl;have H:Hid _:=h;go_enter Tryz.func166,Tryz.ntmps166;go_wp2_with fail;refine(G5 B c 2 vs x _ a n k hB hx hl c2 (cf 2) hne H.o.vars).mono ?_;rintro e w1 ⟨rfl,h1⟩;have H1:Hid _:=h1;go_wp2_with fail;go_ret;refine⟨rfl,?_⟩;obtain⟨hh,hT⟩|⟨hh,v',w3,rfl,hown,hT,hloc⟩:=H1.o
 ·obtain⟨q1,q2⟩:=H.o.same hT;have e1:iK vs x=vs:=by unfold iK;rw[aA hh]
  rw[e1];exact⟨q2,_,_,_,q1⟩
 obtain⟨t1,t2,t3,t4,t5⟩:=H.o.turn (o:=2) rfl hT hloc;have e1:iK vs x=vs++[x]:=by unfold iK;rw[ah (by rw[hh];simp)]
 rw[e1];refine⟨t2,vl,vw,v',H.o.hB,by rw[t1];rfl,iM H.o.list t3 (H.o.other (o:=2) (j:=0) rfl rfl (by decide)),iM H.o.gT t3 (H.o.other (o:=2) (j:=1) rfl rfl (by decide)),?_,t5⟩;rw[aC];exact ownsRow_setCell_other hown (a:=⟨c,2,none⟩) t4 _
theorem zt4:(Tryz.prog.info? 219).map (fun i=>(i.zero,i.size,i.bytes))=some (some (.agg #[eF 0,eF 0,eF 0]),3,24):=by kernel_rfl
theorem Tx:(Tryz.prog.info? 3).map (·.size)=some 1:=by kernel_rfl
theorem ZA(w:dY)(c c':Array dZ)(t:TypeId):(w.alloc (.cells c t)).setRow w.heap.size c'=w.alloc (.cells c' t):=by
 have:(w.heap.push (.cells c t)).modify w.heap.size (fun
   |.cells _ elem frozen=>.cells c' elem frozen
   |o=>o)=w.heap.push (.cells c' t):=by
  apply Array.ext_getElem?;intro i;rw[Array.getElem?_modify,aD,aD];by_cases h:i=w.heap.size;·subst h;simp
  rw[ah (fun e=>h e.symm),ah h,ah h]
 exact congrArg (fun h=>({w with heap:=h}:dY)) this
theorem iA.zsd(h:iA w B c L ws vs vl vw vv)(i:fC)(hW:fE (fun _=>False) w W):∀v' w3,w3.ownsRow B 219 3 v' (L.length+1) (vQ L++[eF (i.k:Int),eF (i.a:Int),eF (i.b:Int)])->W.grownBy w3 vl.ownBlock->(v'.ownBlock=vl.ownBlock\/v'.ownBlock=some W.heap.size) ->
   ∃a1 n1 c1,v'=.slice a1 n1 c1/\w3.heap[c]?=some (.cells #[vl,vw,vv] 156)/\Hid (jI B c (L++[i]) ws vs w (w3.setCell ⟨c,0,none⟩ v')):=by
 intro v' w3 hown hg hloc;obtain⟨a1,n1,c1,rfl⟩:=lu hown;have hT:fE (fun k=>vl.ownBlock=some k) w w3:=(hW.mono fun _ _ h=>h.elim).grown hg fun k hk=>ak hk;have lV:¬vl.ownBlock=some c:=fun e=>(h.sep.own vl (by simp) c e).2.1 rfl;have hloc':(Value.slice a1 n1 c1).ownBlock=vl.ownBlock\/∃n,(Value.slice a1 n1 c1).ownBlock=some n/\w.heap.size<=n/\n<w3.heap.size:=by
  obtain hl|hl:=hloc;·exact ak hl
  ·exact aj ⟨_,hl,hW.size,(hown.lt _ hl).2⟩
 obtain⟨t1,t2,t3,t4,t5⟩:=h.turn (o:=0) rfl hT hloc';refine⟨a1,n1,c1,rfl,(hT.block c h.lt lV).trans h.at_,t2,.slice a1 n1 c1,vw,vv,h.hB,by rw[t1];rfl,?_,iM h.gT t3 (h.other (o:=0) (j:=1) rfl rfl (by decide)),iM h.vars t3 (h.other (o:=0) (j:=2) rfl rfl (by decide)),t5⟩;rw[aC,qtn];exact ownsRow_setCell_other hown (a:=⟨c,0,none⟩) t4 _
theorem ZB{q r:dZ}(h:W.heap[b]?=some (.cells #[p,q,r] t)):∀j u,[p,q,r][j]?=some u->W.cell? ((⟨b,0,none⟩:Addr).add j)=some u:=by intro j u hj;match j,hj with| 0,hj=>simp at hj;subst hj;simp[Addr.add,World.cell?,h]| 1,hj=>simp at hj;subst hj;simp[Addr.add,World.cell?,h]| 2,hj=>simp at hj;subst hj;simp[Addr.add,World.cell?,h]
theorem Tz(B c k x y m:Nat)(sa:Option Addr)(sn sc:Nat)(L:List fC)(ws vs:List dX)(vl vw vv:dZ)(w:dY)(h:iA w B c L ws vs vl vw vv)(hl:L.length<=10000000)(hcp:(Builtin.copy_ #[32,32] 3 #[.slice (some ⟨w.heap.size,1,none⟩) 2 2,.slice sa sn sc]).run Tryz.prog (w.alloc (.cells #[eF (k:Int),eF 0,eF 0] 219))=.ok (goInt m) (w.alloc (.cells #[eF (k:Int),eF (x:Int),eF (y:Int)] 219))):fI 165 #[fq c,eF (k:Int),.slice sa sn sc] w fun e w'=>e=fM (.tuple #[])/\jI B c (L++[⟨k,x,y⟩]) ws vs w w':=by
 obtain⟨c0,c1,c2,cf⟩:=cells3 h.at_;have hB:B<=w.heap.size:=by have:=h.lt;have:=h.hB;omega
 have hcz:=h.lt;obtain⟨a,n,cp,rfl⟩:=lu h.list;obtain⟨i0,hi,hz0,hz1,hz2⟩:=info_parts zt4;generalize hA:(Obj.cells #[eF (k:Int),eF (x:Int),eF (y:Int)] 219)=A;have hW:fE (fun _=>False) w (((w.alloc A).alloc A).drew):=(((fE.refl _ _).alloc _).alloc _).drew;have O1:Hid ((((w.alloc A).alloc A).drew).ownsRow B 219 3 (.slice a n cp) L.length (vQ L)):=iM h.list hW (fun _ _ h=>h);have O2:Hid (∀j u,[eF (k:Int),eF (x:Int),eF (y:Int)][j]?=some u->(((w.alloc A).alloc A).drew).cell? ((⟨w.heap.size+1,0,none⟩:Addr).add j)=some u):=ZB (t:=219) (by show((w.heap.push A).push A)[w.heap.size+1]?=_;rw[xJ,<- hA]);have O3:Hid (∀u∈[Value.int .i64 (k:Int),eF (x:Int),eF (y:Int)],u.oneCell'=true):=by intro u hu;simp at hu;obtain rfl|rfl|rfl:=hu<;>rfl
 have O4:Hid (L.length+1<=maxLen):=by unfold Hid maxLen;omega
 have O5:Hid ((L.length+1)*24<=140737488355328):=by unfold Hid;omega
 have O6:Hid (B<=(((w.alloc A).alloc A).drew).heap.size):=by show B<=((w.heap.push A).push A).size;simp;omega
 have AQ:Hid _:=h.zsd ⟨k,x,y⟩ hW;subst hA;go_enter Tryz.func165,Tryz.ntmps165;go_wp2_with fail;go_region_law (refine zk rfl _ _ 143 rfl B 219 i0 (.agg #[eF 0,eF 0,eF 0]) 3 24 Tryz.underlying143 hi hz0 hz1 hz2 rfl (bX 2) _ _ _ rfl O1.o _ 1 1 _ rfl rfl O2.o O3.o O4.o O5.o O6.o ?_;intro v' w3 hown' hgrow hloc;obtain⟨a1,n1,k1,rfl,hc3,HN⟩:=AQ.o v' w3 hown' hgrow hloc;obtain⟨e0,e1,e2,ef⟩:=cells3 hc3;clear hown' hgrow hloc hc3)
 all_goals
  go_wp2_with fail;go_end0
  exact⟨rfl,HN.o⟩
theorem DF(B c k:Nat)(L:List fC)(ws vs:List dX)(vl vw vv:dZ)(w:dY)(h:iA w B c L ws vs vl vw vv)(hl:L.length<=10000000):fI 165 #[fq c,eF (k:Int),iE] w fun e w'=>e=fM (.tuple #[])/\jI B c (L++[⟨k,0,0⟩]) ws vs w w':=Tz B c k 0 0 0 none 0 0 L ws vs vl vw vv w h hl (run_copy_nil (P:=Tryz.prog) _ _ _ _ 3 _ _ _ Tryz.underlying32 (by rw[Tx];rfl))
theorem zlz(B c k x g:Nat)(L:List fC)(ws vs:List dX)(vl vw vv:dZ)(w:dY)(h:iA w B c L ws vs vl vw vv)(hl:L.length<=10000000)(hg:w.cell? ⟨g,0,none⟩=some (eF (x:Int))):fI 165 #[fq c,eF (k:Int),.slice (some ⟨g,0,none⟩) 1 1] w fun e w'=>e=fM (.tuple #[])/\jI B c (L++[⟨k,x,0⟩]) ws vs w w':=by
 refine Tz B c k x 0 1 _ _ _ L ws vs vl vw vv w h hl ?_;have hgz:g<w.heap.size:=lt_of_cell hg;rw[run_copy_row (P:=Tryz.prog) _ _ _ _ 3 w.heap.size 1 2 2 ⟨g,0,none⟩ 1 1 #[eF (k:Int),eF 0,eF 0] 219 [eF (x:Int)] Tryz.underlying32 Tx (by show(w.heap.push _)[w.heap.size]?=_;rw[aD,aA rfl]) rfl ?_ (by simp) (by intro v hv;simp at hv;subst hv;rfl),ZA];·rfl
 intro j v hj;match j,hj with
 |0,hj=>
 simp at hj;subst hj;rw[show(⟨g,0,none⟩:Addr).add 0=⟨g,0,none⟩from rfl];exact(aH (w:=w) (a:=⟨g,0,none⟩) (aI w _ g hgz)).trans hg
theorem zly(B c k x y g:Nat)(L:List fC)(ws vs:List dX)(vl vw vv:dZ)(w:dY)(h:iA w B c L ws vs vl vw vv)(hl:L.length<=10000000)(hg:w.cell? ⟨g,0,none⟩=some (eF (x:Int)))(hg1:w.cell? ⟨g,1,none⟩=some (eF (y:Int))):fI 165 #[fq c,eF (k:Int),.slice (some ⟨g,0,none⟩) 2 2] w fun e w'=>e=fM (.tuple #[])/\jI B c (L++[⟨k,x,y⟩]) ws vs w w':=by
 refine Tz B c k x y 2 _ _ _ L ws vs vl vw vv w h hl ?_;have hgz:g<w.heap.size:=lt_of_cell hg;rw[run_copy_row (P:=Tryz.prog) _ _ _ _ 3 w.heap.size 1 2 2 ⟨g,0,none⟩ 2 2 #[eF (k:Int),eF 0,eF 0] 219 [eF (x:Int),eF (y:Int)] Tryz.underlying32 Tx (by show(w.heap.push _)[w.heap.size]?=_;rw[aD,aA rfl]) rfl ?_ (by simp) (by intro v hv;simp at hv;obtain rfl|rfl:=hv<;>rfl),ZA];·rfl
 intro j v hj;match j,hj with
 |0,hj=>simp at hj;subst hj;rw[show(⟨g,0,none⟩:Addr).add 0=⟨g,0,none⟩from rfl];exact(aH (w:=w) (a:=⟨g,0,none⟩) (aI w _ g hgz)).trans hg
 |1,hj=>
 simp at hj;subst hj;rw[show(⟨g,0,none⟩:Addr).add 1=⟨g,1,none⟩from rfl];exact(aH (w:=w) (a:=⟨g,1,none⟩) (aI w _ g hgz)).trans hg1
theorem iA.len{a:Option Addr}{n:Nat}(h:iA w B c L ws vs (.slice a n k) vw vv):n=L.length:=by
 obtain⟨h1,h2⟩|⟨g,cap,cur,h1,_⟩:=h.list.2;·cases h1;exact h2.symm
 cases h1;rfl
theorem ZC(B c:Nat)(L:List fC)(ws vs:List dX)(vl vw vv:dZ)(w:dY)(h:iA w B c L ws vs vl vw vv):fI 247 #[fq c] w fun e w'=>e=fM (eF (L.length:Int))/\w'=w:=by obtain⟨c0,c1,c2,cf⟩:=cells3 h.at_;obtain⟨a,n,k,rfl⟩:=lu h.list;obtain rfl:=h.len;go_enter Tryz.func247,Tryz.ntmps247;go_wp2_with fail;go_ret;exact⟨rfl,rfl⟩
theorem Ih(B c k:Nat)(L:List fC)(ws vs:List dX)(vl vw vv:dZ)(w:dY)(h:iA w B c L ws vs vl vw vv)(hl:L.length<=10000000):fI 204 #[fq c,eF (k:Int)] w fun e w'=>e=fM (eF (L.length:Int))/\jI B c (L++[⟨k,0,0⟩]) ws vs w w':=by
 have H:Hid _:=h;go_enter Tryz.func204,Tryz.ntmps204;go_wp2_with fail;refine(DF B c k L ws vs vl vw vv _ H.o hl).mono ?_;rintro e w1 ⟨rfl,b1,mQ,qg,qh,h1⟩;have H1:Hid (_/\_):=⟨b1,h1⟩;go_wp2_with fail;refine(ZC B c _ ws vs mQ qg qh _ H1.o.2).mono ?_;rintro e w' ⟨rfl,rfl⟩;have e1:((L++[(⟨k,0,0⟩:fC)]).length:Int)=(L.length:Int)+1:=by simp
 rw[e1];go_wp2_with fail;go_ret;exact⟨zK (by omega),H1.o.1,_,_,_,H1.o.2⟩
def pF(L:List fC)(at_:Nat):List fC:=L.modify at_ fun i=>{i with a:=L.length}
theorem Kv(L:List fC)(at_:Nat):(pF L at_).length=L.length:=by simp[pF]
theorem qv8(L:List fC)(n v:Nat)(h:n<L.length):(vQ L).set (n*3+1) (eF (v:Int))=vQ (L.modify n fun i=>{i with a:=v}):=by
 induction L generalizing n with| nil=>simp at h| cons i L ih=>
 cases n with| zero=>simp[vQ]| succ n=>
 have e:(n+1)*3+1=(n*3+1)+3:=by omega
 have:=ih n (by simpa using h);rw[e];show[Value.int .i64 (i.k:Int),eF (i.a:Int),eF (i.b:Int)]++(vQ L).set (n*3+1) (eF (v:Int))=_;rw[this];rfl
theorem Ii(B c n:Nat)(L:List fC)(ws vs:List dX)(vl vw vv:dZ)(w:dY)(h:iA w B c L ws vs vl vw vv)(hn:n<L.length):fI 205 #[fq c,eF (n:Int)] w fun e w'=>e=fM (.tuple #[])/\jI B c (pF L n) ws vs w w':=by
 obtain⟨c0,c1,c2,cf⟩:=cells3 h.at_;obtain⟨h1,h2⟩:=h.list;obtain⟨_,h2⟩|⟨g,cap,cur,rfl,hg,hh,hnc,hcm,hcs,htk⟩:=h2;·omega
 have hcell:∃u,w.cell? ⟨g,n*3+1,none⟩=some u:=by
  have hlt:n*3+1<cur.size:=by omega
  exact⟨cur[n*3+1],by simp[World.cell?,hh,hlt]⟩
 obtain⟨u,hcell⟩:=hcell;have hfr:∀o,w.frozen? ⟨g,o,none⟩=false:=fun o=>by simp[World.frozen?,hh]
 obtain⟨hd,_⟩:=h.same (fE.refl (fun _=>False) w).drew;have hst:=(hd.list.stored (n*3+1) (eF (L.length:Int))).1;have hT:fE (·=g) w (w.drew.setCell ⟨g,n*3+1,none⟩ (eF (L.length:Int))):=fE.setCell (T:=(·=g)) (fE.refl _ _).drew (p:=⟨g,n*3+1,none⟩) (ak rfl) _;have hgo:=h.sep.own (.slice (some ⟨g,0,none⟩) L.length cap) (by simp) g rfl;have hoth:∀j u,j≠0->[(.slice (some ⟨g,0,none⟩) L.length cap),vw,vv][j]?=some u->∀k,u.ownBlock=some k->¬k=g:=by intro j u hj hu k hk e;subst e;exact h.sep.mem hu (show[(.slice (some ⟨k,0,none⟩) L.length cap),vw,vv][0]?=some _ from rfl) hj k hk rfl
 have hM:jI B c (pF L n) ws vs w (w.drew.setCell ⟨g,n*3+1,none⟩ (eF (L.length:Int))):=by
  refine⟨hT.qj (by have:=h.lt;have:=h.hB;omega) (fun k hk=>by rw[hk];exact hgo.1),_,_,_,h.hB,?_,?_,iM h.gT hT (hoth 1 _ (by decide) rfl),iM h.vars hT (hoth 2 _ (by decide) rfl),h.sep.world hT.size⟩;·rw[hT.block c h.lt (fun e=>hgo.2.1 e.symm)];exact h.at_
  rw[Kv];unfold pF;rw[<- qv8 L n L.length hn];exact hst
 have HM:Hid (_/\_):=⟨hM,hd⟩;have hnc3:(L.length:Nat)<=9223372036854775807:=by unfold maxLen at hcm;omega
 go_enter Tryz.func205,Tryz.ntmps205;go_wp2_with fail;go_region_with (go_at_call 247;refine(ZC B c L ws vs _ _ _ _ HM.o.2).mono ?_;rintro e w' ⟨rfl,rfl⟩)
 all_goals
  go_end0
  exact⟨rfl,HM.o.1⟩
end Mk
namespace Px
open Lg
theorem zhv{op:Nat}:qH op=4+jU op:=by
 unfold qH jU
 repeat' split
 all_goals rfl
theorem Ci(x:fG):jQ x<=nI x:=by
 match x with
 |⟨op,n,eH,pl,own,none,r⟩=>rw[jQ,nI];omega
 |⟨op,n,eH,pl,own,some l,none⟩=>have:=Ci l;rw[jQ,nI];omega
 |⟨op,n,eH,pl,own,some l,some r⟩=>
 have:=Ci l;have:=Ci r;rw[jQ,nI];omega
theorem Ij(ws:List dX)(x:dX):(iK ws x).length<=ws.length+1:=by unfold iK;split<;>simp
theorem FN(x:fG)(vs:List dX):(kN x vs).length<=vs.length+nI x:=by
 match x with
 |⟨op,n,eH,pl,own,none,r⟩=>have:=Ij vs eH;rw[kN,nI];split<;>omega
 |⟨op,n,eH,pl,own,some l,none⟩=>have:=FN l vs;rw[kN,nI];omega
 |⟨op,n,eH,pl,own,some l,some r⟩=>
 have h1:=FN l vs;have:=FN r (kN l vs);rw[kN,nI];omega
end Px
namespace Mk
open Lg Px
structure Gk(w:dY)(B:Nat):Prop where
 tab:∀j,j<7->w.cell? ⟨15,j,none⟩=some (eF ((4+j:Nat):Int))
 lo:21<=B
variable{w:dY}
theorem Gk.below{w':dY}{B:Nat}(g:Gk w B)(h:Below B w w'):Gk w' B:=⟨fun j hj=>by rw[aH (w:=w) (a:=⟨15,j,none⟩) (h.block _ (by have:=g.lo;show 15<B;omega))];exact g.tab j hj,g.lo⟩
theorem quq(v:dZ)(w:dY):(Instr.typeAssert (.iface 313 v) 284 313 true).run Tryz.prog w=.ok (.tuple #[v,.bool true]) w:=by kernel_rfl
theorem qwz(v:dZ)(w:dY):(Instr.typeAssert (.iface 323 v) 284 313 true).run Tryz.prog w=.ok (.tuple #[.pointer none,.bool false]) w:=by kernel_rfl
theorem qyv(v:dZ)(w:dY):(Instr.typeAssert (.iface 323 v) 284 323 true).run Tryz.prog w=.ok (.tuple #[v,.bool true]) w:=by kernel_rfl
theorem qqn(v:dZ)(w:dY):(Instr.typeAssert (.iface 282 v) 284 313 true).run Tryz.prog w=.ok (.tuple #[.pointer none,.bool false]) w:=by kernel_rfl
theorem qqx(v:dZ)(w:dY):(Instr.typeAssert (.iface 282 v) 284 323 true).run Tryz.prog w=.ok (.tuple #[.pointer none,.bool false]) w:=by kernel_rfl
theorem qm9(v:dZ)(w:dY):(Instr.typeAssert (.iface 282 v) 284 282 true).run Tryz.prog w=.ok (.tuple #[v,.bool true]) w:=by kernel_rfl
theorem zd9(v:dZ)(w:dY):(Instr.typeAssert (.iface 326 v) 284 313 true).run Tryz.prog w=.ok (.tuple #[.pointer none,.bool false]) w:=by kernel_rfl
theorem zka(v:dZ)(w:dY):(Instr.typeAssert (.iface 326 v) 284 323 true).run Tryz.prog w=.ok (.tuple #[.pointer none,.bool false]) w:=by kernel_rfl
theorem qw0(v:dZ)(w:dY):(Instr.typeAssert (.iface 326 v) 284 282 true).run Tryz.prog w=.ok (.tuple #[.pointer none,.bool false]) w:=by kernel_rfl
theorem zvl(v:dZ)(w:dY):(Instr.typeAssert (.iface 326 v) 284 326 true).run Tryz.prog w=.ok (.tuple #[v,.bool true]) w:=by kernel_rfl
theorem qyw(v:dZ)(w:dY):(Instr.typeAssert (.iface 329 v) 284 313 true).run Tryz.prog w=.ok (.tuple #[.pointer none,.bool false]) w:=by kernel_rfl
theorem zd8(v:dZ)(w:dY):(Instr.typeAssert (.iface 329 v) 284 323 true).run Tryz.prog w=.ok (.tuple #[.pointer none,.bool false]) w:=by kernel_rfl
theorem qup(v:dZ)(w:dY):(Instr.typeAssert (.iface 329 v) 284 282 true).run Tryz.prog w=.ok (.tuple #[.pointer none,.bool false]) w:=by kernel_rfl
theorem zpi(v:dZ)(w:dY):(Instr.typeAssert (.iface 329 v) 284 326 true).run Tryz.prog w=.ok (.tuple #[.pointer none,.bool false]) w:=by kernel_rfl
theorem zj9(v:dZ)(w:dY):(Instr.typeAssert (.iface 329 v) 284 329 true).run Tryz.prog w=.ok (.tuple #[v,.bool true]) w:=by kernel_rfl
variable{k:Nat}{a b:dZ}{t:TypeId}
theorem ZE(hh:w.heap[k]?=some (.cells #[a] t)):w.cell? ⟨k,0,none⟩=some a/\∀o,w.frozen? ⟨k,o,none⟩=false:=by refine⟨?_,?_⟩<;>simp[World.cell?,World.frozen?,hh]
theorem uO(hh:w.heap[k]?=some (.cells #[a,b] t)):w.cell? ⟨k,0,none⟩=some a/\w.cell? ⟨k,1,none⟩=some b/\∀o,w.frozen? ⟨k,o,none⟩=false:=by refine⟨?_,?_,?_⟩<;>simp[World.cell?,World.frozen?,hh]
theorem ZF{c d:dZ}(hh:w.heap[k]?=some (.cells #[a,b,c,d] t)):w.cell? ⟨k,0,none⟩=some a/\w.cell? ⟨k,1,none⟩=some b/\w.cell? ⟨k,2,none⟩=some c/\w.cell? ⟨k,3,none⟩=some d/\∀o,w.frozen? ⟨k,o,none⟩=false:=by refine⟨?_,?_,?_,?_,?_⟩<;>simp[World.cell?,World.frozen?,hh]
theorem Db(x:Bool)(w:dY):fI 110 #[.bool x] w fun e w'=>e=fM (eF (if x then 1 else 0))/\w'=w:=by
 cases x;all_goals
  go_enter Tryz.func110,Tryz.ntmps110;go_wp2;go_ret;exact⟨rfl,rfl⟩
theorem xX(B c k x:Nat)(L:List fC)(ws vs:List dX)(vl vw vv:dZ)(w:dY)(h:iA w B c L ws vs vl vw vv)(hl:L.length<=10000000):fI 165 #[fq c,eF (k:Int),.slice (some ⟨w.heap.size,0,none⟩) 1 1] (w.alloc (.cells #[eF (x:Int)] 3)) fun e w'=>e=fM (.tuple #[])/\jI B c (L++[⟨k,x,0⟩]) ws vs w w':=by obtain⟨h1,b1⟩:=h.same ((fE.refl (fun _=>False) w).alloc (.cells #[eF (x:Int)] 3));refine(zlz B c k x w.heap.size L ws vs vl vw vv _ h1 hl (ZE jX).1).mono ?_;rintro e w' ⟨rfl,b2,h2⟩;exact⟨rfl,b1.trans b2,h2⟩
def TA(B c:Nat)(VV:List dX)(x:fG):Prop:=∀(w:dY)(L:List fC)(ws vs:List dX)(vl vw vv:dZ)(tl ql:Nat),
 ku w x (· < B) (.iface tl (Ref.ptr ql))->iA w B c L ws vs vl vw vv->Gk w B->kN x vs <+: VV->L.length+nI x<=10000000->vs.length+nI x<=10000000 ->
 fI 164 #[fq c,.iface tl (fq ql)] w fun e w'=>e=fM (.tuple #[])/\jI B c (L++ko (fF VV) x) ws (kN x vs) w w'
theorem qyh(B c n q:Nat)(own:dZ)(L:List fC)(ws vs:List dX)(vl vw vv:dZ)(w:dY)(hM:iA w B c L ws vs vl vw vv)(h4:w.heap[q]?=some (.cells #[eF (n:Int),own] 322))(hl:L.length<=10000000):fI 164 #[fq c,.iface 313 (fq q)] w fun e w'=>e=fM (.tuple #[])/\jI B c (L++[⟨0,n,0⟩]) ws vs w w':=by
 have HM:Hid (iA w B c L ws vs vl vw vv):=hM;obtain⟨c0,c1,cf⟩:=uO h4;have f1:=quq;go_enter Tryz.func164,Tryz.ntmps164;go_wp2_with fail;refine(xX B c 0 n L ws vs vl vw vv w HM.o hl).mono ?_;rintro e w' ⟨rfl,h1⟩;go_wp2_with fail;go_end0
 exact⟨rfl,h1⟩
theorem zdh(B c q:Nat)(x:Bool)(L:List fC)(ws vs:List dX)(vl vw vv:dZ)(w:dY)(hM:iA w B c L ws vs vl vw vv)(h4:w.heap[q]?=some (.cells #[.bool x] 325))(hl:L.length<=10000000):fI 164 #[fq c,.iface 323 (fq q)] w fun e w'=>e=fM (.tuple #[])/\jI B c (L++[⟨0,if x then 1 else 0,0⟩]) ws vs w w':=by
 have HM:Hid (iA w B c L ws vs vl vw vv):=hM;obtain⟨c0,cf⟩:=ZE h4;have f1:=qwz;have f2:=qyv;cases x;all_goals
  simp only[if_true,dJ,if_false];go_enter Tryz.func164,Tryz.ntmps164;go_wp2_with fail;refine(Db _ _).mono ?_;rintro e w' ⟨rfl,rfl⟩;simp only[if_true,dJ,if_false];go_wp2_with fail;refine(xX B c 0 _ L ws vs vl vw vv _ HM.o hl).mono ?_;rintro e w' ⟨rfl,h1⟩;go_wp2_with fail;go_end0
  exact⟨rfl,h1⟩
theorem qtv(B c q:Nat)(eH:dX)(own:dZ)(L:List fC)(ws vs:List dX)(vl vw vv:dZ)(w:dY)(hM:iA w B c L ws vs vl vw vv)(h4:w.heap[q]?=some (.cells #[.string eH,own] 289))(hl:L.length<=10000000)(hx:eH.size<=10000000)(hl2:vs.length<=10000000):fI 164 #[fq c,.iface 282 (fq q)] w fun e w'=>e=fM (.tuple #[])/\jI B c (L++[⟨1,fF (iK vs eH) eH,0⟩]) ws (iK vs eH) w w':=by
 have HM:Hid (iA w B c L ws vs vl vw vv):=hM;obtain⟨c0,c1,cf⟩:=uO h4;have f1:=qqn;have f2:=qqx;have f3:=qm9;go_enter Tryz.func164,Tryz.ntmps164;go_wp2_with fail;refine(Av B c L ws vs eH vl vw vv _ HM.o hx hl2).mono ?_;rintro e w' ⟨rfl,b1,mQ,qg,qh,h1⟩;have H1:Hid (_/\_):=⟨b1,h1⟩;go_wp2_with fail;refine(xX B c 1 _ L ws _ mQ qg qh _ H1.o.2 hl).mono ?_;rintro e w' ⟨rfl,b2,h2⟩;have H2:Hid (_/\_):=⟨b2,h2⟩;go_wp2_with fail;go_end0
 exact⟨rfl,H1.o.1.trans H2.o.1,H2.o.2⟩
theorem zml(op:Nat):jU op<7:=by
 unfold jU
 repeat' split
 all_goals omega
def Kw(B c:Nat)(VV:List dX)(x:fG)(tl ql:Nat)(L:List fC)(ws vs:List dX)(w:dY):Prop:=fI 164 #[fq c,.iface tl (fq ql)] w fun e w'=>e=fM (.tuple #[])/\jI B c (L++ko (fF VV) x) ws (kN x vs) w w'
theorem zoo(B c q tl ql:Nat)(VV:List dX)(l:fG)(own:dZ)(L:List fC)(ws vs:List dX)(w:dY)(h4:w.heap[q]?=some (.cells #[.iface tl (Ref.ptr ql),own] 328))(hC:Kw B c VV l tl ql L ws vs w)(hl:(L++ko (fF VV) l).length<=10000000):fI 164 #[fq c,.iface 326 (fq q)] w fun e w'=>e=fM (.tuple #[])/\jI B c (L++(ko (fF VV) l++[⟨11,0,0⟩])) ws (kN l vs) w w':=by
 obtain⟨c0,c1,cf⟩:=uO h4;have f1:=zd9;have f2:=zka;have f3:=qw0;have f4:=zvl;have HC:Hid (Kw B c VV l tl ql L ws vs w):=hC;have HL:Hid _:=hl;go_enter Tryz.func164,Tryz.ntmps164;go_wp2_with fail;refine aB HC.o ?_;rintro e w' ⟨rfl,b1,mQ,qg,qh,h1⟩;have H1:Hid (_/\_):=⟨b1,h1⟩;go_wp2_with fail;refine(DF B c 11 _ ws _ mQ qg qh _ H1.o.2 HL.o).mono ?_;rintro e w' ⟨rfl,b2,h2⟩;have H2:Hid (_/\_):=⟨b2,h2⟩;go_wp2_with fail;go_end0
 refine⟨rfl,H1.o.1.trans H2.o.1,?_⟩;rw[<- aM];exact H2.o.2
theorem zit(B c q tl ql tr qr op:Nat)(VV:List dX)(l r:fG)(own:dZ)(L:List fC)(ws vs:List dX)(w:dY)(qc:q<B)(hG:Gk w B)(h4:w.heap[q]?=some (.cells #[eF (jU op:Int),.iface tl (Ref.ptr ql),.iface tr (Ref.ptr qr),own] 332))(hC:Kw B c VV l tl ql L ws vs w)(hC2:∀w1,jI B c (L++ko (fF VV) l) ws (kN l vs) w w1->Kw B c VV r tr qr (L++ko (fF VV) l) ws (kN l vs) w1)(hl:(L++ko (fF VV) l++ko (fF VV) r).length<=10000000):fI 164 #[fq c,.iface 329 (fq q)] w fun e w'=>e=fM (.tuple #[])/\jI B c (L++(ko (fF VV) l++ko (fF VV) r++[⟨qH op,0,0⟩])) ws (kN r (kN l vs)) w w':=by
 obtain⟨c0,c1,c2,c3,cf⟩:=ZF h4;have f1:=qyw;have f2:=zd8;have f3:=qup;have f4:=zpi;have f5:=zj9;have hix:jU op<7:=zml op;have CQ:Hid (∀W,Below B w W->W.cell? ⟨q,0,none⟩=some (eF (jU op:Int))/\W.cell? ⟨q,1,none⟩=some (.iface tl (fq ql))/\W.cell? ⟨q,2,none⟩=some (.iface tr (fq qr))/\W.cell? ⟨15,jU op,none⟩=some (eF ((qH op:Nat):Int))):=by intro W hb;obtain⟨d0,d1,d2,d3,df⟩:=ZF ((hb.block q qc).trans h4);refine⟨d0,d1,d2,?_⟩;rw[zhv];exact(hG.below hb).tab _ hix
 have HC:Hid (Kw B c VV l tl ql L ws vs w):=hC;have Cj:Hid _:=hC2;have HL:Hid _:=hl;generalize jU op=ix at *;go_enter Tryz.func164,Tryz.ntmps164;go_wp2_with fail;refine aB HC.o ?_;rintro e w1 ⟨rfl,h1⟩;have H1:Hid _:=h1;obtain⟨d0,d1,d2,d3⟩:=CQ.o w1 H1.o.1;go_wp2_with fail;refine aB (Cj.o w1 H1.o) ?_;rintro e w2 ⟨rfl,b2,om,zL,zM,h2⟩;have H2:Hid (_/\_):=⟨b2,h2⟩;obtain⟨c0,c1,c2,c3⟩:=CQ.o w2 (H1.o.1.trans H2.o.1);go_wp2_with fail;refine(DF B c (qH op) _ ws _ om zL zM _ H2.o.2 HL.o).mono ?_;rintro e w' ⟨rfl,b3,h3⟩;have H3:Hid (_/\_):=⟨b3,h3⟩;go_wp2_with fail;go_end0
 refine⟨rfl,(H1.o.1.trans H2.o.1).trans H3.o.1,?_⟩;rw[aM,aM]at H3;rw[aM];exact H3.o.2
theorem EW(B c:Nat)(VV:List dX)(x:fG)(hw:nU x)(ht:qo x):TA B c VV x:=by
 intro w L ws vs vl vw vv tl ql hX hM hG hV hl hl2;match x,hw,ht with
 |⟨op,n,eH,pl,own,none,none⟩,hw,ht=>
  rw[nI]at hl hl2;obtain⟨q,hq,⟨h2,h3,h4⟩|⟨h2,h3,h4⟩|⟨h2,h3,h4⟩⟩:=hX;·cases h3;subst h2;rw[ko,kN,ah (by decide),ah (by decide)];exact qyh B c n _ _ L ws vs vl vw vv w hM h4 (by omega)
  ·cases h3;subst h2;rw[kN,aA rfl]at hV;rw[ko,kN,aA rfl,aA rfl,I4 (xD _ _) hV];exact qtv B c _ eH _ L ws vs vl vw vv w hM h4 (by omega) (by omega) (by omega)
  cases h3;subst h2;rw[ko,kN,ah (by decide),ah (by decide)];have:=zdh B c _ (n==1) L ws vs vl vw vv w hM h4 (by omega);rw[qo]at ht;have hn:=ht rfl;match n,hn with| 0,_=>exact this| 1,_=>exact this
 |⟨op,n,eH,pl,own,some l,none⟩,hw,ht=>obtain⟨hop,q,tl',xS,hq,h2,h3,h4⟩:=hX;cases h2;rw[nU]at hw;rw[qo]at ht;rw[nI]at hl hl2;rw[kN]at hV |-;rw[ko];refine zoo B c _ tl' xS VV l _ L ws vs w h3 (EW B c VV l hw.2 ht w L ws vs vl vw vv tl' xS h4 hM hG hV (by omega) (by omega)) ?_;have:=vU (fF VV) l;have:=Ci l;simp;omega
 |⟨op,n,eH,pl,own,some l,some r⟩,hw,ht=>
 obtain⟨q,tl',xS,tr,qr,hq,h2,h3,h4,h5⟩:=hX;cases h2;rw[nU]at hw;rw[qo]at ht;rw[nI]at hl hl2;rw[kN]at hV |-;rw[ko];have e1:=vU (fF VV) l;have e2:=Ci l;have e3:=vU (fF VV) r;have e4:=Ci r;have e5:=FN l vs;refine zit B c _ tl' xS tr qr op VV l r _ L ws vs w hq hG h3 (EW B c VV l hw.2.1 ht.1 w L ws vs vl vw vv tl' xS h4 hM hG ((Gy r _).trans hV) (by omega) (by omega)) ?_ (by simp;omega);rintro w1 ⟨b1,mQ,qg,qh,h1⟩;exact EW B c VV r hw.2.2 ht.2 w1 _ ws _ mQ qg qh tr qr (h5.keep fun k hk=>b1.block k hk) h1 (hG.below b1) hV (by simp;omega) (by omega)
end Mk
namespace Px
theorem TB(iv:dX->Nat)(x:Option fG):(mO iv x).length<=wB x+1:=by
 cases x with| none=>simp[mO]| some e=>
 have:=vU iv e;have:=Ci e;show(ko iv e).length<=nI e+1;omega
theorem ZG(x:Option fG)(vs:List dX):(oC x vs).length<=vs.length+wB x:=by cases x with| none=>simp[oC]| some e=>exact FN e vs
theorem zw0(iw iv:dX->Nat)(eH:dX)(ex:Option fG)(gH undo:dX)(n:Nat):(yu iw iv eH ex gH undo n).length<=wB ex+4:=by have:=TB iv ex;unfold yu;split<;>simp<;>omega
theorem ZH(iw iv:dX->Nat)(x:Sm)(h1:∀p,(gL iw iv x.one p).length<=mY x.one)(h2:∀p,(gL iw iv x.two p).length<=mY x.two)(p:Nat):(lM iw iv x p).length<=lZ x:=by
 have e1:=TB iv x.ex;have e2:=zw0 iw iv x.eH x.ex x.gH x.undo x.n;unfold lM lZ;split;·simp;omega
 split;·omega
 split
 ·have a1:=h1 (p+(mO iv x.ex).length+1);have a2:=h2 (p+(mO iv x.ex).length+1+(gL iw iv x.one (p+(mO iv x.ex).length+1)).length+1);dsimp only;split;·simp;omega
  simp;omega
 split;·have a1:=h1 (p+1);have a2:=h2 (p+1+(gL iw iv x.one (p+1)).length+1);simp;omega
 split;·have a1:=h1 (p+2);simp;omega
 simp;omega
theorem DI(iw iv:dX->Nat)(l:List Sm):∀p,(gL iw iv l p).length<=mY l:=by
 match l with
 |[]=>intro p;rw[Gq,BR];exact ay _
 |⟨op,eH,pl,ex,gH,gG,undo,n,gZ,one,two⟩::rest=>
 intro p;rw[Ei,FH,aC];have:=ZH iw iv ⟨op,eH,pl,ex,gH,gG,undo,n,gZ,one,two⟩ (DI iw iv one) (DI iw iv two) p;have:=DI iw iv rest (p+(lM iw iv ⟨op,eH,pl,ex,gH,gG,undo,n,gZ,one,two⟩ p).length);omega
theorem zvw(eH undo:dX)(ws:List dX):(xG eH undo ws).length<=ws.length+2:=by have:=Ij ws eH;have:=Ij (iK ws eH) undo;unfold xG;split<;>omega
theorem ZI(x:Sm)(h1:∀ws,(kI x.one ws).length<=ws.length+mY x.one)(h2:∀ws,(kI x.two ws).length<=ws.length+mY x.two)(ws:List dX):(l9 x ws).length<=ws.length+lZ x:=by
 have a0:=zvw x.eH x.undo ws;have a1:=h1 ws;have a2:=h2 (kI x.one ws);unfold l9 lZ
 repeat' split
 all_goals omega
theorem FP(l:List Sm):∀ws,(kI l ws).length<=ws.length+mY l:=by
 match l with
 |[]=>intro ws;rw[MC];omega
 |⟨op,eH,pl,ex,gH,gG,undo,n,gZ,one,two⟩::rest=>
 intro ws;rw[Gx,FH];have:=ZI ⟨op,eH,pl,ex,gH,gG,undo,n,gZ,one,two⟩ (FP one) (FP two) ws;have:=FP rest (l9 ⟨op,eH,pl,ex,gH,gG,undo,n,gZ,one,two⟩ ws);omega
theorem ZJ(x:Sm)(h1:∀ws,(jw x.one ws).length<=ws.length+mY x.one)(h2:∀ws,(jw x.two ws).length<=ws.length+mY x.two)(vs:List dX):(lI x vs).length<=vs.length+lZ x:=by
 have a0:=ZG x.ex vs;have a1:=Ij (oC x.ex vs) x.eH;have a2:=Ij (oC x.ex vs) x.gH;have b1:=h1 vs;have b2:=h2 (jw x.one vs);have b3:=h1 (oC x.ex vs);have b4:=h2 (jw x.one (oC x.ex vs));unfold lI lZ
 repeat' split
 all_goals omega
theorem DJ(l:List Sm):∀vs,(jw l vs).length<=vs.length+mY l:=by
 match l with
 |[]=>intro ws;rw[ME];omega
 |⟨op,eH,pl,ex,gH,gG,undo,n,gZ,one,two⟩::rest=>
 intro ws;rw[En,FH];have:=ZJ ⟨op,eH,pl,ex,gH,gG,undo,n,gZ,one,two⟩ (DJ one) (DJ two) ws;have:=DJ rest (lI ⟨op,eH,pl,ex,gH,gG,undo,n,gZ,one,two⟩ ws);omega
end Px
namespace Mk
open Px
theorem zha(P R:List fC)(i:fC)(f:fC->fC):(P++(i::R)).modify P.length f=P++(f i::R):=by induction P with| nil=>rfl| cons x P ih=>simp only[bJ,aG,List.modify_succ_cons,ih]
theorem ZK(P R:List fC)(k:Nat):pF (P++(⟨k,0,0⟩::R)) P.length=P++(⟨k,P.length+1+R.length,0⟩::R):=by unfold pF;rw[zha];simp;omega
def vI(B c:Nat)(v:dZ)(L:List fC)(ws vs:List dX)(w:dY):Prop:=fI 51 #[fq c,v] w fun e w'=>e=fM (.tuple #[])/\jI B c L ws vs w w'
theorem zky(B c q:Nat)(a1 a2:Option Addr)(n1 n2 k1 k2:Nat)(L L1 L2 L3 L4 L5:List fC)(ws vs uP vs1 mX vs2:List dX)(vl vw vv:dZ)(w:dY)(qc:q<B)(hM:iA w B c L ws vs vl vw vv)(h4:w.heap[q]?=some (.cells #[.slice a1 n1 k1,.slice a2 n2 k2] 345))(e1:L++[⟨15,0,0⟩]=L1)(e3:pF (L2++[⟨16,0,0⟩]) L.length=L3)(e5:pF L4 L2.length=L5)(hl1:L.length<=10000000)(hl2:L2.length<=10000000)(hl3:L.length<(L2++[(⟨16,0,0⟩:fC)]).length)(hl4:L2.length<L4.length)(FQ:∀w1,jI B c L1 ws vs w w1->vI B c (.slice a1 n1 k1) L2 uP vs1 w1)(hC2:∀w1,jI B c L3 uP vs1 w w1->vI B c (.slice a2 n2 k2) L4 mX vs2 w1):fI 169 #[fq c,fq q] w fun e w'=>e=fM (.tuple #[])/\jI B c L5 mX vs2 w w':=by
 have CQ:Hid (∀W,Below B w W->W.cell? ⟨q,0,none⟩=some (.slice a1 n1 k1)/\W.cell? ⟨q,1,none⟩=some (.slice a2 n2 k2)/\∀o,W.frozen? ⟨q,o,none⟩=false):=fun W hb=>uO ((hb.block q qc).trans h4);have HM:Hid (iA w B c L ws vs vl vw vv):=hM;have FT:Hid (∀w1,jI B c L1 ws vs w w1->vI B c (.slice a1 n1 k1) L2 uP vs1 w1):=FQ;have Cj:Hid (∀w1,jI B c L3 uP vs1 w w1->vI B c (.slice a2 n2 k2) L4 mX vs2 w1):=hC2;have HL:Hid (L.length<=10000000/\L2.length<=10000000/\L.length<(L2++[(⟨16,0,0⟩:fC)]).length/\L2.length<L4.length):=⟨hl1,hl2,hl3,hl4⟩;have E1:Hid (L++[⟨15,0,0⟩]=L1):=e1;have E3:Hid (pF (L2++[⟨16,0,0⟩]) L.length=L3):=e3;have E5:Hid (pF L4 L2.length=L5):=e5;obtain⟨c0,c1,cf⟩:=CQ.o w (aF B w);go_enter Tryz.func169,Tryz.ntmps169;go_wp2_with fail;refine(Ih B c 15 L ws vs vl vw vv w HM.o HL.o.1).mono ?_;rintro e w1 ⟨rfl,h1⟩;rw[E1.o]at h1;have H1:Hid (jI B c L1 ws vs w w1):=h1;obtain⟨c0,c1,cf⟩:=CQ.o w1 H1.o.1;go_wp2_with fail;refine aB (FT.o w1 H1.o) ?_;rintro e w2 ⟨rfl,b2,om,zL,zM,h2⟩;have H2:Hid (Below B w w2/\iA w2 B c L2 uP vs1 om zL zM):=⟨H1.o.1.trans b2,h2⟩;go_wp2_with fail;refine(Ih B c 16 L2 _ _ om zL zM w2 H2.o.2 HL.o.2.1).mono ?_;rintro e w3 ⟨rfl,b3,oW,tF,tH,h3⟩;have H3:Hid (Below B w w3/\iA w3 B c (L2++[⟨16,0,0⟩]) uP vs1 oW tF tH):=⟨H2.o.1.trans b3,h3⟩;go_wp2_with fail;refine(Ii B c L.length _ _ _ oW tF tH w3 H3.o.2 HL.o.2.2.1).mono ?_;rintro e w4 ⟨rfl,b4,h4⟩;rw[E3.o]at h4;have H4:Hid (jI B c L3 uP vs1 w w4):=⟨H3.o.1.trans b4,h4⟩;obtain⟨c0,c1,cf⟩:=CQ.o w4 H4.o.1;go_wp2_with fail;refine aB (Cj.o w4 H4.o) ?_;rintro e w5 ⟨rfl,b5,DK,DL,DN,h5⟩;have H5:Hid (Below B w w5/\iA w5 B c L4 mX vs2 DK DL DN):=⟨H4.o.1.trans b5,h5⟩;go_wp2_with fail;refine(Ii B c L2.length L4 _ _ DK DL DN w5 H5.o.2 HL.o.2.2.2).mono ?_;rintro e w6 ⟨rfl,b6,h6⟩;rw[E5.o]at h6;have H6:Hid (jI B c L5 mX vs2 w w6):=⟨H5.o.1.trans b6,h6⟩;go_wp2_with fail;go_end0
 exact⟨rfl,H6.o⟩
def Az(B c tl ql:Nat)(L:List fC)(ws vs:List dX)(w:dY):Prop:=fI 164 #[fq c,.iface tl (fq ql)] w fun e w'=>e=fM (.tuple #[])/\jI B c L ws vs w w'
theorem qxk(B c q qn n:Nat)(pn:dZ)(a1:Option Addr)(n1 k1:Nat)(L L1 L2 L3 L4 L5:List fC)(ws vs uP vs1:List dX)(vl vw vv:dZ)(w:dY)(qc:q<B)(hM:iA w B c L ws vs vl vw vv)(h4:w.heap[q]?=some (.cells #[fq qn,.slice a1 n1 k1] 316))(h5:w.heap[qn]?=some (.cells #[eF (n:Int),pn] 322))(e1:L++[⟨0,n,0⟩]=L1)(e2:L1++[⟨14,0,0⟩]=L2)(e4:L3++[⟨12,L1.length,0⟩]=L4)(e5:pF L4 L1.length=L5)(hl1:L.length<=10000000)(hl2:L1.length<=10000000)(hl3:L3.length<=10000000)(hl4:L1.length<L4.length)(FQ:∀w1,jI B c L2 ws vs w w1->vI B c (.slice a1 n1 k1) L3 uP vs1 w1):fI 170 #[fq c,fq q] w fun e w'=>e=fM (.tuple #[])/\jI B c L5 uP vs1 w w':=by
 have CQ:Hid (∀W,Below B w W->W.cell? ⟨q,0,none⟩=some (fq qn)/\W.cell? ⟨q,1,none⟩=some (.slice a1 n1 k1)/\∀o,W.frozen? ⟨q,o,none⟩=false):=fun W hb=>uO ((hb.block q qc).trans h4);have HM:Hid (iA w B c L ws vs vl vw vv):=hM;have FT:Hid (∀w1,jI B c L2 ws vs w w1->vI B c (.slice a1 n1 k1) L3 uP vs1 w1):=FQ;have HL:Hid (L.length<=10000000/\L1.length<=10000000/\L3.length<=10000000/\L1.length<L4.length):=⟨hl1,hl2,hl3,hl4⟩;have E1:Hid (L++[⟨0,n,0⟩]=L1):=e1;have E2:Hid (L1++[⟨14,0,0⟩]=L2):=e2;have E4:Hid (L3++[⟨12,L1.length,0⟩]=L4):=e4;have E5:Hid (pF L4 L1.length=L5):=e5;obtain⟨d0,d1,df⟩:=uO h5;obtain⟨c0,c1,cf⟩:=CQ.o w (aF B w);go_enter Tryz.func170,Tryz.ntmps170;go_wp2_with fail;refine(xX B c 0 n L ws vs vl vw vv w HM.o HL.o.1).mono ?_;rintro e w1 ⟨rfl,b1,mQ,qg,qh,h1⟩;rw[E1.o]at h1;have H1:Hid (Below B w w1/\iA w1 B c L1 ws vs mQ qg qh):=⟨b1,h1⟩;go_wp2_with fail;refine(Ih B c 14 L1 _ _ mQ qg qh w1 H1.o.2 HL.o.2.1).mono ?_;rintro e w2 ⟨rfl,b2,h2⟩;rw[E2.o]at h2;have H2:Hid (jI B c L2 ws vs w w2):=⟨H1.o.1.trans b2,h2⟩;obtain⟨c0,c1,cf⟩:=CQ.o w2 H2.o.1;go_wp2_with fail;refine aB (FT.o w2 H2.o) ?_;rintro e w3 ⟨rfl,b3,oW,tF,tH,h3⟩;have H3:Hid (Below B w w3/\iA w3 B c L3 uP vs1 oW tF tH):=⟨H2.o.1.trans b3,h3⟩;go_wp2_with fail;refine(xX B c 12 L1.length L3 _ _ oW tF tH w3 H3.o.2 HL.o.2.2.1).mono ?_;rintro e w4 ⟨rfl,b4,GZ,Ky,Kz,h4⟩;rw[E4.o]at h4;have H4:Hid (Below B w w4/\iA w4 B c L4 uP vs1 GZ Ky Kz):=⟨H3.o.1.trans b4,h4⟩;go_wp2_with fail;refine(Ii B c L1.length L4 _ _ GZ Ky Kz w4 H4.o.2 HL.o.2.2.2).mono ?_;rintro e w6 ⟨rfl,b6,h6⟩;rw[E5.o]at h6;have H6:Hid (jI B c L5 uP vs1 w w6):=⟨H4.o.1.trans b6,h6⟩;go_wp2_with fail;go_end0
 exact⟨rfl,H6.o⟩
theorem qwo(B c q qr tl ql:Nat)(pn:dZ)(a1 a2:Option Addr)(n1 k1 k2:Nat)(L1 L2 L3 L5:List fC)(ws vs1 mX vs2:List dX)(w:dY)(qc:q<B)(h4:w.heap[q]?=some (.cells #[fq qr,.slice a1 n1 k1,.slice a2 0 k2] 342))(h5:w.heap[qr]?=some (.cells #[.iface tl (fq ql),pn] 340))(e2:L1++[⟨13,0,0⟩]=L2)(e5:pF L3 L1.length=L5)(hl1:L1.length<=10000000)(hl4:L1.length<L3.length)(hC0:Az B c tl ql L1 ws vs1 w)(FQ:∀w1,jI B c L2 ws vs1 w w1->vI B c (.slice a1 n1 k1) L3 mX vs2 w1):fI 168 #[fq c,fq q] w fun e w'=>e=fM (.tuple #[])/\jI B c L5 mX vs2 w w':=by
 have CQ:Hid (∀W,Below B w W->W.cell? ⟨q,0,none⟩=some (fq qr)/\W.cell? ⟨q,1,none⟩=some (.slice a1 n1 k1)/\W.cell? ⟨q,2,none⟩=some (.slice a2 0 k2)/\∀o,W.frozen? ⟨q,o,none⟩=false):=fun W hb=>cells3 ((hb.block q qc).trans h4);have KA:Hid (Az B c tl ql L1 ws vs1 w):=hC0;have FT:Hid (∀w1,jI B c L2 ws vs1 w w1->vI B c (.slice a1 n1 k1) L3 mX vs2 w1):=FQ;have HL:Hid (L1.length<=10000000/\L1.length<L3.length):=⟨hl1,hl4⟩;have E2:Hid (L1++[⟨13,0,0⟩]=L2):=e2;have E5:Hid (pF L3 L1.length=L5):=e5;obtain⟨d0,d1,df⟩:=uO h5;obtain⟨c0,c1,c2,cf⟩:=CQ.o w (aF B w);go_enter Tryz.func168,Tryz.ntmps168;go_wp2_with fail;refine aB KA.o ?_;rintro e w1 ⟨rfl,b1,mQ,qg,qh,h1⟩;have H1:Hid (Below B w w1/\iA w1 B c L1 ws vs1 mQ qg qh):=⟨b1,h1⟩;go_wp2_with fail;refine(Ih B c 13 L1 _ _ mQ qg qh w1 H1.o.2 HL.o.1).mono ?_;rintro e w2 ⟨rfl,b2,h2⟩;rw[E2.o]at h2;have H2:Hid (jI B c L2 ws vs1 w w2):=⟨H1.o.1.trans b2,h2⟩;obtain⟨c0,c1,c2,cf⟩:=CQ.o w2 H2.o.1;go_wp2_with fail;refine aB (FT.o w2 H2.o) ?_;rintro e w3 ⟨rfl,b3,oW,tF,tH,h3⟩;have H3:Hid (Below B w w3/\iA w3 B c L3 mX vs2 oW tF tH):=⟨H2.o.1.trans b3,h3⟩;obtain⟨c0,c1,c2,cf⟩:=CQ.o w3 H3.o.1;go_wp2_with fail;refine(Ii B c L1.length L3 _ _ oW tF tH w3 H3.o.2 HL.o.2).mono ?_;rintro e w6 ⟨rfl,b6,h6⟩;rw[E5.o]at h6;have H6:Hid (jI B c L5 mX vs2 w w6):=⟨H3.o.1.trans b6,h6⟩;go_wp2_with fail;go_end0
 exact⟨rfl,H6.o⟩
theorem qwn(B c q qr tl ql:Nat)(pn:dZ)(a1 a2:Option Addr)(n1 n2 k1 k2:Nat)(L1 L2 L3 L5 L6 L7:List fC)(ws vs1 mX vs2 oG vs3:List dX)(w:dY)(qc:q<B)(h4:w.heap[q]?=some (.cells #[fq qr,.slice a1 n1 k1,.slice a2 n2 k2] 342))(hn2:0<n2)(h5:w.heap[qr]?=some (.cells #[.iface tl (fq ql),pn] 340))(e2:L1++[⟨13,0,0⟩]=L2)(e5:pF (L3++[⟨12,0,0⟩]) L1.length=L5)(e7:pF L6 L3.length=L7)(hl1:L1.length<=10000000)(hl3:L3.length<=10000000)(hl4:L1.length<(L3++[(⟨12,0,0⟩:fC)]).length)(hl6:L3.length<L6.length)(hC0:Az B c tl ql L1 ws vs1 w)(FQ:∀w1,jI B c L2 ws vs1 w w1->vI B c (.slice a1 n1 k1) L3 mX vs2 w1)(hC2:∀w1,jI B c L5 mX vs2 w w1->vI B c (.slice a2 n2 k2) L6 oG vs3 w1):fI 168 #[fq c,fq q] w fun e w'=>e=fM (.tuple #[])/\jI B c L7 oG vs3 w w':=by
 have CQ:Hid (∀W,Below B w W->W.cell? ⟨q,0,none⟩=some (fq qr)/\W.cell? ⟨q,1,none⟩=some (.slice a1 n1 k1)/\W.cell? ⟨q,2,none⟩=some (.slice a2 n2 k2)/\∀o,W.frozen? ⟨q,o,none⟩=false):=fun W hb=>cells3 ((hb.block q qc).trans h4);have KA:Hid (Az B c tl ql L1 ws vs1 w):=hC0;have FT:Hid (∀w1,jI B c L2 ws vs1 w w1->vI B c (.slice a1 n1 k1) L3 mX vs2 w1):=FQ;have Cj:Hid (∀w1,jI B c L5 mX vs2 w w1->vI B c (.slice a2 n2 k2) L6 oG vs3 w1):=hC2;have HL:Hid (L1.length<=10000000/\L3.length<=10000000/\L1.length<(L3++[(⟨12,0,0⟩:fC)]).length/\L3.length<L6.length):=⟨hl1,hl3,hl4,hl6⟩;have E2:Hid (L1++[⟨13,0,0⟩]=L2):=e2;have E5:Hid (pF (L3++[⟨12,0,0⟩]) L1.length=L5):=e5;have E7:Hid (pF L6 L3.length=L7):=e7;obtain⟨d0,d1,df⟩:=uO h5;obtain⟨c0,c1,c2,cf⟩:=CQ.o w (aF B w);go_enter Tryz.func168,Tryz.ntmps168;go_wp2_with fail;refine aB KA.o ?_;rintro e w1 ⟨rfl,b1,mQ,qg,qh,h1⟩;have H1:Hid (Below B w w1/\iA w1 B c L1 ws vs1 mQ qg qh):=⟨b1,h1⟩;go_wp2_with fail;refine(Ih B c 13 L1 _ _ mQ qg qh w1 H1.o.2 HL.o.1).mono ?_;rintro e w2 ⟨rfl,b2,h2⟩;rw[E2.o]at h2;have H2:Hid (jI B c L2 ws vs1 w w2):=⟨H1.o.1.trans b2,h2⟩;obtain⟨c0,c1,c2,cf⟩:=CQ.o w2 H2.o.1;go_wp2_with fail;refine aB (FT.o w2 H2.o) ?_;rintro e w3 ⟨rfl,b3,oW,tF,tH,h3⟩;have H3:Hid (Below B w w3/\iA w3 B c L3 mX vs2 oW tF tH):=⟨H2.o.1.trans b3,h3⟩;obtain⟨c0,c1,c2,cf⟩:=CQ.o w3 H3.o.1;go_wp2_with fail;refine(Ih B c 12 L3 _ _ oW tF tH w3 H3.o.2 HL.o.2.1).mono ?_;rintro e w4 ⟨rfl,b4,GZ,Ky,Kz,h4⟩;have H4:Hid (Below B w w4/\iA w4 B c (L3++[⟨12,0,0⟩]) mX vs2 GZ Ky Kz):=⟨H3.o.1.trans b4,h4⟩;go_wp2_with fail;refine(Ii B c L1.length _ _ _ GZ Ky Kz w4 H4.o.2 HL.o.2.2.1).mono ?_;rintro e w5 ⟨rfl,b5,h5⟩;rw[E5.o]at h5;have H5:Hid (jI B c L5 mX vs2 w w5):=⟨H4.o.1.trans b5,h5⟩;obtain⟨c0,c1,c2,cf⟩:=CQ.o w5 H5.o.1;go_wp2_with fail;refine aB (Cj.o w5 H5.o) ?_;rintro e w6 ⟨rfl,b6,AA,AB,AJ,h6⟩;have H6:Hid (Below B w w6/\iA w6 B c L6 oG vs3 AA AB AJ):=⟨H5.o.1.trans b6,h6⟩;go_wp2_with fail;refine(Ii B c L3.length L6 _ _ AA AB AJ w6 H6.o.2 HL.o.2.2.2).mono ?_;rintro e w7 ⟨rfl,b7,h7⟩;rw[E7.o]at h7;have H7:Hid (jI B c L7 oG vs3 w w7):=⟨H6.o.1.trans b7,h7⟩;go_wp2_with fail;go_end0
 exact⟨rfl,H7.o⟩
