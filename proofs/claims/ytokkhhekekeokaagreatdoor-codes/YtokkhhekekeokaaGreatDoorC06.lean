import Derived.Test.YtokkhhekekeokaaGreatDoorC05
import Derived.Test.YtokkhhekekeokaaGreatDoorC01
import Derived.BigQuiet
set_option maxRecDepth 100000
set_option maxHeartbeats 4000000
namespace Go.Proofs.YtokkhhekekeokaaGreatDoor
open Go.RowKit Tryz
namespace Ref
open Px
def Bt (l:List Px.Ask):List fC:=l.flatMap fun a=>[.string a.fD,.int .i64 a.arg,.int .i64 (a.nth:Int),.bool a.undo]
def qK (l:List (fq×Int)):List fC:=l.flatMap fun a=>[.string a.1,.int .i64 a.2]
def intCells (l:List Int):List fC:=l.map (Value.int .i64)
theorem V7 (l:List (fq×Int))(i:Nat)(h:i < l.length):(qK l)[i * 2]?=some (.string l[i].1)/\(qK l)[i * 2+1]?=some (.int .i64 l[i].2):=by
 induction l generalizing i with
 | nil=>simp at h
 | cons v l ih =>
  cases i with
  | zero=>exact ⟨rfl,rfl⟩
  | succ i =>
   have:=ih i (by simpa using h)
   have e:(i+1) * 2=i * 2+2:=by omega
   rw[e];exact this
theorem Ek (l:List Px.Ask)(a:Px.Ask):Bt (l++[a])=Bt l++[.string a.fD,.int .i64 a.arg,.int .i64 (a.nth:Int),.bool a.undo]:=by simp[Bt]
theorem E6 (l:List (fq×Int))(a:fq×Int):qK (l++[a])=qK l++[.string a.1,.int .i64 a.2]:=by simp[qK]
def oQ (w:fu)(v:fC)(l:List Int):Prop :=
 ∃ ad cap,v=.slice ad l.length cap/\l.length<=maxLen/\l.length<=cap/\(0 < l.length->∃ g off cur ty,ad=some ⟨g,off,none⟩/\w.heap[g]?=some (.cells cur ty (0,0))/\∀ i (hi:i < l.length),cur[off+i]?=some (.int .i64 l[i]))
variable {T:Nat->Prop}{W w w':fu}{v va vh vl vp vv:fC}
theorem oQ.jG {l:List Int}(h:oQ w v l)(ht:fO T w w')(hn:∀ k,v.ownBlock=some k->¬ T k):oQ w' v l:=by
 obtain ⟨ad,cap,rfl,h2,h3,h4⟩:=h;refine ⟨ad,cap,rfl,h2,h3,fun hl=>?_⟩
 obtain ⟨g,off,cur,ty,rfl,h5,h6⟩:=h4 hl;exact ⟨g,off,cur,ty,rfl,by rw[ht.block g (aG.1 h5).1 (hn g rfl)];exact h5,h6⟩
structure St (w:fu)(B c:Nat)(V:Vs)(s:Rs)(vv vh vl va vp:fC)(pv ex:List fC):Prop where
 hB:B<=c
 at_:w.heap[c]?=some (.cells #[vv,vh,vl,va,vp,.int .i64 (s.over:Int),.bool s.stop,.bool s.failed] 59)
 vars:w.ownsRow 0 315 2 vv V.length (rP V)
 mV:∀ k,vv.ownBlock=some k->k < B
 held:w.ownsRow B 3 1 vh s.held.length (intCells s.held)
 left:oQ w vl s.left
 fI:w.ownsRow B 68 4 va s.fI.length (Bt s.fI)
 fG:w.ownsRow B 187 1 vp s.fG.length pv
 each:∀ (i:Nat) (p:List (fq×Int)) (v:fC),s.fG[i]?=some p->pv[i]?=some v->w.ownsRow B 190 2 v p.length (qK p)
 sep:Sep B c w (vh::vl::va::vp::(pv++ex))
variable {B c cap g i off:Nat}{V:Vs}{s:Rs}{ex pv:List fC}
theorem St.lt (h:St w B c V s vv vh vl va vp pv ex):c < w.heap.size:=(aG.1 h.at_).1
theorem St.Mc (h:St w B c V s vv vh vl va vp pv ex):pv.length=s.fG.length:=by have:=h.fG.1;omega
theorem St.own {w w':fu}{B c:Nat}{V:Vs}{s s':Rs}{vv vh vl va vp:fC}{pv ex:List fC}(h:St w B c V s vv vh vl va vp pv ex)(ht:fO (·=c) w w')(hc:w'.heap[c]?=some (.cells #[vv,vh,vl,va,vp,.int .i64 (s'.over:Int),.bool s'.stop,.bool s'.failed] 59))(e1:s'.held=s.held)(e2:s'.left=s.left)(e3:s'.fI=s.fI)(e4:s'.fG=s.fG):St w' B c V s' vv vh vl va vp pv ex:=by
 have hc0:=h.lt;have hB:=h.hB;have hne:∀ v∈vh::vl::va::vp::(pv++ex),∀ k,v.ownBlock=some k->¬ k=c:=fun v hv k hk=>(h.sep.own v hv k hk).2.1
 refine ⟨hB,hc,gZ h.vars ht fun k hk=>by have:=h.mV k hk;omega,h.mV,?_,?_,?_,?_,?_,h.sep.world ht.size⟩
 ·rw[e1];exact gZ h.held ht (hne _ (by simp))
 ·rw[e2];exact h.left.jG ht (hne _ (by simp))
 ·rw[e3];exact gZ h.fI ht (hne _ (by simp))
 ·rw[e4];exact gZ h.fG ht (hne _ (by simp))
 ·intro i p v hp hv;rw[e4] at hp;exact gZ (h.each i p v hp hv) ht (hne _ (by simp[List.mem_of_getElem? hv]))
theorem Md (B c:Nat)(V:Vs)(s:Rs)(vv vh vl va vp:fC)(pv ex:List fC)(w:fu)(h:St w B c V s vv vh vl va vp pv ex) :
  Calls prog 86 #[.pointer (some ⟨c,0,none⟩)] w fun e w'=>e=.returned (.bool s.going)/\w=w':=by
 obtain ⟨c0,c1,c2,c3,c4,c5,c6,c7,cf⟩:=nk h.at_;have hg:Hid (s.going=(((s.over:Int) == 0) && !s.stop && !s.failed)):=by
  unfold Hid Rs.going;congr 2;rw[bA];simp
 clear h;cases h1:((s.over:Int) == 0)
 all_goals
  cases h2:s.stop
  all_goals
   rw[h2] at c6;go_enter func86,ntmps86
   go_wp2_with fail;go_ret;exact ⟨uK (by rw[hg.o,h1,h2];simp),rfl⟩
theorem Bu (b:Bool)(w:fu) :
  Calls prog 162 #[.bool b] w fun e w'=>e=.returned (.int .i64 (Px.truth b))/\w=w':=by
 cases b
 all_goals
  go_enter func162,ntmps162
  go_wp2_with fail;go_ret;exact ⟨rfl,rfl⟩
theorem Py:(prog.info? 68).map (fun i=>(i.zero,i.size,i.bytes))=some (some (.agg #[.string ⟨#[]⟩,.int .i64 0,.int .i64 0,.bool false]),4,40):=by kernel_rfl
theorem St.asked {w3:fu}{va':fC}(h:St w B c V s vv vh vl va vp pv ex)(a:Px.Ask)(hg:fO (fun k=>va.ownBlock=some k) w w3)(hown:w3.ownsRow B 68 4 va' (s.fI.length+1) (Bt (s.fI++[a])))(hloc:va'.ownBlock=va.ownBlock\/∃ n,va'.ownBlock=some n/\w.heap.size<=n/\n < w3.heap.size)(hw':w'=w3.setCell ⟨c,3,none⟩ va'):St w' B c V { s with fI:=s.fI++[a] } vv vh vl va' vp pv ex/\fO (fun k=>k=c\/va.ownBlock=some k) w w':=by
 subst hw';have hc0:=h.lt;have hB:=h.hB;have kN:va.ownBlock≠some c:=fun e=>(h.sep.own va (by simp) c e).2.1 rfl
 have hc3:w3.heap[c]?=_:=(hg.block c hc0 kN).trans h.at_;have hT:fO (fun k=>k=c\/va.ownBlock=some k) w (w3.setCell ⟨c,3,none⟩ va'):=fO.setCell (T:=fun k=>k=c\/va.ownBlock=some k) (hg.mono fun k _ hk=>ah hk) (p:=⟨c,3,none⟩) (ak (ak rfl)) _
 have hcn':va'.ownBlock≠some c:=fun e=>by
  rcases hloc with hl | ⟨n,hl,h1,h2⟩
  ·rw[hl] at e;exact kN e
  ·rw[hl] at e;cases e;omega
 have hne:∀ i v,i≠2->(vh::vl::va::vp::(pv++ex))[i]?=some v->∀ k,v.ownBlock=some k->¬ (k=c\/va.ownBlock=some k):=by
  intro i v hi hv k hk hh;rcases hh with rfl | hh
  ·exact (h.sep.own v (bJ hv) _ hk).2.1 rfl
  ·exact h.sep.mem hv (show (vh::vl::va::vp::(pv++ex))[2]?=some va from rfl) hi k hk hh
 refine ⟨⟨hB,?_,gZ h.vars hT fun k hk hh=>?_,h.mV,gZ h.held hT (hne 0 _ (by decide) rfl),h.left.jG hT (hne 1 _ (by decide) rfl),?_,gZ h.fG hT (hne 3 _ (by decide) rfl),?_,?_⟩,hT⟩
 ·rw[heap_set _ hc3];simp
 ·have:=h.mV k hk
  rcases hh with rfl | hh
  ·omega
  ·have:=(h.sep.own va (by simp) k hh).1;omega
 ·rw[ay];exact ownsRow_setCell_other hown hcn' _
 ·intro i p v hp hv;refine gZ (h.each i p v hp hv) hT (hne (4+i) v (by omega) ?_)
  rw[show 4+i=i+1+1+1+1 by omega,aM,aM,aM,aM,aQ (by have:=(aU.1 hv).1;exact this)]
  exact hv
 ·refine Sep.turn (A:=[vh,vl]) (v:=va) (R:=vp::(pv++ex)) h.sep hT.size (by omega) hc0 ?_
  rcases hloc with hl | ⟨n,hl,h1,h2⟩
  ·exact ak hl
  ·exact ah (ah ⟨n,hl,h1,by simpa [World.setCell] using h2⟩)
def uo (B c:Nat)(V:Vs)(a:Px.Ask)(s:Rs)(vv vh va vp:fC)(pv ex:List fC)(w:fu)(e:Ending)(w':fu):Prop :=
 e=.returned (.tuple #[.int .i64 ((Px.ask a s).1.getD 0),.bool (Px.ask a s).1.isSome])/\∃ vl' va',St w' B c V (Px.ask a s).2 vv vh vl' va' vp pv ex/\fO (fun k=>k=c\/va.ownBlock=some k) w w'
theorem qL {o:Nat}(h:fO T w w')(hc:T c):fO T w (w'.setCell ⟨c,o,none⟩ v):=h.setCell (p:=⟨c,o,none⟩) (ak hc) v
theorem St.stopped (h:St w B c V s vv vh vl va vp pv ex):St (w.setCell ⟨c,6,none⟩ (.bool true)) B c V { s with stop:=true } vv vh vl va vp pv ex :=
 h.own (qL (fO.refl _ _) rfl) (by rw[heap_set _ h.at_];simp) rfl rfl rfl rfl
theorem St.Ie {s':Rs}{vl':fC}(h:St w B c V s vv vh vl va vp pv ex)(ht:fO (·=c) w w')(hc:w'.heap[c]?=some (.cells #[vv,vh,vl',va,vp,.int .i64 (s'.over:Int),.bool s'.stop,.bool s'.failed] 59))(hL:oQ w vl' s'.left)(hb:vl'.ownBlock=vl.ownBlock)(e1:s'.held=s.held)(e3:s'.fI=s.fI)(e4:s'.fG=s.fG):St w' B c V s' vv vh vl' va vp pv ex:=by
 have hc0:=h.lt;have hB:=h.hB;have hne:∀ v∈vh::vl::va::vp::(pv++ex),∀ k,v.ownBlock=some k->¬ k=c:=fun v hv k hk=>(h.sep.own v hv k hk).2.1
 refine ⟨hB,hc,gZ h.vars ht fun k hk=>by have:=h.mV k hk;omega,h.mV,?_,?_,?_,?_,?_,?_⟩
 ·rw[e1];exact gZ h.held ht (hne _ (by simp))
 ·exact hL.jG ht fun k hk=>hne vl (by simp) k (by rw[<- hb];exact hk)
 ·rw[e3];exact gZ h.fI ht (hne _ (by simp))
 ·rw[e4];exact gZ h.fG ht (hne _ (by simp))
 ·intro i p v hp hv;rw[e4] at hp;exact gZ (h.each i p v hp hv) ht (hne _ (by simp[List.mem_of_getElem? hv]))
 ·exact Sep.turn (A:=[vh]) (v:=vl) (R:=va::vp::(pv++ex)) h.sep ht.size (by omega) hc0 (ak hb)
variable {n:Int}{r:List Int}
theorem St.less (h:St w B c V s vv vh (.slice (some ⟨g,off,none⟩) (r.length+1) cap) va vp pv ex)(hl:s.left=n::r) :
  St (w.setCell ⟨c,2,none⟩ (.slice (some ⟨g,off+1,none⟩) r.length (cap - 1))) B c V { s with left:=r } vv vh (.slice (some ⟨g,off+1,none⟩) r.length (cap - 1)) va vp pv ex:=by
 refine h.Ie (qL (fO.refl _ _) rfl) (by rw[heap_set _ h.at_];simp) ?_ rfl rfl rfl rfl
 obtain ⟨ad,cap',e,h2,h3,h4⟩:=h.left;rw[hl] at h2 h3 h4 e;simp only[aC] at h2 h3 e;cases e;refine ⟨_,_,rfl,by dsimp only;omega,by dsimp only;omega,fun _=>?_⟩
 obtain ⟨g',off',cur,ty,e,h5,h6⟩:=h4 (by simp)
 cases e;refine ⟨g,off+1,cur,ty,rfl,h5,fun i hi=>?_⟩
 have:=h6 (i+1) (by simpa using hi)
 rw[show off+1+i=off+(i+1) by omega,this]
 rfl
theorem St.Ig (h:St w B c V s vv vh (.slice (some ⟨g,off,none⟩) (r.length+1) cap) va vp pv ex)(_hl:s.left=n::r)(hr:r.length=0) :
  St (w.setCell ⟨c,2,none⟩ (.slice (some ⟨g,off,none⟩) r.length 0)) B c V { s with left:=r } vv vh (.slice (some ⟨g,off,none⟩) r.length 0) va vp pv ex:=by
 refine h.Ie (qL (fO.refl _ _) rfl) (by rw[heap_set _ h.at_];simp) ?_ rfl rfl rfl rfl
 exact ⟨_,_,rfl,by dsimp only;rw[hr];exact aK _,by dsimp only;omega,fun h=>by dsimp only at h;omega⟩
theorem St.first (h:St w B c V s vv vh vl va vp pv ex)(hl:s.left=n::r) :
  ∃ g off cap,vl=.slice (some ⟨g,off,none⟩) (r.length+1) cap/\r.length+1<=cap/\r.length+1<=maxLen/\w.cell? ⟨g,off,none⟩=some (.int .i64 n):=by
 obtain ⟨ad,cap,e,h2,h3,h4⟩:=h.left;rw[hl] at h2 h3 h4 e;simp only[aC] at h2 h3 e;obtain ⟨g,off,cur,ty,rfl,h5,h6⟩:=h4 (by simp)
 have:=h6 0 (by simp)
 refine ⟨g,off,cap,e,h3,h2,?_⟩;simp only[World.cell?,h5]
 simpa using this
theorem St.Fc {m:Nat}(h:St w B c V s vv vh (.slice (some ⟨g,off,none⟩) m cap) va vp pv ex)(hl:s.left=n::r) :
  w.cell? ⟨g,off,none⟩=some (.int .i64 n)/\∀ o,w.frozen? ⟨g,o,none⟩=false:=by
 obtain ⟨ad,cap',e,h2,h3,h4⟩:=h.left;rw[hl] at h4;simp only[Value.slice.injEq] at e;obtain ⟨g',off',cur,ty,e2,h5,h6⟩:=h4 (by simp)
 rw[<- e.1] at e2;simp only[Option.some.injEq,Addr.mk.injEq,and_true] at e2;obtain ⟨rfl,rfl⟩:=e2
 have:=h6 0 (by simp)
 refine ⟨?_,fun o=>by simp[World.frozen?,h5]⟩
 simp only[World.cell?,h5]
 simpa using this
theorem St.Fd (h:St w B c V s vv vh vl va vp pv ex)(hl:s.left=[]):∃ ad cap,vl=.slice ad 0 cap:=by
 obtain ⟨ad,cap,e,_⟩:=h.left;rw[hl] at e;exact ⟨ad,cap,e⟩
theorem Me {b:Nat}{p q r s:fC}{t:TypeId}(h:W.heap[b]?=some (.cells #[p,q,r,s] t)):∀ j u,[p,q,r,s][j]?=some u->W.cell? ((⟨b,0,none⟩:Addr).add j)=some u:=by
 intro j u hj;match j,hj with
 | 0,hj=>simp at hj;subst hj;simp[Addr.add,World.cell?,h]
 | 1,hj=>simp at hj;subst hj;simp[Addr.add,World.cell?,h]
 | 2,hj=>simp at hj;subst hj;simp[Addr.add,World.cell?,h]
 | 3,hj=>simp at hj;subst hj;simp[Addr.add,World.cell?,h]
theorem Mf (a:Px.Ask)(h:s.left=[]):Px.ask a s=(none,{ s with fI:=s.fI++[a],stop:=true }):=by
 unfold Px.ask;split
 ·rfl
 ·rename_i h';rw[h] at h';cases h'
theorem Fh (a:Px.Ask)(h:s.left=n::r):Px.ask a s=(some n,{ s with fI:=s.fI++[a],left:=r }):=by
 unfold Px.ask;split
 ·rename_i h';rw[h] at h';cases h'
 ·rename_i h';rw[h] at h';cases h';rfl
theorem St.Ff (h:St w B c V s vv vh vl va vp pv ex)(a:Px.Ask)(hW:fO (fun _=>False) w W) :
  ∀ v' w3,w3.ownsRow B 68 4 v' (s.fI.length+1) (Bt s.fI++[.string a.fD,.int .i64 a.arg,.int .i64 (a.nth:Int),.bool a.undo])->W.grownBy w3 va.ownBlock->(v'.ownBlock=va.ownBlock\/v'.ownBlock=some W.heap.size) ->
   ∃ a1 n1 c1,v'=.slice a1 n1 c1/\w3.heap[c]?=some (.cells #[vv,vh,vl,va,vp,.int .i64 (s.over:Int),.bool s.stop,.bool s.failed] 59)/\Hid (St (w3.setCell ⟨c,3,none⟩ v') B c V { s with fI:=s.fI++[a] } vv vh vl v' vp pv ex/\fO (fun k=>k=c\/va.ownBlock=some k) w (w3.setCell ⟨c,3,none⟩ v')):=by
 intro v' w3 hown hg hloc;obtain ⟨a1,n1,c1,rfl⟩:=jm hown;have hT:fO (fun k=>va.ownBlock=some k) w w3:=(hW.mono fun _ _ h=>h.elim).grown hg fun k hk=>ak hk
 have hcz:=h.lt;have kN:va.ownBlock≠some c:=fun e=>(h.sep.own va (by simp) c e).2.1 rfl
 refine ⟨a1,n1,c1,rfl,(hT.block c hcz kN).trans h.at_,h.asked a hT (by rw[Ek];exact hown) ?_ rfl⟩
 rcases hloc with hl | hl
 ·exact ak hl
 ·exact ah ⟨_,hl,hW.size,(hown.lt _ hl).2⟩
theorem V8 (B c:Nat)(V:Vs)(a:Px.Ask)(s:Rs)(vv vh vl va vp:fC)(pv ex:List fC)(w:fu)(h:St w B c V s vv vh vl va vp pv ex)(hl:s.fI.length<=1000000000) :
  Calls prog 88 #[.pointer (some ⟨c,0,none⟩),.agg #[.string a.fD,.int .i64 a.arg,.int .i64 (a.nth:Int),.bool a.undo]] w (uo B c V a s vv vh va vp pv ex w):=by
 obtain ⟨c0,c1,c2,c3,c4,c5,c6,c7,cf⟩:=nk h.at_;have hB:=h.hB;have hcz:=h.lt;obtain ⟨i0,hi,hz0,hz1,hz2⟩:=info_parts Py;obtain ⟨aa,an,ac,rfl⟩:=jm h.fI;have H:Hid (_):=h;clear h;generalize hA:(Obj.cells #[.string a.fD,.int .i64 a.arg,.int .i64 (a.nth:Int),.bool a.undo] 68)=A;have hW:fO (fun _=>False) w (((w.alloc A).alloc A).drew):=(((fO.refl _ _).alloc _).alloc _).drew
 have O1:Hid ((((w.alloc A).alloc A).drew).ownsRow B 68 4 (.slice aa an ac) s.fI.length (Bt s.fI)):=gZ H.o.fI hW (fun _ _ h=>h)
 have O2:Hid (∀ j u,[.string a.fD,.int .i64 a.arg,.int .i64 (a.nth:Int),.bool a.undo][j]?=some u->(((w.alloc A).alloc A).drew).cell? ((⟨w.heap.size+1,0,none⟩:Addr).add j)=some u):=Me (t:=68) (by
  show ((w.heap.push A).push A)[w.heap.size+1]?=_
  rw[wV,<- hA])
 have O3:Hid (∀ u∈[Value.string a.fD,.int .i64 a.arg,.int .i64 (a.nth:Int),.bool a.undo],u.oneCell'=true):=by intro u hu;simp at hu;rcases hu with rfl | rfl | rfl | rfl<;>rfl
 have O4:Hid (s.fI.length+1<=maxLen):=by unfold Hid maxLen;omega
 have O5:Hid ((s.fI.length+1) * 40<=140737488355328):=by unfold Hid;omega
 have O6:Hid (B<=(((w.alloc A).alloc A).drew).heap.size):=by
  show B<=((w.heap.push A).push A).size
  simp;omega
 have AQ:Hid (_):=H.o.Ff a hW;subst hA;clear hW;cases hsl:s.left with
 | nil =>
  obtain ⟨la,lc,rfl⟩:=H.o.Fd hsl;have HE:Hid (_):=hsl;clear hsl;go_enter func88,ntmps88
  go_wp2_with fail;go_region_law (refine wR rfl _ _ 26 rfl B 68 i0 (.agg #[.string ⟨#[]⟩,.int .i64 0,.int .i64 0,.bool false]) 4 40 underlying26 hi hz0 hz1 hz2 rfl (bZ 3) _ _ _ rfl O1.o _ 1 1 _ rfl rfl O2.o O3.o O4.o O5.o O6.o ?_;intro v' w3 hown' hgrow hloc;obtain ⟨va',vn',vc',rfl,hc3,HS⟩:=AQ.o v' w3 hown' hgrow hloc;obtain ⟨d0,d1,d2,d3,d4,d5,d6,d7,df⟩:=nk hc3;clear hown' hgrow hloc hc3)
  all_goals
   go_wp2_with fail;go_ret2;rw[uo,Mf a HE.o];exact ⟨rfl,.slice la 0 lc,.slice va' vn' vc',HS.o.1.stopped,qL HS.o.2 (ak rfl)⟩
 | cons n r =>
  obtain ⟨g,off,cap,rfl,hcap,hml,hcell⟩:=H.o.first hsl;have HE:Hid (_):=hsl;unfold maxLen at hml;clear hsl hcell;go_enter func88,ntmps88
  go_wp2_with fail;go_region_law (refine wR rfl _ _ 26 rfl B 68 i0 (.agg #[.string ⟨#[]⟩,.int .i64 0,.int .i64 0,.bool false]) 4 40 underlying26 hi hz0 hz1 hz2 rfl (bZ 3) _ _ _ rfl O1.o _ 1 1 _ rfl rfl O2.o O3.o O4.o O5.o O6.o ?_;intro v' w3 hown' hgrow hloc;obtain ⟨va',vn',vc',rfl,hc3,HS⟩:=AQ.o v' w3 hown' hgrow hloc;obtain ⟨d0,d1,d2,d3,d4,d5,d6,d7,df⟩:=nk hc3;clear hown' hgrow hloc hc3)
  all_goals
   obtain ⟨hcell,hfz⟩:=HS.o.1.Fc (n:=n) (r:=r) HE.o;go_wp2_with fail
  all_goals
   go_ret2;rw[uo,Fh a HE.o]
   first
    | exact ⟨rfl,.slice (some ⟨g,off+1,none⟩) r.length (cap - 1),.slice va' vn' vc',HS.o.1.less HE.o,qL HS.o.2 (ak rfl)⟩
    | exact ⟨rfl,.slice (some ⟨g,off,none⟩) r.length 0,.slice va' vn' vc',HS.o.1.Ig HE.o (by omega),qL HS.o.2 (ak rfl)⟩
theorem iy.cells {k:Px.Lk}(h:iy w c k):∃ va vn vc,w.cell? ⟨c,0,none⟩=some (.slice va vn vc)/\w.ownsRow (c+1) 315 2 (.slice va vn vc) k.vars.length (rP k.vars)/\c < w.heap.size:=by
 obtain ⟨va,vn,vc,h1,h2⟩:=h.ex;obtain ⟨c0,_⟩:=cells3 h1;exact ⟨va,vn,vc,c0,h2,lt_of_cell c0⟩
theorem iy.drew {w:fu}{c:Nat}{k:Px.Lk}(h:iy w c k):iy w.drew c k:=by
 obtain ⟨va,vn,vc,h1,h2⟩:=h.ex;exact ⟨va,vn,vc,h1,h2.1,h2.2⟩
theorem iy.drewN {w:fu}{c:Nat}{k:Px.Lk}(n:Nat)(h:iy w c k):iy (w.drewN n) c k:=by
 obtain ⟨va,vn,vc,h1,h2⟩:=h.ex;exact ⟨va,vn,vc,h1,h2.1,h2.2⟩
def rQ (c:Nat)(x:Px.Ex):Prop:=∀ (k:Px.Lk) (w:fu) (ok:Nat->Prop) (q:Nat),ig w x ok q->(∀ i,ok i->i < c)->iy w c k ->
 Calls prog 121 #[.pointer (some ⟨c,0,none⟩),.pointer (some ⟨q,0,none⟩)] w fun e w'=>e=.returned (.int .u8 ((iC x k).1:Int))/\iy w' c (iC x k).2/\Below c w w'
theorem V9 (l:List (fq×Nat))(x:fq)(w:fu)(base:Nat)(va:Option Addr)(vn vc:Nat)(h:w.ownsRow base 315 2 (.slice va vn vc) l.length (rP l)) :
  Calls prog 126 #[.slice va vn vc,.string x] w fun e w'=>e=.returned (.int .i64 (wz l x))/\w'=w :=
 (Dh l x w base va vn vc h).mono fun _ _ h=>⟨h.1,h.2.symm⟩
theorem Wd (c:Nat)(w:fu)(n:Nat):Below c w (w.drewN n):=⟨rfl,rfl,rfl,aj _,fun _ _=>rfl⟩
theorem Fi (c:Nat)(op n:Nat)(fD:fq)(pl own:Nat)(hop:op=110\/op=116):rQ c ⟨op,n,fD,pl,own,none,none⟩:=by
 intro k w ok q hx hok hl;obtain ⟨hq,v,hv⟩:=hx.root;obtain ⟨c0,c1,c2,c3,c4,c5,f⟩:=nH hv;have HL:Hid (_):=hl;clear hx hl hv;rcases hop with rfl | rfl
 ·go_enter func121,ntmps121
  go_wp2_with fail;go_ret;exact ⟨rfl,HL.o,aH _ _⟩
 ·go_enter func121,ntmps121
  go_wp2_with fail;go_ret;exact ⟨rfl,HL.o,aH _ _⟩
theorem Fk (c:Nat)(n:Nat)(fD:fq)(pl own:Nat):rQ c ⟨119,n,fD,pl,own,none,none⟩:=by
 intro k w ok q hx hok hl;obtain ⟨hq,v,hv⟩:=hx.root;obtain ⟨c0,c1,c2,c3,c4,c5,f⟩:=nH hv;obtain ⟨va,vn,vc,l0,hown,hcz⟩:=hl.cells;have HL:Hid (iy w c k/\_):=⟨hl,hown⟩;clear hx hl hv;obtain ⟨rfl,_⟩:=Ma hown;clear hown;cases hf:iK k.vars fD with
 | none =>
  have e2:Hid (wz k.vars fD=-1):=by unfold Hid wz;rw[hf]
  have e1:Hid (iC ⟨119,n,fD,pl,own,none,none⟩ k=(63,Px.say 5 own k)):=by unfold Hid;simp[iC,ze,hf]
  clear hf;go_enter func121,ntmps121
  go_wp2_with fail;go_quiet ((go_at_call 126;exact Calls.quiet_of_same (V9 k.vars fD _ (c+1) _ _ _ HL.o.2)))
  rw[e2.o];go_wp2_with fail;refine (vH c 5 own k _ (HL.o.1.drewN nq)).mono ?_;rintro e w1 ⟨rfl,l1,b1⟩;have L1:Hid (_/\_):=⟨l1,b1⟩;clear l1 b1;go_wp2_with fail;go_ret;rw[e1.o];exact ⟨rfl,L1.o.1,(Wd _ _ _).trans L1.o.2⟩
 | some i =>
  have hlt:=vo hf;obtain ⟨g,rfl,hg,_,hc,hc'⟩:=Pt HL.o.2 i hlt;have e2:Hid (wz k.vars fD=(i:Int)):=by unfold Hid wz;rw[hf]
  have e1:Hid (iC ⟨119,n,fD,pl,own,none,none⟩ k=(k.vars[i].2,k)):=by unfold Hid;simp[iC,ze,hf,og,hlt]
  clear hf;go_enter func121,ntmps121
  go_wp2_with fail;go_quiet ((go_at_call 126;exact Calls.quiet_of_same (V9 k.vars fD _ (c+1) _ _ _ HL.o.2)))
  rw[e2.o];go_wp2_with fail;go_ret;rw[e1.o];exact ⟨rfl,HL.o.1.drewN nq,Wd _ _ _⟩
theorem Fl (c:Nat)(n:Nat)(fD:fq)(pl own:Nat)(l:Px.Ex)(ih:rQ c l):rQ c ⟨33,n,fD,pl,own,some l,none⟩:=by
 intro k w ok q hx hok hl;obtain ⟨hq,kb,lq,hkb,hne,hv,hkc,hxl⟩:=hx;obtain ⟨c0,c1,c2,c3,c4,c5,f⟩:=nH hv;have k0:w.cell? ⟨kb,0,none⟩=some (.pointer (some ⟨lq,0,none⟩)):=by simp[World.cell?,hkc]
 have hqc:=hok q hq;have HL:Hid (iy w c k/\_/\_):=⟨hl,hxl,hv⟩;have HK:Hid (∀ i,(ok i/\i≠q/\i≠kb)->i < c):=fun i hi=>hok i hi.1
 have e1:Hid (iC ⟨33,n,fD,pl,own,some l,none⟩ k=qU own (iC l k)):=rfl;clear hl hv hkc hxl hok;generalize hr:iC l k=r at e1;have HR:Hid (_):=hr;clear hr;cases hi:Px.isK r.1 98
 all_goals
  go_enter func121,ntmps121
  go_wp2_with fail;refine (ih k _ _ lq HL.o.2.1 HK.o HL.o.1).mono ?_;rw[HR.o];rintro e w1 ⟨rfl,l1,b1⟩;have hv1:w1.heap[q]?=_:=(b1.block q hqc).trans HL.o.2.2;obtain ⟨d0,d1,d2,d3,d4,d5,df⟩:=nH hv1;have L1:Hid (_/\_):=⟨l1,b1⟩;clear l1 b1 hv1;go_wp2_with fail;refine (pW r.1 98 _).mono ?_;rintro e w' ⟨rfl,rfl⟩;go_wp2_with fail
 ·refine (vH c 6 own r.2 _ L1.o.1).mono ?_;rintro e w2 ⟨rfl,l2,b2⟩;have L2:Hid (_/\_):=⟨l2,b2⟩;clear l2 b2;go_wp2_with fail;go_ret;rw[e1.o,qU,hi];exact ⟨rfl,L2.o.1,L1.o.2.trans L2.o.2⟩
 ·go_ret;rw[e1.o,qU,hi];exact ⟨rfl,L1.o.1,L1.o.2⟩
theorem St.drewN {w:fu}{B c:Nat}{V:Vs}{s:Rs}{vv vh vl va vp:fC}{pv ex:List fC}(h:St w B c V s vv vh vl va vp pv ex)(n:Nat):St (w.drewN n) B c V s vv vh vl va vp pv ex :=
 h.own ⟨rfl,rfl,rfl,aj _,fun _ _ _=>rfl⟩ h.at_ rfl rfl rfl rfl
theorem St.drew {w:fu}{B c:Nat}{V:Vs}{s:Rs}{vv vh vl va vp:fC}{pv ex:List fC}(h:St w B c V s vv vh vl va vp pv ex):St w.drew B c V s vv vh vl va vp pv ex :=
 h.own ⟨rfl,rfl,rfl,aj _,fun _ _ _=>rfl⟩ h.at_ rfl rfl rfl rfl
theorem Fm (T:Nat->Prop)(w:fu)(n:Nat):fO T w (w.drewN n):=⟨rfl,rfl,rfl,aj _,fun _ _ _=>rfl⟩
theorem St.fails (h:St w B c V s vv vh vl va vp pv ex):St (w.setCell ⟨c,7,none⟩ (.bool true)) B c V { s with failed:=true } vv vh vl va vp pv ex :=
 h.own (qL (fO.refl _ _) rfl) (by rw[heap_set _ h.at_];simp) rfl rfl rfl rfl
def Pz (B c:Nat)(V:Vs)(s:Rs)(r:Option Int)(vv vh vl va vp:fC)(pv ex:List fC)(w:fu)(e:Ending)(w':fu):Prop :=
 ∃ n,e=.returned (.int .i64 n)/\fO (·=c) w w'/\(∀ v,r=some v->n=v/\St w' B c V s vv vh vl va vp pv ex)/\(r=none->St w' B c V { s with failed:=true } vv vh vl va vp pv ex)
def tC (B c:Nat)(V:Vs)(x:Px.Ex):Prop:=∀ (s:Rs) (w:fu) (ok:Nat->Prop) (q:Nat) (vv vh vl va vp:fC) (pv ex:List fC),ig w x ok q->(∀ i,ok i->i < B)->St w B c V s vv vh vl va vp pv ex->s.held.length=V.length->s.failed=false->(∃ k,mG V x k) ->
 Calls prog 125 #[.pointer (some ⟨c,0,none⟩),.pointer (some ⟨q,0,none⟩)] w (Pz B c V s (lK V s.held x) vv vh vl va vp pv ex w)
theorem Wh (B c:Nat)(V:Vs)(op n:Nat)(fD:fq)(pl own:Nat)(hop:op=110\/op=116):tC B c V ⟨op,n,fD,pl,own,none,none⟩:=by
 intro s w ok q vv vh vl va vp pv ex hx hok hs hlen hf hk;obtain ⟨hq,v,hv⟩:=hx.root;obtain ⟨c0,c1,c2,c3,c4,c5,f⟩:=nH hv;have HS:Hid (_):=hs;clear hx hs hv hk;rcases hop with rfl | rfl
 ·go_enter func125,ntmps125
  go_wp2_with fail;go_ret;refine ⟨_,rfl,fO.refl _ _,fun v h=>?_,fun h=>?_⟩
  ·rw[lK] at h;simp at h;exact ⟨h,HS.o⟩
  ·rw[lK] at h;simp at h
 ·go_enter func125,ntmps125
  go_wp2_with fail;go_ret;refine ⟨_,rfl,fO.refl _ _,fun v h=>?_,fun h=>?_⟩
  ·rw[lK] at h;simp at h;exact ⟨h,HS.o⟩
  ·rw[lK] at h;simp at h
theorem St.PD (h:St w B c V s vv vh vl va vp pv ex)(hi:i < s.held.length):∃ g cap,vh=.slice (some ⟨g,0,none⟩) s.held.length cap/\s.held.length<=maxLen/\w.cell? ⟨g,i,none⟩=some (.int .i64 (s.held.getD i 0))/\∀ o,w.frozen? ⟨g,o,none⟩=false:=by
 obtain ⟨h1,h2⟩:=h.held;rcases h2 with ⟨_,h2⟩ | ⟨g,cap,cur,hv,hg,hh,hn,hm,hz,ht⟩
 ·omega
 ·refine ⟨g,cap,hv,by omega,?_,fun o=>by simp[World.frozen?,hh]⟩
  have e:cur[i]?=(intCells s.held)[i]?:=by
   rw[<- ht,bC (by omega)];simp
  simp only[World.cell?,hh];rw[e];simp[intCells,hi]
theorem PE {l:List (fq×Nat)}{x:fq}(hi:iK l x=some i)(w:fu)(base:Nat)(va:Option Addr)(vn vc:Nat)(h:w.ownsRow base 315 2 (.slice va vn vc) l.length (rP l)) :
  Calls prog 126 #[.slice va vn vc,.string x] w fun e w'=>e=.returned (.int .i64 (i:Int))/\w'=w :=
 (Dh l x w base va vn vc h).mono fun _ _ h=>⟨by rw[h.1,wz,hi],h.2.symm⟩
theorem Fo (B c:Nat)(V:Vs)(n:Nat)(fD:fq)(pl own:Nat):tC B c V ⟨119,n,fD,pl,own,none,none⟩:=by
 intro s w ok q vv vh vl va vp pv ex hx hok hs hlen hf hk;obtain ⟨hq,v,hv⟩:=hx.root;obtain ⟨c0,c1,c2,c3,c4,c5,f⟩:=nH hv;obtain ⟨d0,d1,d2,d3,d4,d5,d6,d7,df⟩:=nk hs.at_;obtain ⟨k,hk⟩:=hk;obtain ⟨i,hi,_⟩:∃ i,iK V fD=some i/\True:=by
  rw[mG] at hk;simp at hk;obtain ⟨i,h,_⟩:=hk;exact ⟨i,h,trivial⟩
 have hlt:=vo hi;obtain ⟨g,cap,rfl,hm,hcell,hfr⟩:=hs.PD (i:=i) (by omega)
 obtain ⟨a1,n1,cc1,rfl⟩:=jm hs.vars;have HI:Hid (_):=hi;have e1:Hid (lK V s.held ⟨119,n,fD,pl,own,none,none⟩=some (s.held.getD i 0)):=by unfold Hid;simp[lK,GK,hi]
 have HS:Hid (_):=hs;unfold maxLen at hm;have hil:i < s.held.length:=by omega
 clear hx hs hv hk hi;go_enter func125,ntmps125
 go_wp2_with fail;go_quiet ((go_at_call 126;exact Calls.quiet_of_same (PE HI.o _ 0 _ _ _ HS.o.vars)))
 go_wp2_with fail;go_ret;refine ⟨_,rfl,Fm _ _ _,fun v h=>?_,fun h=>?_⟩
 ·rw[e1.o] at h;cases h;exact ⟨by simp[hil],HS.o.drewN _⟩
 ·rw[e1.o] at h;cases h
theorem Fs (B c:Nat)(V:Vs)(n:Nat)(fD:fq)(pl own:Nat)(l:Px.Ex)(ih:tC B c V l):tC B c V ⟨33,n,fD,pl,own,some l,none⟩:=by
 intro s w ok q vv vh vl va vp pv ex hx hok hs hlen hf hk;obtain ⟨hq,kb,lq,hkb,hne,hv,hkc,hxl⟩:=hx;obtain ⟨c0,c1,c2,c3,c4,c5,f⟩:=nH hv;have k0:w.cell? ⟨kb,0,none⟩=some (.pointer (some ⟨lq,0,none⟩)):=by simp[World.cell?,hkc]
 obtain ⟨k,hk⟩:=hk;rw[mG] at hk;have HS:Hid (St w B c V s vv vh vl va vp pv ex/\ig w l _ lq/\s.held.length=V.length/\s.failed=false/\∃ k,mG V l k):=⟨hs,hxl,hlen,hf,98,hk.2.2⟩;have HK:Hid (∀ i,(ok i/\i≠q/\i≠kb)->i < B):=fun i hi=>hok i hi.1
 have e1:Hid (lK V s.held ⟨33,n,fD,pl,own,some l,none⟩=(lK V s.held l).map fun v=>wrap64 (1 - v)):=rfl
 clear hs hv hkc hxl hok hlen hf hk;go_enter func125,ntmps125
 go_wp2_with fail;refine (ih s _ _ lq vv vh vl va vp pv ex HS.o.2.1 HK.o HS.o.1 HS.o.2.2.1 HS.o.2.2.2.1 HS.o.2.2.2.2).mono ?_;rintro e w1 ⟨m,rfl,h1,h2,h3⟩;have H1:Hid (_/\_/\_):=⟨h1,h2,h3⟩;clear h1 h2 h3;go_wp2_with fail;go_ret;refine ⟨_,rfl,H1.o.1,fun v h=>?_,fun h=>?_⟩
 ·rw[e1.o] at h;cases hl:lK V s.held l with
  | none=>rw[hl] at h;cases h
  | some a =>
   rw[hl] at h;cases h;obtain ⟨rfl,h5⟩:=H1.o.2.1 a hl;exact ⟨by simp[wrap64],h5⟩
 ·rw[e1.o] at h;cases hl:lK V s.held l with
  | none=>exact H1.o.2.2 hl
  | some a=>rw[hl] at h;cases h
theorem Ft (B c:Nat)(V:Vs)(op:Nat)(hop:op=42\/op=47\/op=43\/op=45\/op=60\/op=61\/op=35)(n:Nat)(fD:fq)(pl own:Nat)(l r:Px.Ex)(ihl:tC B c V l)(ihr:tC B c V r):tC B c V ⟨op,n,fD,pl,own,some l,some r⟩:=by
 intro s w ok q vv vh vl va vp pv ex hx hok hs hlen hf hk;obtain ⟨hq,kb,lq,rq,hkb,hne,hv,hkc,hxl,Bv⟩:=hx;obtain ⟨c0,c1,c2,c3,c4,c5,f⟩:=nH hv;have k0:w.cell? ⟨kb,0,none⟩=some (.pointer (some ⟨lq,0,none⟩)):=by simp[World.cell?,hkc]
 have hB:=hs.hB;have hcz:=hs.lt;have hqc:=hok q hq;have zY:=hok kb hkb;obtain ⟨k,hk⟩:=hk;have hkk:(∃ k,mG V l k)/\∃ k,mG V r k:=by
  rw[mG] at hk;split at hk
  ·obtain ⟨_,j,h1,h2⟩:=hk;exact ⟨⟨j,h1⟩,j,h2⟩
  ·exact ⟨⟨_,hk.2.2.1⟩,_,hk.2.2.2⟩
 have HS:Hid (St w B c V s vv vh vl va vp pv ex/\(ig w l _ lq/\ig w r _ rq)/\s.held.length=V.length/\s.failed=false/\((∃ k,mG V l k)/\∃ k,mG V r k)/\_/\_):=⟨hs,⟨hxl,Bv⟩,hlen,hf,hkk,hv,hkc⟩;have HK:Hid (∀ i,(ok i/\i≠q/\i≠kb)->i < B):=fun i hi=>hok i hi.1
 have e1:Hid (lK V s.held ⟨op,n,fD,pl,own,some l,some r⟩=match lK V s.held l with
  | none=>none
  | some a=>match lK V s.held r with
   | none=>none
   | some b=>Px.op2 op a b):=rfl
 clear hs hv hkc hxl Bv hok hlen hf hk hkk;have o1:((op:Int) == 110)=false:=by rw[beq_eq_false_iff_ne];omega
 have o2:((op:Int) == 116)=false:=by rw[beq_eq_false_iff_ne];omega
 have o3:((op:Int) == 119)=false:=by rw[beq_eq_false_iff_ne];omega
 have o4:((op:Int) == 33)=false:=by rw[beq_eq_false_iff_ne];omega
 have OP:Hid (_):=hop;clear hop;go_enter func125,ntmps125
 go_wp2_with fail;refine (ihl s _ _ lq vv vh vl va vp pv ex HS.o.2.1.1 HK.o HS.o.1 HS.o.2.2.1 HS.o.2.2.2.1 HS.o.2.2.2.2.1.1).mono ?_;rintro e w1 ⟨a,rfl,h1,h2,h3⟩;have hv1:w1.heap[q]?=_:=(h1.block q (by omega) (by omega)).trans HS.o.2.2.2.2.2.1
 have hk1:w1.heap[kb]?=_:=(h1.block kb (by omega) (by omega)).trans HS.o.2.2.2.2.2.2
 have hx1:ig w1 r _ rq:=HS.o.2.1.2.keep fun i hi=>h1.block i (by have:=HK.o i hi;omega) (by have:=HK.o i hi;omega)
 obtain ⟨d0,d1,d2,d3,d4,d5,df⟩:=nH hv1;have Mg:w1.cell? ⟨kb,1,none⟩=some (.pointer (some ⟨rq,0,none⟩)):=by simp[World.cell?,hk1]
 cases hl:lK V s.held l with
 | none =>
  obtain ⟨g0,g1,g2,g3,g4,g5,g6,g7,gf⟩:=nk (h3 hl).at_;have H1:Hid (_/\_):=⟨h1,h3 hl⟩;have E2:Hid (lK V s.held ⟨op,n,fD,pl,own,some l,some r⟩=none):=by unfold Hid;rw[e1.o,hl]
  clear h1 h2 h3 hv1 hk1 hx1 hl c0 c1 c2 c3 c4 c5 f;go_wp2_with fail;go_ret;refine ⟨_,rfl,H1.o.1,fun v h=>?_,fun _=>H1.o.2⟩
  rw[E2.o] at h;cases h
 | some av =>
  obtain ⟨rfl,h4⟩:=h2 av hl;obtain ⟨g0,g1,g2,g3,g4,g5,g6,g7,gf⟩:=nk h4.at_;rw[HS.o.2.2.2.1] at g7;have hz1:=h1.size;have H1:Hid (fO (·=c) w w1/\St w1 B c V s vv vh vl va vp pv ex/\ig w1 r _ rq/\_/\lK V s.held l=some a):=⟨h1,h4,hx1,hv1,hl⟩
  clear h1 h2 h3 h4 hv1 hk1 hx1 hl c0 c1 c2 c3 c4 c5 f;go_wp2_with fail;refine (ihr s _ _ rq vv vh vl va vp pv ex H1.o.2.2.1 HK.o H1.o.2.1 HS.o.2.2.1 HS.o.2.2.2.1 HS.o.2.2.2.2.1.2).mono ?_;rintro e w2 ⟨b,rfl,h1,h2,h3⟩;have hv2:w2.heap[q]?=_:=(h1.block q (by omega) (by omega)).trans H1.o.2.2.2.1
  obtain ⟨j0,j1,j2,j3,j4,j5,jf⟩:=nH hv2;cases hr:lK V s.held r with
  | none =>
   obtain ⟨m0,m1,m2,m3,m4,m5,m6,m7,mf⟩:=nk (h3 hr).at_;have H2:Hid (_/\_):=⟨h1,h3 hr⟩;have E2:Hid (lK V s.held ⟨op,n,fD,pl,own,some l,some r⟩=none):=by unfold Hid;rw[e1.o,H1.o.2.2.2.2,hr]
   clear h1 h2 h3 hv2 hr d0 d1 d2 d3 d4 d5 df g0 g1 g2 g3 g4 g5 g6 g7 gf Mg;go_wp2_with fail;go_ret;refine ⟨_,rfl,H1.o.1.trans H2.o.1,fun v h=>?_,fun _=>H2.o.2⟩
   rw[E2.o] at h;cases h
  | some bv =>
   obtain ⟨rfl,h4⟩:=h2 bv hr;obtain ⟨m0,m1,m2,m3,m4,m5,m6,m7,mf⟩:=nk h4.at_;rw[HS.o.2.2.2.1] at m7;have H2:Hid (fO (·=c) w w2/\St w2 B c V s vv vh vl va vp pv ex):=⟨H1.o.1.trans h1,h4⟩
   have E2:Hid (lK V s.held ⟨op,n,fD,pl,own,some l,some r⟩=Px.op2 op a b):=by unfold Hid;rw[e1.o,H1.o.2.2.2.2,hr]
   clear h1 h2 h3 h4 hv2 hr d0 d1 d2 d3 d4 d5 df g0 g1 g2 g3 g4 g5 g6 g7 gf Mg;have FIN:Hid (∀ v,Px.op2 op a b=some v->Pz B c V s (lK V s.held ⟨op,n,fD,pl,own,some l,some r⟩) vv vh vl va vp pv ex w (.returned (.int .i64 v)) w2):=fun v hv=>by
    rw[E2.o,hv];exact ⟨v,rfl,H2.o.1,fun v' h=>by cases h;exact ⟨rfl,H2.o.2⟩,fun h=>by cases h⟩
   rcases OP.o with rfl | rfl | rfl | rfl | rfl | rfl | rfl
   case inr.inl =>
    by_cases hb:b=0
    ·go_wp2_with fail;go_ret;rw[Pz,E2.o];refine ⟨_,rfl,qL H2.o.1 rfl,fun v h=>?_,fun _=>H2.o.2.fails⟩
     simp[Px.op2,hb] at h
    ·go_wp2_with fail;go_ret;refine FIN.o _ ?_;simp[Px.op2,hb,wrap64]
   case inl =>
    go_wp2_with fail;go_ret;exact FIN.o _ rfl
   case inr.inr.inl =>
    go_wp2_with fail;go_ret;exact FIN.o _ rfl
   case inr.inr.inr.inl =>
    go_wp2_with fail;go_ret;exact FIN.o _ rfl
   all_goals
    go_wp2_with fail;refine (Bu _ _).mono ?_;rintro e w' ⟨rfl,rfl⟩;go_wp2_with fail;go_ret;exact FIN.o _ (by first | rfl | (show some (Px.truth (decide (a≠b)))=_;congr 2;rw[bA];simp))
theorem Fj (B c:Nat)(V:Vs)(x:Px.Ex)(hw:mO x):tC B c V x:=by
 match x with
 | ⟨op,n,fD,pl,own,none,none⟩ =>
  rcases hw with h | h | h
  ·exact Wh B c V op n fD pl own (ak h)
  ·exact Wh B c V op n fD pl own (ah h)
  ·rw[h];exact Fo B c V n fD pl own
 | ⟨op,n,fD,pl,own,none,some r⟩=>exact hw.elim
 | ⟨op,n,fD,pl,own,some l,none⟩=>rw[hw.1];exact Fs B c V n fD pl own l (Fj B c V l hw.2)
 | ⟨op,n,fD,pl,own,some l,some r⟩=>exact Ft B c V op hw.1 n fD pl own l r (Fj B c V l hw.2.1) (Fj B c V r hw.2.2)
