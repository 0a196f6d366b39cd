import Derived.Test.YthanmfbakpcigaaGreatDoorR29
import Derived.Deep.RegionHeld
import Derived.Test.YthanmfbakpcigaaGreatDoorR12
set_option maxRecDepth 100000
set_option maxHeartbeats 4000000
namespace Go.Proofs.YthanmfbakpcigaaGreatDoor
open Go.RowKit
namespace Rn
theorem znh (a:Addr) (w:World):(nilAhead 444 74 (.pointer (some a)) "AnswerTo").run Tryz.prog w=.ok (some false) w:=by kernel_rfl
theorem zhj (a:Addr) (w:World):(Go.method 444 74 (.pointer (some a)) "AnswerTo").run Tryz.prog w=.ok (195,.pointer (some a)) w:=by kernel_rfl
theorem zni {x:Cx} (ja:JA x 195) (hvj:x.vj=.iface 74 (.pointer (some ⟨x.jl,0,none⟩))):qnr x:=by
 intro m w f va h i arg most und hi hr hrl ht hm ha hww;have c3:=h.a.blk.cell 3 (by decide)
 have c4:=h.a.blk.cell 4 (by decide)
 have c87:=h.a.blk.cell 87 (by decide)
 rw[h.a.f3,hvj] at c3;rw[h.a.f4] at c4;rw[h.a.f87] at c87;obtain ⟨vl,vw,vn,lo,p1,p2,p3,p4,p5,p6,p7⟩:=h.p.ex;obtain ⟨aw,nw,cw,rfl⟩:=Ref.qad p6;obtain ⟨rfl,_,hcell⟩:=Mk.qsi p6;obtain ⟨gw,rfl,hcw⟩:=hcell i hi;have pw:w.cell? ⟨x.pp,0,none⟩=some (.slice (some ⟨gw,0,none⟩) x.P.words.length cw):=by simp[World.cell?,p1]
 have hN:=znh;have hM:=zhj;obtain ⟨hr1,hr2⟩:=hr;have ew:x.P.words.getD i Px.nowt=x.P.words[i]:=by simp[List.getD_eq_getElem?_getD,List.getElem?_eq_getElem hi]
 have HX:Hid (_):=zve ja h ⟨x.P.words[i],arg,m.tried+1,und⟩ ha;have HP:Hid (_):=ja.ok;generalize x.P.words[i]=word at *;unfold askV at HX;simp only[Int.natCast_add,Int.cast_ofNat_Int] at HX;have hwr:IntKind.i64.wrap ((m.tried:Int)+1)=(m.tried:Int)+1:=by rw[IntKind.wrap_i64];omega
 have hgw:=p7 gw rfl;clear p1 p4 p5 p6 p7 hcell h ja;cases hleft:m.left with
 | nil =>
  have HE:Hid (∀ w',PM x { m with left:=m.left.tail,asks:=m.asks++[⟨word,arg,m.tried+1,und⟩] } w f va w'→qed x m i arg most und w f va (.returned (.tuple #[.int .i64 0,.iface 302 (.pointer (some (x.E 2)))])) w'):=by
   intro w' hp;have e:Px.askM x.P i arg most und m=(2,0,{ m with left:=m.left.tail,asks:=m.asks++[⟨word,arg,m.tried+1,und⟩] }):=by
    unfold Px.askM;rw[ew];cases m;simp at hleft;subst hleft;rfl
   unfold qed;rw[e];exact ⟨rfl,hp⟩
  go_enter Tryz.func135,Tryz.ntmps135
  go_wp2_with fail;go_region_held (fun w'=>w'.cell? ⟨x.g,3,none⟩=some (.iface 74 (.pointer (some ⟨x.jl,0,none⟩)))∧w'.cell? ⟨x.g,4,none⟩=some (.pointer (some ⟨x.pp,0,none⟩))∧w'.cell? ⟨x.g,87,none⟩=some (.int .i64 (m.tried:Int))∧w'.cell? ⟨x.pp,0,none⟩=some (.slice (some ⟨gw,0,none⟩) x.P.words.length cw)∧w'.cell? ⟨gw,i,none⟩=some (.string word)) (go_keep)
   (first | (go_at_call 195;refine Calls.mono (HX.out _ (by first | exact Tch.refl _ _ | exact (Tch.refl _ _).drew)) ?_;rintro e w1 ⟨rfl,hcc,f87',g1,g2,g3,hG,HM⟩;have d3:=hcc _ _ _ (Or.inl rfl) c3;have d4:=hcc _ _ _ (Or.inl rfl) c4;have d87:=hcc _ _ _ (Or.inl rfl) c87;have dp:=hcc _ _ _ (Or.inr ⟨p2,p3⟩) pw;have dw:=hcc _ _ _ (Or.inr hgw) hcw;clear hcc;rw[hleft]))
  all_goals
   go_wp2_with fail;go_region
   all_goals
    go_wp2_with fail;go_ret2;refine HE.out _ ?_;obtain ⟨va',k1,k2⟩:=HM.out;exact PM.same HP.out ⟨_,_,k1,k2⟩ (Tch.refl _ _).drew
 | cons v r =>
  obtain ⟨hv1,hv2⟩:=hrl v (by rw[hleft];exact List.mem_cons_self)
  have ec:((m.tried+1:Nat):Int)=(m.tried:Int)+1:=by simp
  by_cases hneg:v < 0
  ·by_cases hmo:m.tried+1 < most
   ·have hmo':(m.tried:Int)+1 < (most:Int):=by omega
    have HE:Hid (∀ w',PM x { m with left:=r,asks:=m.asks++[⟨word,arg,m.tried+1,und⟩],tried:=m.tried+1 } w f va w'→qed x m i arg most und w f va (.returned (.tuple #[.int .i64 0,.iface 302 (.pointer (some (x.E 3)))])) w'):=by
     intro w' hp;have e:Px.askM x.P i arg most und m=(3,0,{ m with left:=r,asks:=m.asks++[⟨word,arg,m.tried+1,und⟩],tried:=m.tried+1 }):=by
      unfold Px.askM;rw[ew,hleft];simp only;rw[if_pos ⟨hneg,hmo⟩]
     unfold qed;rw[e];exact ⟨rfl,hp⟩
    go_enter Tryz.func135,Tryz.ntmps135
    go_wp2_with fail;go_region_held (fun w'=>w'.cell? ⟨x.g,3,none⟩=some (.iface 74 (.pointer (some ⟨x.jl,0,none⟩)))∧w'.cell? ⟨x.g,4,none⟩=some (.pointer (some ⟨x.pp,0,none⟩))∧w'.cell? ⟨x.g,87,none⟩=some (.int .i64 (m.tried:Int))∧w'.cell? ⟨x.pp,0,none⟩=some (.slice (some ⟨gw,0,none⟩) x.P.words.length cw)∧w'.cell? ⟨gw,i,none⟩=some (.string word)) (go_keep)
     (first | (go_at_call 195;refine Calls.mono (HX.out _ (by first | exact Tch.refl _ _ | exact (Tch.refl _ _).drew)) ?_;rintro e w1 ⟨rfl,hcc,f87',g1,g2,g3,hG,HM⟩;have d3:=hcc _ _ _ (Or.inl rfl) c3;have d4:=hcc _ _ _ (Or.inl rfl) c4;have d87:=hcc _ _ _ (Or.inl rfl) c87;have dp:=hcc _ _ _ (Or.inr ⟨p2,p3⟩) pw;have dw:=hcc _ _ _ (Or.inr hgw) hcw;clear hcc;rw[hleft];simp only[List.tail_cons,hleft] at HM))
    all_goals
     go_wp2_with fail;go_region
     all_goals
      go_wp2_with fail;go_ret2;refine HE.out _ ?_;obtain ⟨va',k1,k2⟩:=HM.out
      first | (have:=PM.same HP.out (PM.tried HP.out ⟨_,_,k1,k2⟩ (m.tried+1)) (Tch.refl _ _).drew;rw[ec] at this;exact this) | (have:=PM.tried HP.out (PM.same HP.out ⟨_,_,k1,k2⟩ (Tch.refl _ _).drew) (m.tried+1);rw[ec] at this;exact this)
   ·have hmo':¬ (m.tried:Int)+1 < (most:Int):=by omega
    have HE:Hid (∀ w',PM x { m with left:=r,asks:=m.asks++[⟨word,arg,m.tried+1,und⟩],tried:=0 } w f va w'→qed x m i arg most und w f va (.returned (.tuple #[.int .i64 0,.iface 302 (.pointer (some (x.E 1)))])) w'):=by
     intro w' hp;have e:Px.askM x.P i arg most und m=(1,0,{ m with left:=r,asks:=m.asks++[⟨word,arg,m.tried+1,und⟩],tried:=0 }):=by
      unfold Px.askM;rw[ew,hleft];simp only;rw[if_neg (fun h=>hmo h.2),if_pos hneg]
     unfold qed;rw[e];exact ⟨rfl,hp⟩
    go_enter Tryz.func135,Tryz.ntmps135
    go_wp2_with fail;go_region_held (fun w'=>w'.cell? ⟨x.g,3,none⟩=some (.iface 74 (.pointer (some ⟨x.jl,0,none⟩)))∧w'.cell? ⟨x.g,4,none⟩=some (.pointer (some ⟨x.pp,0,none⟩))∧w'.cell? ⟨x.g,87,none⟩=some (.int .i64 (m.tried:Int))∧w'.cell? ⟨x.pp,0,none⟩=some (.slice (some ⟨gw,0,none⟩) x.P.words.length cw)∧w'.cell? ⟨gw,i,none⟩=some (.string word)) (go_keep)
     (first | (go_at_call 195;refine Calls.mono (HX.out _ (by first | exact Tch.refl _ _ | exact (Tch.refl _ _).drew)) ?_;rintro e w1 ⟨rfl,hcc,f87',g1,g2,g3,hG,HM⟩;have d3:=hcc _ _ _ (Or.inl rfl) c3;have d4:=hcc _ _ _ (Or.inl rfl) c4;have d87:=hcc _ _ _ (Or.inl rfl) c87;have dp:=hcc _ _ _ (Or.inr ⟨p2,p3⟩) pw;have dw:=hcc _ _ _ (Or.inr hgw) hcw;clear hcc;rw[hleft];simp only[List.tail_cons,hleft] at HM))
    all_goals
     go_wp2_with fail;go_region
     all_goals
      go_wp2_with fail;go_ret2;refine HE.out _ ?_;obtain ⟨va',k1,k2⟩:=HM.out
      first | exact PM.same HP.out (PM.tried HP.out ⟨_,_,k1,k2⟩ 0) (Tch.refl _ _).drew | exact PM.tried HP.out (PM.same HP.out ⟨_,_,k1,k2⟩ (Tch.refl _ _).drew) 0 | exact PM.tried HP.out ⟨_,_,k1,k2⟩ 0 | (have:=PM.tried HP.out (PM.tried HP.out ⟨_,_,k1,k2⟩ (m.tried+1)) 0;rw[ec] at this;exact this) | (have:=PM.same HP.out (PM.tried HP.out (PM.tried HP.out ⟨_,_,k1,k2⟩ (m.tried+1)) 0) (Tch.refl _ _).drew;rw[ec] at this;exact this)
  ·have hneg':¬ v < 0:=hneg;have HE:Hid (∀ w',PM x { m with left:=r,asks:=m.asks++[⟨word,arg,m.tried+1,und⟩],tried:=0 } w f va w'→qed x m i arg most und w f va (.returned (.tuple #[.int .i64 v,.nilIface])) w'):=by
    intro w' hp;have e:Px.askM x.P i arg most und m=(0,v,{ m with left:=r,asks:=m.asks++[⟨word,arg,m.tried+1,und⟩],tried:=0 }):=by
     unfold Px.askM;rw[ew,hleft];simp only;rw[if_neg (fun h=>hneg h.1),if_neg hneg]
    unfold qed;rw[e];exact ⟨rfl,hp⟩
   go_enter Tryz.func135,Tryz.ntmps135
   go_wp2_with fail;go_region_held (fun w'=>w'.cell? ⟨x.g,3,none⟩=some (.iface 74 (.pointer (some ⟨x.jl,0,none⟩)))∧w'.cell? ⟨x.g,4,none⟩=some (.pointer (some ⟨x.pp,0,none⟩))∧w'.cell? ⟨x.g,87,none⟩=some (.int .i64 (m.tried:Int))∧w'.cell? ⟨x.pp,0,none⟩=some (.slice (some ⟨gw,0,none⟩) x.P.words.length cw)∧w'.cell? ⟨gw,i,none⟩=some (.string word)) (go_keep)
    (first | (go_at_call 195;refine Calls.mono (HX.out _ (by first | exact Tch.refl _ _ | exact (Tch.refl _ _).drew)) ?_;rintro e w1 ⟨rfl,hcc,f87',g1,g2,g3,hG,HM⟩;have d3:=hcc _ _ _ (Or.inl rfl) c3;have d4:=hcc _ _ _ (Or.inl rfl) c4;have d87:=hcc _ _ _ (Or.inl rfl) c87;have dp:=hcc _ _ _ (Or.inr ⟨p2,p3⟩) pw;have dw:=hcc _ _ _ (Or.inr hgw) hcw;clear hcc;rw[hleft];simp only[List.tail_cons,hleft] at HM))
   all_goals
    go_wp2_with fail;go_ret2;refine HE.out _ ?_;obtain ⟨va',k1,k2⟩:=HM.out
    first | exact PM.same HP.out (PM.tried HP.out ⟨_,_,k1,k2⟩ 0) (Tch.refl _ _).drew | exact PM.tried HP.out (PM.same HP.out ⟨_,_,k1,k2⟩ (Tch.refl _ _).drew) 0 | exact PM.tried HP.out ⟨_,_,k1,k2⟩ 0 | (have:=PM.tried HP.out (PM.tried HP.out ⟨_,_,k1,k2⟩ (m.tried+1)) 0;rw[ec] at this;exact this) | (have:=PM.same HP.out (PM.tried HP.out (PM.tried HP.out ⟨_,_,k1,k2⟩ (m.tried+1)) 0) (Tch.refl _ _).drew;rw[ec] at this;exact this)
open Go.RowKit
theorem zph {B jl:Nat} {l:List Int} {a:List Px.Ask} {va:Value} {ask:Px.Ask} {w:World} {v':Value} {W:World} (h:Kl B jl l (a++[ask]) v' W∧Tch (fun k=>k=jl∨va.ownBlock=some k) w W∧(v'.ownBlock=va.ownBlock∨v'.ownBlock=none∨∃ n,v'.ownBlock=some n∧w.heap.size≤n∧n < W.heap.size)) (hl:l=[]):qqo (Kl B jl) jl l a va ask w (.returned (.tuple #[.int .i64 0,.bool false])) W:=by
 subst hl;exact ⟨rfl,v',h.1,h.2.1,h.2.2⟩
theorem zpf {B jl:Nat} (hjl:jl < B) {x:Int} {r:List Int} {a:List Px.Ask} {va:Value} {ask:Px.Ask} {w:World} {v':Value} {W:World} (h:Kl B jl (x::r) (a++[ask]) v' W∧Tch (fun k=>k=jl∨va.ownBlock=some k) w W∧(v'.ownBlock=va.ownBlock∨v'.ownBlock=none∨∃ n,v'.ownBlock=some n∧w.heap.size≤n∧n < W.heap.size)) {q o c:Nat} (h1:W.cell? ⟨jl,1,none⟩=some (.slice (some ⟨q,o,none⟩) (r.length+1) c)):qqo (Kl B jl) jl (x::r) a va ask w (.returned (.tuple #[.int .i64 x,.bool true])) (W.setCell ⟨jl,1,none⟩ (.slice (some (if c=1 then ⟨q,o,none⟩ else ⟨q,o+1,none⟩)) r.length (c - 1))):=by
 refine ⟨rfl,v',h.1.next hjl h1,Tch.setCell (T:=fun k=>k=jl∨va.ownBlock=some k) h.2.1 (p:=⟨jl,1,none⟩) (Or.inl (Or.inl rfl)) _,?_⟩
 rcases h.2.2 with h | h | ⟨n,h,h2,h3⟩
 ·exact Or.inl h
 ·exact Or.inr (Or.inl h)
 ·exact Or.inr (Or.inr ⟨n,h,h2,by simpa [World.setCell] using h3⟩)
theorem zpg (B jl:Nat) (hjl:jl < B) (l:List Int) (a:List Px.Ask) (va:Value) (w:World) (ask:Px.Ask) (h:Kl B jl l a va w) (hB:B≤w.heap.size) (hl:a.length≤10000000) (hll:l.length≤140737488355328) :
  Calls Tryz.prog 195 #[.pointer (some ⟨jl,0,none⟩),askV ask] w (qqo (Kl B jl) jl l a va ask w):=by
 obtain ⟨c0,⟨sv,c1,ha⟩,fr,ow⟩:=id h;obtain ⟨a0,n0,k0,rfl⟩:=Ref.qad ow;obtain ⟨i0,hi,hz0,hz1,hz2⟩:=info_parts qyc;obtain ⟨word,arg,nth,und⟩:=ask;obtain ⟨A,hA⟩:∃ A,A=Obj.cells #[.string word,.int .i64 arg,.int .i64 (nth:Int),.bool und] 88:=⟨_,rfl⟩;have hW:Tch (fun _=>False) w (((w.alloc A).alloc A).drew):=(((Tch.refl _ _).alloc _).alloc _).drew
 have O1:Hid ((((w.alloc A).alloc A).drew).ownsRow B 88 4 (.slice a0 n0 k0) a.length (askC a)):=qah ow hW (fun _ _ h=>h)
 have O2:Hid (∀ j u,[.string word,.int .i64 arg,.int .i64 (nth:Int),.bool und][j]?=some u→(((w.alloc A).alloc A).drew).cell? ((⟨w.heap.size+1,0,none⟩:Addr).add j)=some u):=zmu (t:=88) (by
  show ((w.heap.push A).push A)[w.heap.size+1]?=_
  rw[Ref.qdu,← hA])
 have O3:Hid (∀ u∈[Value.string word,.int .i64 arg,.int .i64 (nth:Int),.bool und],u.oneCell'=true):=by intro u hu;simp at hu;rcases hu with rfl | rfl | rfl | rfl<;>rfl
 have O4:Hid (a.length+1≤maxLen):=by unfold Hid maxLen;omega
 have O5:Hid ((a.length+1) * 40≤140737488355328):=by unfold Hid;omega
 have O6:Hid (B≤(((w.alloc A).alloc A).drew).heap.size):=by have:=hW.size;unfold Hid;omega
 have AQ:Hid (_):=Kl.app hjl h ⟨word,arg,nth,und⟩ hW hB;unfold askV;have hjz:jl < w.heap.size:=lt_of_cell c0;obtain ⟨ad,c,rfl,hcap,hce,hbl⟩:=ha.ex;subst hA;cases l with
 | nil =>
  clear hW h ow ha hce hbl;go_enter Tryz.func195,Tryz.ntmps195
  go_wp2_with fail;go_region_law (refine qbh rfl _ _ 49 rfl B 88 i0 (.agg #[.string ⟨#[]⟩,.int .i64 0,.int .i64 0,.bool false]) 4 40 Tryz.underlying49 hi hz0 hz1 hz2 rfl (Nat.succ_pos 3) _ _ _ rfl O1.out _ 1 1 _ rfl rfl O2.out O3.out O4.out O5.out O6.out ?_;intro v' w3 hown' hgrow hloc;obtain ⟨a1,n1,k1,rfl,hc3,hf3,hq3,HN⟩:=AQ.out v' w3 hown' hgrow hloc;have hc31:=hq3 jl 1 _ hjl c1;clear hown' hgrow hloc hq3)
  all_goals
   go_wp2_with fail;go_ret2;exact zph HN.out rfl
 | cons v r =>
  obtain ⟨q,o,rfl,hq⟩:=hce 0 (by simp)
  obtain ⟨hb1,hb2⟩:=hbl _ rfl;simp only[Nat.add_zero,List.getElem_cons_zero] at hq hb1 hb2;have hb2':jl≠q:=fun e=>hb2 e.symm
  simp only[List.length_cons] at hcap c1 hll;have QQ:Hid (∀ W:World,W.cell? ⟨jl,1,none⟩=some (.slice (some ⟨q,o,none⟩) (r.length+1) c)→∀ v',(Kl B jl (v::r) (a++[⟨word,arg,nth,und⟩]) v' W∧Tch (fun k=>k=jl∨(Value.slice a0 n0 k0).ownBlock=some k) w W∧(v'.ownBlock=(Value.slice a0 n0 k0).ownBlock∨v'.ownBlock=none∨∃ n,v'.ownBlock=some n∧w.heap.size≤n∧n < W.heap.size))→qqo (Kl B jl) jl (v::r) a (.slice a0 n0 k0) ⟨word,arg,nth,und⟩ w (.returned (.tuple #[.int .i64 v,.bool true])) (W.setCell ⟨jl,1,none⟩ (.slice (some (if c=1 then ⟨q,o,none⟩ else ⟨q,o+1,none⟩)) r.length (c - 1)))):=fun W hW v' hh=>zpf hjl hh hW
  clear hW h ow ha hce hbl;generalize r.length=R at *;by_cases hcc:c=1
  ·subst hcc;obtain rfl:R=0:=by omega
   go_enter Tryz.func195,Tryz.ntmps195
   go_wp2_with fail;go_region_law (refine qbh rfl _ _ 49 rfl B 88 i0 (.agg #[.string ⟨#[]⟩,.int .i64 0,.int .i64 0,.bool false]) 4 40 Tryz.underlying49 hi hz0 hz1 hz2 rfl (Nat.succ_pos 3) _ _ _ rfl O1.out _ 1 1 _ rfl rfl O2.out O3.out O4.out O5.out O6.out ?_;intro v' w3 hown' hgrow hloc;obtain ⟨a1,n1,k1,rfl,hc3,hf3,hq3,HN⟩:=AQ.out v' w3 hown' hgrow hloc;have hc31:=hq3 jl 1 _ hjl c1;have hc32:=hq3 q o _ hb1 hq;clear hown' hgrow hloc hq3)
   all_goals
    go_wp2_with fail;go_ret2
    have:=QQ.out _ (by rw[qb4 (by intro e;cases e)];exact hc31) _ HN.out
    rw[if_pos trivial] at this;exact this
  ·go_enter Tryz.func195,Tryz.ntmps195
   go_wp2_with fail;go_region_law (refine qbh rfl _ _ 49 rfl B 88 i0 (.agg #[.string ⟨#[]⟩,.int .i64 0,.int .i64 0,.bool false]) 4 40 Tryz.underlying49 hi hz0 hz1 hz2 rfl (Nat.succ_pos 3) _ _ _ rfl O1.out _ 1 1 _ rfl rfl O2.out O3.out O4.out O5.out O6.out ?_;intro v' w3 hown' hgrow hloc;obtain ⟨a1,n1,k1,rfl,hc3,hf3,hq3,HN⟩:=AQ.out v' w3 hown' hgrow hloc;have hc31:=hq3 jl 1 _ hjl c1;have hc32:=hq3 q o _ hb1 hq;clear hown' hgrow hloc hq3)
   all_goals
    go_wp2_with fail;go_ret2
    have:=QQ.out _ (by rw[qb4 (by intro e;cases e)];exact hc31) _ HN.out
    rw[if_neg hcc] at this;exact this
open Go.RowKit
def Kq (B jl:Nat) (l:List Int) (a:List Px.Ask) (va:Value) (w:World):Prop:=Kl B jl l a va w∧l.length≤140737488355328
theorem zaq {x:Cx} (hK:x.K=Kq x.B x.jl) (hjl:x.jl < x.B):JOK x:=⟨fun l a va w w' T h hT h1 h2=>by
 rw[hK] at h ⊢;exact ⟨h.1.keep hjl hT h1 h2,h.2⟩⟩
theorem ztx {x:Cx} (hK:x.K=Kq x.B x.jl) (hjl:x.jl < x.B):JA x 195:=⟨zaq hK hjl,fun l a va w ask h hB ha=>by
 rw[hK] at h ⊢;refine (zpg x.B x.jl hjl l a va w ask h.1 hB ha h.2).mono ?_;rintro e w' ⟨h1,va',h2,h3,h4⟩;exact ⟨h1,va',⟨h2,by have:=h.2;rw[List.length_tail];omega⟩,h3,h4⟩⟩
theorem qvr {w:World} {B B':Nat} {e:TypeId} {size n:Nat} {v:Value} {xs:List Value} (h:w.ownsRow B e size v n xs) (hB:B'≤B):w.ownsRow B' e size v n xs:=by
 obtain ⟨h1,h2⟩:=h;refine ⟨h1,?_⟩;rcases h2 with h2 | ⟨g,cap,cur,a,hg,r⟩
 ·exact Or.inl h2
 ·exact Or.inr ⟨g,cap,cur,a,by omega,r⟩
theorem zmx (n:Nat) (vj:Value) (pp:Nat) (vv:Value):(newL n vj pp vv).length=90:=rfl
theorem zmw (n:Nat) (vj:Value) (pp:Nat) (vv:Value) (k:Nat) (hk:k < 20):((newL n vj pp vv)[8+4 * k]?).getD undef=.func (.func (funK k)) #[] (capK (tabJ n) k):=by
 have h:=zrn n k hk;have e:(newL n vj pp vv)[8+4 * k]?=(tabL n)[4 * k+3]?:=by
  unfold newL;have h5:([.slice none 0 0,.slice none 0 0,.slice none 0 0,vj,.pointer (some ⟨pp,0,none⟩)]:List Value).length=5:=rfl;have h80:(tabL n).length=80:=rfl;rw[List.append_assoc,List.getElem?_append_right (by rw[h5];omega),h5,List.getElem?_append_left (by rw[h80];omega),show 8+4 * k - 5=4 * k+3 by omega]
 rw[e,h];rfl
theorem zm6 {w:World} {B g nv:Nat} (hg:B≤g) (h:w.heap[g]?=some (.cells (madeCells #[.int .i64 0] nv) 2)) (hn:nv≤10000000):w.ownsRow B 2 1 (.slice (some ⟨g,0,none⟩) nv nv) nv (i64C (List.replicate nv 0)):=by
 refine ⟨by simp[i64C],.inr ⟨g,nv,madeCells #[.int .i64 0] nv,rfl,hg,h,by simp,by unfold maxLen;omega,by simp[madeCells],?_⟩⟩
 rw[toList_madeCells_one];simp[i64C]
theorem zwy {x:Cx} {w w':World} {n gv:Nat} {l:List Int} {va:Value} (h:NewAt x.pp x.P.nv x.vj w w' x.g n gv) (hB:x.B=w.heap.size) (hJ:x.J=tabJ n) (hjl:x.jl < x.B) (hn:x.P.nv≤10000000) (hva:va.ownBlock=none) (hk:x.K l [] va w') (hp:PgS x w) (he:Ge x w) :
  MK x (Px.qi2 x.P l) w' (fun o=>((newL n x.vj x.pp (.slice (some ⟨gv,0,none⟩) x.P.nv x.P.nv))[o]?).getD undef) va:=by
 have hz:x.g < w'.heap.size:=(Array.getElem?_eq_some_iff.1 h.at_).1;have hvz:gv < w'.heap.size:=(Array.getElem?_eq_some_iff.1 h.vat).1;have hb:Blk w' x.g 90 (fun o=>((newL n x.vj x.pp (.slice (some ⟨gv,0,none⟩) x.P.nv x.P.nv))[o]?).getD undef):=by
  refine ⟨fun o ho=>?_,fun o=>by simp[World.frozen?,h.at_]⟩
  have hl:=zmx n x.vj x.pp (.slice (some ⟨gv,0,none⟩) x.P.nv x.P.nv);have e:(newL n x.vj x.pp (.slice (some ⟨gv,0,none⟩) x.P.nv x.P.nv))[o]?=some ((newL n x.vj x.pp (.slice (some ⟨gv,0,none⟩) x.P.nv x.P.nv))[o]'(by omega)):=List.getElem?_eq_getElem _
  simp only[World.cell?,h.at_,List.getElem?_toArray];rw[e];rfl
 refine ⟨⟨by rw[hB];exact h.g1,hjl,hb,rfl,rfl,fun k hk=>?_,rfl,rfl,rfl,rfl,World.ownsRow_nil _ _ _ _,World.ownsRow_nil _ _ _ _,World.ownsRow_nil _ _ _ _,?_,⟨?_,?_⟩,fun k hk=>?_⟩,hk,hp.tch h.t (fun _ h=>h.elim),he.tch h.t (fun _ h=>h.elim)⟩
 ·rw[hJ];exact zmw n x.vj x.pp _ k hk
 ·have:=zm6 (B:=x.B) (by rw[hB];exact h.v1) h.vat hn
  have el:(Px.qi2 x.P l).vars.length=x.P.nv:=by simp[Px.qi2]
  rw[el];exact this
 ·intro v hv k hkk;have hv':v=.slice none 0 0∨v=.slice (some ⟨gv,0,none⟩) x.P.nv x.P.nv∨v=va:=by
   simp only[rows,List.mem_cons,List.not_mem_nil,or_false] at hv;rcases hv with rfl | rfl | rfl | rfl | rfl
   ·exact Or.inl rfl
   ·exact Or.inl rfl
   ·exact Or.inl rfl
   ·exact Or.inr (Or.inl rfl)
   ·exact Or.inr (Or.inr rfl)
  rcases hv' with rfl | rfl | rfl
  ·cases hkk
  ·cases hkk;exact ⟨by rw[hB];exact h.v1,h.v2,hvz⟩
  ·rw[hva] at hkk;cases hkk
 ·have e:rows (fun o=>((newL n x.vj x.pp (.slice (some ⟨gv,0,none⟩) x.P.nv x.P.nv))[o]?).getD undef) va=[.slice none 0 0,.slice none 0 0,.slice none 0 0,.slice (some ⟨gv,0,none⟩) x.P.nv x.P.nv,va]:=rfl
  rw[e];refine List.Pairwise.cons (fun b _ k hk=>by cases hk) (List.Pairwise.cons (fun b _ k hk=>by cases hk) (List.Pairwise.cons (fun b _ k hk=>by cases hk) (List.Pairwise.cons (fun b hb k _=>?_) (List.Pairwise.cons (fun b hb=>by cases hb) List.Pairwise.nil))))
  rw[List.mem_singleton.1 hb,hva];simp
 ·obtain ⟨j1,j2,j3,j4⟩:=h.jn k hk;rw[hJ];refine ⟨j1,j2,by omega,fun r hr=>?_⟩
  have hr':r=.slice none 0 0∨r=.slice (some ⟨gv,0,none⟩) x.P.nv x.P.nv∨r=va:=by
   simp only[rows,List.mem_cons,List.not_mem_nil,or_false] at hr;rcases hr with rfl | rfl | rfl | rfl | rfl
   ·exact Or.inl rfl
   ·exact Or.inl rfl
   ·exact Or.inl rfl
   ·exact Or.inr (Or.inl rfl)
   ·exact Or.inr (Or.inr rfl)
  rcases hr' with rfl | rfl | rfl
  ·intro e;cases e
  ·intro e;cases e;exact j3 rfl
  ·intro e;rw[hva] at e;cases e
open Go.RowKit
theorem PM.mk' {x:Cx} {m:Px.Ms} {w:World} {f:Nat→Value} {va:Value} {w1:World} {f1:Nat→Value} {va1:Value} (h:MK x m w1 f1 va1) (k:Fr x w f va w1 f1 va1):PM x m w f va w1:=⟨_,_,h,k⟩
theorem PM.place {x:Cx} (hj:JOK x) {m:Px.Ms} {w w1:World} {f:Nat→Value} {va:Value} (h:PM x m w f va w1) (p:Nat):PM x { m with place:=p } w f va (w1.setCell ⟨x.g,86,none⟩ (.int .i64 (p:Int))):=by
 obtain ⟨f1,va1,k1,k2⟩:=h;obtain ⟨j1,j2⟩:=k1.qsy hj p;exact ⟨_,_,j1,k2.trans j2⟩
theorem PM.fin {x:Cx} (hj:JOK x) {m:Px.Ms} {w w1:World} {f:Nat→Value} {va:Value} (h:PM x m w f va w1) (p:Nat):PM x { m with fin:=p } w f va (w1.setCell ⟨x.g,89,none⟩ (.int .i64 (p:Int))):=by
 obtain ⟨f1,va1,k1,k2⟩:=h;obtain ⟨j1,j2⟩:=k1.zf1 hj p;exact ⟨_,_,j1,k2.trans j2⟩
def qqw (P:Px.Pg) (i b:Nat) (m:Px.Ms):Nat×Px.Ms :=
 match Px.askM P i (m.st.headD 0) b false m with
 | (0,v,m')=>(0,{ m' with st:=v::m'.st.tail })
 | (e,_,m')=>(e,m')
theorem qt8 {x:Cx} (hj:JOK x) (hask:qnr x) (m:Px.Ms) (w:World) (f:Nat→Value) (va:Value) (h:MK x m w f va) (i b:Nat) (v:Int) (r:List Int) (hst:m.st=v::r) (hl:r.length≤10000000) (hi:i < x.P.words.length) (hr:Px.R64 v) (hrl:∀ v∈m.left,Px.R64 v) (ht:m.tried < 65536) (hm:b≤65536) (ha:m.asks.length≤10000000) (hww:x.P.words.length≤10000000) :
  Calls Tryz.prog 87 #[.pointer (some ⟨x.g,0,none⟩),.int .i64 (i:Int),.int .i64 (b:Int)] w fun e w'=>e=.returned (errV x (qqw x.P i b m).1)∧PM x (qqw x.P i b m).2 w f va w':=by
 have HH:Hid (_):=h;have HA:Hid (∀ w1,MK x m w1 f va→Calls Tryz.prog 135 #[.pointer (some ⟨x.g,0,none⟩),.int .i64 (i:Int),.int .i64 v,.int .i64 (b:Int),.bool false] w1 (qed x m i v b false w1 f va)):=fun w1 h1=>hask m w1 f va h1 i v b false hi hr hrl ht hm ha hww
 have hhd:m.st.headD 0=v:=by rw[hst];rfl
 clear h hask hi hr hrl ht hm ha hww;cases hq:Px.askM x.P i v b false m with
 | mk ea q =>
  obtain ⟨va',ma⟩:=q;have hma:ma.st=v::r:=by obtain ⟨_,_,_,rfl,_⟩:=Px.qhg hq;exact hst
  have HC:Hid (qqw x.P i b m=if ea=0 then (0,{ ma with st:=va'::r }) else (ea,ma)):=by
   unfold Hid qqw;rw[hhd,hq];cases ea with
   | zero=>rw[if_pos rfl];simp only[hma];rfl
   | succ n=>rw[if_neg (by omega)];rfl
  by_cases hz:ea=0
  ·subst hz;rw[HC.out,if_pos rfl];go_enter Tryz.func87,Tryz.ntmps87
   go_wp2_with fail;refine (qoz hj m w f va HH.out v r hst hl).mono ?_;rintro e w1 ⟨rfl,hT⟩;have H1:Hid (MK x m w1 f va∧Fr x w f va w1 f va):=HH.out.same hj hT;clear hT;go_wp2_with fail;refine Calls.mono (HA.out w1 H1.out.1) ?_;rintro e w2 ⟨rfl,f2,va2,k1,k2⟩;rw[hq] at k1 ⊢;have H2:Hid (MK x ma w2 f2 va2∧Fr x w f va w2 f2 va2):=⟨k1,H1.out.2.trans k2⟩;clear k1 k2 H1 HA;simp only[errV,if_true];go_wp2_with fail;refine (qcq hj ma w2 f2 va2 H2.out.1 v r hma hl).mono ?_;rintro e w3 ⟨rfl,v3,k1,k2⟩;have H3:Hid (MK x { ma with st:=r } w3 (upd f2 0 v3) va2∧Fr x w f va w3 (upd f2 0 v3) va2):=⟨k1,H2.out.2.trans k2⟩
   clear k1 k2 H2;go_wp2_with fail;refine (qem hj { ma with st:=r } w3 _ va2 H3.out.1 va' hl).mono ?_
   rintro e w4 ⟨rfl,v4,k1,k2⟩;have H4:Hid (PM x { ma with st:=va'::r } w f va w4):=PM.mk' k1 (H3.out.2.trans k2)
   clear k1 k2 H3;go_wp2_with fail;go_ret;exact ⟨rfl,H4.out⟩
  ·rw[HC.out,if_neg hz];go_enter Tryz.func87,Tryz.ntmps87
   go_wp2_with fail;refine (qoz hj m w f va HH.out v r hst hl).mono ?_;rintro e w1 ⟨rfl,hT⟩;have H1:Hid (MK x m w1 f va∧Fr x w f va w1 f va):=HH.out.same hj hT;clear hT;go_wp2_with fail;refine Calls.mono (HA.out w1 H1.out.1) ?_;rintro e w2 ⟨rfl,f2,va2,k1,k2⟩;rw[hq] at k1 ⊢;have H2:Hid (MK x ma w2 f2 va2∧Fr x w f va w2 f2 va2):=⟨k1,H1.out.2.trans k2⟩;clear k1 k2 H1 HA;simp only[errV,if_neg hz];go_wp2_with fail;go_ret;exact ⟨by simp only[errV,if_neg hz];rfl,PM.mk' H2.out.1 H2.out.2⟩
theorem zbw {x:Cx} (hj:JOK x) (m:Px.Ms) (w:World) (f:Nat→Value) (va:Value) (h:MK x m w f va) (p:Nat) (v:Int) (r:List Int) (hst:m.st=v::r) (hl:r.length≤10000000) :
  Calls Tryz.prog 77 #[.pointer (some ⟨x.g,0,none⟩),.int .i64 (p:Int)] w fun e w'=>e=.returned (.tuple #[])∧PM x { m with st:=r,place:=if v=0 then p else m.place } w f va w':=by
 have HH:Hid (_):=h;clear h;by_cases hv:v=0
 ·rw[if_pos hv];have hb:(v == 0)=true:=by rw[hv];rfl
  go_enter Tryz.func77,Tryz.ntmps77
  go_wp2_with fail;refine (qcq hj m w f va HH.out v r hst hl).mono ?_;rintro e w1 ⟨rfl,v1,k1,k2⟩;have H1:Hid (MK x { m with st:=r } w1 (upd f 0 v1) va∧Fr x w f va w1 (upd f 0 v1) va):=⟨k1,k2⟩
  have c86:=k1.a.blk.cell 86 (by decide)
  have cf:=k1.a.blk.fr 86;clear k1 k2 HH;go_wp2_with fail;go_end0
  exact ⟨rfl,PM.place hj (PM.mk' H1.out.1 H1.out.2) p⟩
 ·rw[if_neg hv];go_enter Tryz.func77,Tryz.ntmps77
  go_wp2_with fail;refine (qcq hj m w f va HH.out v r hst hl).mono ?_;rintro e w1 ⟨rfl,v1,k1,k2⟩;have H1:Hid (MK x { m with st:=r } w1 (upd f 0 v1) va∧Fr x w f va w1 (upd f 0 v1) va):=⟨k1,k2⟩
  have c86:=k1.a.blk.cell 86 (by decide)
  have cf:=k1.a.blk.fr 86;clear k1 k2 HH;go_wp2_with fail;go_end0
  exact ⟨rfl,PM.mk' H1.out.1 H1.out.2⟩
theorem zj8 {x:Cx} (hj:JOK x) (m:Px.Ms) (w:World) (f:Nat→Value) (va:Value) (h:MK x m w f va) (p:Nat) (v:Int) (r:List Int) (hst:m.st=v::r) (hl:r.length≤10000000) (hv:Px.R64 v) :
  Calls Tryz.prog 79 #[.pointer (some ⟨x.g,0,none⟩),.int .i64 (p:Int)] w fun e w'=>e=.returned (.tuple #[])∧PM x (if 0 < v then { m with st:=wrap64 (v - 1)::r } else { m with st:=r,place:=p }) w f va w':=by
 have HH:Hid (_):=h;clear h;obtain ⟨hv1,hv2⟩:=hv;by_cases hp:0 < v
 ·have ew:wrap64 (v - 1)=v - 1:=by unfold wrap64;omega
  rw[if_pos hp,ew];go_enter Tryz.func79,Tryz.ntmps79
  go_wp2_with fail;refine (qcq hj m w f va HH.out v r hst hl).mono ?_;rintro e w1 ⟨rfl,v1,k1,k2⟩;have H1:Hid (MK x { m with st:=r } w1 (upd f 0 v1) va∧Fr x w f va w1 (upd f 0 v1) va):=⟨k1,k2⟩
  have c86:=k1.a.blk.cell 86 (by decide)
  have cf:=k1.a.blk.fr 86;clear k1 k2 HH;go_wp2_with fail;refine (qem hj { m with st:=r } w1 _ va H1.out.1 (v - 1) hl).mono ?_
  rintro e w2 ⟨rfl,v2,k1,k2⟩;have H2:Hid (PM x { m with st:=(v - 1)::r } w f va w2):=PM.mk' k1 (H1.out.2.trans k2)
  clear k1 k2 H1;go_wp2_with fail;go_end0
  exact ⟨rfl,H2.out⟩
 ·rw[if_neg hp];go_enter Tryz.func79,Tryz.ntmps79
  go_wp2_with fail;refine (qcq hj m w f va HH.out v r hst hl).mono ?_;rintro e w1 ⟨rfl,v1,k1,k2⟩;have H1:Hid (MK x { m with st:=r } w1 (upd f 0 v1) va∧Fr x w f va w1 (upd f 0 v1) va):=⟨k1,k2⟩
  have c86:=k1.a.blk.cell 86 (by decide)
  have cf:=k1.a.blk.fr 86;clear k1 k2 HH;go_wp2_with fail;go_end0
  exact ⟨rfl,PM.place hj (PM.mk' H1.out.1 H1.out.2) p⟩
end Rn
open Go.RowKit Go.Extern.Stop Go.Stop Go.Extern
namespace Lg
theorem zn1 (a b:Addr) (ca cb:Array Value) (ta tb:TypeId) (w:World) (hne:a≠b) (ha:w.heap[a.block]?=some (.cells ca ta (0,0))) (hb:w.heap[b.block]?=some (.cells cb tb (0,0))) :
  Calls Tryz.prog 42 #[.iface 302 (.pointer (some a)),.iface 302 (.pointer (some b))] w fun e w'=>e=.returned (.bool false)∧w'=w:=by
 obtain ⟨i,hi,hcmp⟩:=Option.map_eq_some_iff.1 zat;obtain ⟨j,hj,hjs⟩:=Option.map_eq_some_iff.1 zas;have h8:=@run_callFunc_extern Tryz.prog 54 _ Extern.ReflectliteType.typeOf Tryz.func54 (by kernel_rfl) (by kernel_rfl) (by kernel_rfl) (by kernel_rfl)
 have h32:=@run_callFunc_extern Tryz.prog 201 _ (Extern.ReflectliteType.method fun t=>do Extern.Rtype.noPackHeld "Comparable" t;pure (.bool (← typeInfo t).comparable)) Tryz.func201 (by kernel_rfl) (by kernel_rfl) (by kernel_rfl) (by kernel_rfl)
 have tT:=qlt;have cT:=qhc;have mR:=qdr;have nE:=zs3;have uE:=qli;have vE:=qj3;have heq:=run_eql_iface_ptr_other (P:=Tryz.prog) w Tryz.underlying44 Tryz.underlying302 hi hcmp hj (by rw[hjs];decide) hne ha hb
 go_enter Tryz.func42,Tryz.ntmps42
 go_wp2;refine wp_loop_rounds 1 ?_;rw[rounds_succ];go_wp2;go_ret;exact ⟨rfl,rfl⟩
end Lg
end Go.Proofs.YthanmfbakpcigaaGreatDoor
