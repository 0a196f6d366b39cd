import Derived.Test.YtagpnplggopoeaaGreatDoorT27
import Derived.Defers
import Derived.BigRegion
import Derived.BigQuiet
set_option maxRecDepth 100000
set_option maxHeartbeats 4000000
namespace Go.Proofs.YtagpnplggopoeaaGreatDoor
open Go.RowKit
namespace Rn
theorem do2 {x:Cx} (hj:JOK x) (m:Px.Ms) (w:World) (f:Nat→Value) (va:Value) (h:MK x m w f va) (i:Px.Ins) (hb:Bd x.P m) (hc:Px.CanM x.P i m) (hk:i.k=2) :
  Calls Tryz.prog 91 #[.pointer (some ⟨x.g,0,none⟩),insV i] w (DoPost x i m w f va):=by
 have HB:=h.boxed hj (insO i);have hst:=hc.st;rw[show Px.qbf i.k=1 by rw[hk];rfl] at hst
 obtain ⟨v,r,hst⟩:=qko hst;have hs:=hb.s;rw[hst,List.length_cons] at hs;have hv:i.a < m.vars.length:=by rw[hb.vars];exact Px.qye hc.fit (Or.inr hk)
 have HD:Hid (Px.doM x.P i m=(0,{ m with vars:=m.vars.set i.a v,st:=r })):=by unfold Hid Px.doM;rw[if_neg (by omega),if_neg (by omega),if_pos hk];simp only[hst];rfl
 obtain ⟨q,c,e85,cv,_,hqg,_⟩:=h.qzr hj hv;have c85:=h.a.blk.cell 85 (by decide)
 rw[e85] at c85;have hgz:=h.a.lt;have hqz:=lt_of_cell cv;have hvi:(i.a:Int) < (m.vars.length:Int):=by omega
 have HP:Hid (∀ W,(W=w.alloc (insO i)∨W=(w.alloc (insO i)).drew)→Calls Tryz.prog 92 #[.pointer (some ⟨x.g,0,none⟩)] W fun e w1=>e=.returned (.int .i64 v)∧w1.cell? ⟨x.g,85,none⟩=some (.slice (some ⟨q,0,none⟩) m.vars.length c)∧(∃ u,w1.cell? ⟨q,i.a,none⟩=some u)∧w1.frozen? ⟨q,i.a,none⟩=false∧w1.cell? ⟨w.heap.size,1,none⟩=some (.int .i64 (i.a:Int))∧Hid (PM x { m with vars:=m.vars.set i.a v,st:=r } w f va (w1.setCell ⟨q,i.a,none⟩ (.int .i64 v)))):=fun W hW=>by
  obtain ⟨j1,j2⟩:=HB.out W hW;refine (qcq hj m W f va j1 v r hst (by omega)).mono ?_
  rintro e w1 ⟨rfl,v1,k1,k2⟩;obtain ⟨q',c',e1,e2,e3,_,e4⟩:=k1.qzr hj hv;have e1':f 85=.slice (some ⟨q',0,none⟩) m.vars.length c':=e1;rw[e85] at e1';cases e1';have c1:=k1.a.blk.cell 85 (by decide)
  rw[e1] at c1;refine ⟨rfl,c1,⟨_,e2⟩,e3,Fr.loc h.a (Nat.le_refl _) k2 ?_,PM.mk' (e4 v).1 (j2.trans (k2.trans (e4 v).2))⟩;rcases hW with rfl | rfl
  ·exact qct w _ _ 1 _ rfl
  ·exact qct w _ _ 1 _ rfl
 unfold insV;unfold insO at HB HP;have hs1:∀ (w1:World) (u:Value),(w1.setCell ⟨q,i.a,none⟩ u).cell? ⟨x.g,85,none⟩=w1.cell? ⟨x.g,85,none⟩:=fun w1 u=>qb4 (fun e=>hqg (congrArg Addr.block e))
 have hs2:∀ (w1:World) (u:Value),(w1.setCell ⟨q,i.a,none⟩ u).cell? ⟨w.heap.size,1,none⟩=w1.cell? ⟨w.heap.size,1,none⟩:=fun w1 u=>qb4 (fun e=>by have:=congrArg Addr.block e;simp only at this;omega)
 clear h hb hc hk hst hs hv;generalize m.vars.length=L at *;go_enter Tryz.func91,Tryz.ntmps91
 go_wp2_with fail;go_region_held (fun w'=>w'.cell? ⟨x.g,85,none⟩=some (.slice (some ⟨q,0,none⟩) L c)∧w'.cell? ⟨w.heap.size,1,none⟩=some (.int .i64 (i.a:Int))) (go_keep)
  (first | (go_at_call 92;refine Calls.mono (HP.out _ (by first | exact Or.inl rfl | exact Or.inr rfl)) ?_;rintro e w1 ⟨rfl,d1,⟨u,d2⟩,d3,d4,H1⟩))
 all_goals
  go_wp2_with fail;go_ret;exact DoPost.ok HD.out (by first | exact H1.out | exact PM.same hj H1.out (Tch.refl _ _).drew)
theorem qfu (b:Bool) (w:World) :
  Calls Tryz.prog 101 #[.bool b] w fun e w'=>e=.returned (.int .i64 (Px.truth b))∧w'=w:=by
 cases b
 ·go_enter Tryz.func101,Tryz.ntmps101
  go_wp2_with fail;go_ret;exact ⟨rfl,rfl⟩
 ·go_enter Tryz.func101,Tryz.ntmps101
  go_wp2_with fail;go_ret;exact ⟨rfl,rfl⟩
theorem do11 {x:Cx} (hj:JOK x) (m:Px.Ms) (w:World) (f:Nat→Value) (va:Value) (h:MK x m w f va) (i:Px.Ins) (hb:Bd x.P m) (hc:Px.CanM x.P i m) (hk:i.k=11) :
  Calls Tryz.prog 104 #[.pointer (some ⟨x.g,0,none⟩),insV i] w (DoPost x i m w f va):=by
 have HB:=h.boxed hj (insO i);have hst:=hc.st;rw[show Px.qbf i.k=1 by rw[hk];rfl] at hst
 obtain ⟨v,r,hst⟩:=qko hst;have hs:=hb.s;rw[hst,List.length_cons] at hs;have HD:Hid (Px.doM x.P i m=(0,{ m with st:=Px.truth (decide (v=0))::r })):=by unfold Hid Px.doM;rw[if_neg (by omega),if_neg (by omega),if_neg (by omega),if_neg (by omega),if_neg (by omega),if_neg (by omega),if_pos hk];simp only[hst];rfl
 have HP:Hid (∀ W,(W=w.alloc (insO i)∨W=(w.alloc (insO i)).drew)→Calls Tryz.prog 92 #[.pointer (some ⟨x.g,0,none⟩)] W fun e w1=>e=.returned (.int .i64 v)∧Hid (∃ v1,MK x { m with st:=r } w1 (upd f 0 v1) va∧Fr x w f va w1 (upd f 0 v1) va)):=fun W hW=>by
  obtain ⟨j1,j2⟩:=HB.out W hW;refine (qcq hj m W f va j1 v r hst (by omega)).mono ?_
  rintro e w1 ⟨rfl,v1,k1,k2⟩;exact ⟨rfl,v1,k1,j2.trans k2⟩
 have HU:Hid (∀ w1,(∃ v1,MK x { m with st:=r } w1 (upd f 0 v1) va∧Fr x w f va w1 (upd f 0 v1) va)→∀ t:Int,Calls Tryz.prog 89 #[.pointer (some ⟨x.g,0,none⟩),.int .i64 t] w1 fun e w2=>e=.returned (.tuple #[])∧Hid (PM x { m with st:=t::r } w f va w2)):=fun w1 ⟨v1,h1,h2⟩ t=>by
  refine (qem hj { m with st:=r } w1 _ va h1 t (by show r.length≤_;omega)).mono ?_
  rintro e w2 ⟨rfl,v2,k1,k2⟩;exact ⟨rfl,PM.mk' k1 (h2.trans k2)⟩
 have hbq:decide (v=0)=(v == 0):=by rw[Bool.eq_iff_iff];simp
 rw[hbq] at HD;unfold insV;unfold insO at HB HP;clear h hb hc hk hst hs hbq;go_enter Tryz.func104,Tryz.ntmps104
 go_wp2_with fail;go_region_with (first | (go_at_call 92;refine Calls.mono (HP.out _ (by first | exact Or.inl rfl | exact Or.inr rfl)) ?_;rintro e w1 ⟨rfl,H1⟩) | (go_at_call 101;refine (qfu (v == 0) _).mono ?_;rintro e w2 ⟨rfl,rfl⟩) | (go_at_call 89;refine Calls.mono (HU.out _ H1.out _) ?_;rintro e w3 ⟨rfl,H3⟩))
 all_goals
  go_wp2_with fail;go_ret;exact DoPost.ok HD.out H3.out
theorem zdn {x:Cx} (hj:JOK x) (m:Px.Ms) (w:World) (f:Nat→Value) (va:Value) (h:MK x m w f va) (b a:Int) (r:List Int) (hst:m.st=b::a::r) (hl:r.length≤9000000) :
  Calls Tryz.prog 99 #[.pointer (some ⟨x.g,0,none⟩)] w fun e w'=>e=.returned (errV x (if b=0 then 1 else 0))∧PM x (if b=0 then m else { m with st:=wrap64 (a.tdiv b)::r }) w f va w':=by
 have HT:Hid (Calls Tryz.prog 120 #[.pointer (some ⟨x.g,0,none⟩)] w fun e w1=>e=.returned (.int .i64 b)∧w1.cell? ⟨11,0,none⟩=some (.iface 359 (.pointer (some (x.E 1))))∧Hid (MK x m w1 f va∧Fr x w f va w1 f va)):=by
  refine (qoz hj m w f va h b (a::r) hst (by simp;omega)).mono ?_
  rintro e w1 ⟨rfl,hT⟩;obtain ⟨k1,k2⟩:=h.same hj hT;exact ⟨rfl,k1.e.v1,k1,k2⟩
 have HP:Hid (∀ w1,(MK x m w1 f va∧Fr x w f va w1 f va)→Calls Tryz.prog 92 #[.pointer (some ⟨x.g,0,none⟩)] w1 fun e w2=>e=.returned (.int .i64 b)∧Hid (∃ f1,MK x { m with st:=a::r } w2 f1 va∧Fr x w f va w2 f1 va)):=fun w1 ⟨h1,h2⟩=>by
  refine (qcq hj m w1 f va h1 b (a::r) hst (by simp;omega)).mono ?_
  rintro e w2 ⟨rfl,v1,k1,k2⟩;exact ⟨rfl,_,k1,h2.trans k2⟩
 have HP2:Hid (∀ w1 W,(∃ f1,MK x { m with st:=a::r } w1 f1 va∧Fr x w f va w1 f1 va)→Tch (fun _=>False) w1 W→Calls Tryz.prog 92 #[.pointer (some ⟨x.g,0,none⟩)] W fun e w2=>e=.returned (.int .i64 a)∧Hid (∃ f1,MK x { m with st:=r } w2 f1 va∧Fr x w f va w2 f1 va)):=fun w1 W ⟨f1,h1,h2⟩ hT=>by
  obtain ⟨j1,j2⟩:=h1.same hj hT;refine (qcq hj { m with st:=a::r } W f1 va j1 a r rfl (by omega)).mono ?_
  rintro e w2 ⟨rfl,v1,k1,k2⟩;exact ⟨rfl,_,k1,h2.trans (j2.trans k2)⟩
 have HU:Hid (∀ w1,(∃ f1,MK x { m with st:=r } w1 f1 va∧Fr x w f va w1 f1 va)→∀ t:Int,Calls Tryz.prog 89 #[.pointer (some ⟨x.g,0,none⟩),.int .i64 t] w1 fun e w2=>e=.returned (.tuple #[])∧Hid (PM x { m with st:=t::r } w f va w2)):=fun w1 ⟨f1,h1,h2⟩ t=>by
  refine (qem hj { m with st:=r } w1 f1 va h1 t (by show r.length≤_;omega)).mono ?_
  rintro e w2 ⟨rfl,v2,k1,k2⟩;exact ⟨rfl,PM.mk' k1 (h2.trans k2)⟩
 clear h hst;by_cases hb:b=0
 ·rw[if_pos hb,if_pos hb];have hb':(b == 0)=true:=by rw[hb];rfl
  go_enter Tryz.func99,Tryz.ntmps99
  go_wp2_with fail;refine Calls.mono HT.out ?_;rintro e w1 ⟨rfl,g1,H1⟩;go_wp2_with fail;go_ret;exact ⟨rfl,PM.mk' H1.out.1 H1.out.2⟩
 ·rw[if_neg hb,if_neg hb];have hb':(b == 0)=false:=by simpa using hb
  have hwr:IntKind.i64.wrap (a.tdiv b)=wrap64 (a.tdiv b):=by rw[IntKind.wrap_i64];unfold wrap64;rfl
  go_enter Tryz.func99,Tryz.ntmps99
  go_wp2_with fail;refine Calls.mono HT.out ?_;rintro e w1 ⟨rfl,g1,H1⟩;go_wp2_with fail;refine Calls.mono (HP.out _ H1.out) ?_;rintro e w2 ⟨rfl,H2⟩;go_wp2_with fail;go_region_with (first | (go_at_call 92;refine Calls.mono (HP2.out _ _ H2.out (by first | exact Tch.refl _ _ | exact (Tch.refl _ _).drew)) ?_;rintro e w3 ⟨rfl,H3⟩) | (go_at_call 89;refine Calls.mono (HU.out _ H3.out _) ?_;rintro e w4 ⟨rfl,H4⟩))
  all_goals
   go_wp2_with fail;go_ret;exact ⟨rfl,H4.out⟩
theorem do7 {x:Cx} (hj:JOK x) (m:Px.Ms) (w:World) (f:Nat→Value) (va:Value) (h:MK x m w f va) (i:Px.Ins) (hb:Bd x.P m) (hc:Px.CanM x.P i m) (hk:i.k=7) :
  Calls Tryz.prog 98 #[.pointer (some ⟨x.g,0,none⟩),insV i] w (DoPost x i m w f va):=by
 have HB:=h.boxed hj (insO i);have hst:=hc.st;rw[show Px.qbf i.k=2 by rw[hk];rfl] at hst
 obtain ⟨b,a,r,hst⟩:=qh1 hst;have hs:=hb.s;rw[hst,List.length_cons,List.length_cons] at hs;have HD:Hid (Px.doM x.P i m=(if b=0 then 1 else 0,if b=0 then m else { m with st:=wrap64 (a.tdiv b)::r })):=by unfold Hid Px.doM;rw[if_neg (by omega),if_neg (by omega),if_neg (by omega),if_neg (by omega),if_pos hk];simp only[hst,List.headD_cons,List.tail_cons];split<;>rfl
 have HP:Hid (∀ W,(W=w.alloc (insO i)∨W=(w.alloc (insO i)).drew)→Calls Tryz.prog 99 #[.pointer (some ⟨x.g,0,none⟩)] W fun e w1=>e=.returned (errV x (if b=0 then 1 else 0))∧Hid (PM x (if b=0 then m else { m with st:=wrap64 (a.tdiv b)::r }) w f va w1)):=fun W hW=>by
  obtain ⟨j1,j2⟩:=HB.out W hW;refine (zdn hj m W f va j1 b a r hst (by omega)).mono ?_
  rintro e w1 ⟨rfl,f1,va1,k1,k2⟩;exact ⟨rfl,PM.mk' k1 (j2.trans k2)⟩
 unfold insV;unfold insO at HB HP;clear h hb hc hk hst hs;generalize (if b=0 then 1 else 0)=E at *
 generalize (if b=0 then m else { m with st:=wrap64 (a.tdiv b)::r })=M at *
 go_enter Tryz.func98,Tryz.ntmps98
 go_wp2_with fail;refine Calls.mono (HP.out _ (by first | exact Or.inl rfl | exact Or.inr rfl)) ?_
 rintro e w1 ⟨rfl,H1⟩;go_wp2_with fail;go_ret;unfold DoPost;rw[HD.out];exact ⟨rfl,H1.out⟩
open Go.RowKit
theorem join4 (a b:Int) (w:World):Calls Tryz.prog 95 #[.int .i64 a,.int .i64 b] w fun e w'=>e=.returned (.int .i64 (wrap64 (a+b)))∧w'=w:=by
 have hwr:IntKind.i64.wrap (a+b)=wrap64 (a+b):=by rw[IntKind.wrap_i64];unfold wrap64;rfl
 go_enter Tryz.func95,Tryz.ntmps95
 go_wp2_with fail;go_ret;exact ⟨by first | rfl | (congr 2),rfl⟩
theorem join5 (a b:Int) (w:World):Calls Tryz.prog 96 #[.int .i64 a,.int .i64 b] w fun e w'=>e=.returned (.int .i64 (wrap64 (a - b)))∧w'=w:=by
 have hwr:IntKind.i64.wrap (a - b)=wrap64 (a - b):=by rw[IntKind.wrap_i64];unfold wrap64;rfl
 go_enter Tryz.func96,Tryz.ntmps96
 go_wp2_with fail;go_ret;exact ⟨by first | rfl | (congr 2),rfl⟩
theorem join6 (a b:Int) (w:World):Calls Tryz.prog 97 #[.int .i64 a,.int .i64 b] w fun e w'=>e=.returned (.int .i64 (wrap64 (a * b)))∧w'=w:=by
 have hwr:IntKind.i64.wrap (a * b)=wrap64 (a * b):=by rw[IntKind.wrap_i64];unfold wrap64;rfl
 go_enter Tryz.func97,Tryz.ntmps97
 go_wp2_with fail;go_ret;exact ⟨by first | rfl | (congr 2),rfl⟩
theorem join8 (a b:Int) (w:World):Calls Tryz.prog 100 #[.int .i64 a,.int .i64 b] w fun e w'=>e=.returned (.int .i64 (Px.truth (decide (a < b))))∧w'=w:=by
 have hd:(decide (a < b))=(decide (a < b)):=rfl;rw[hd];go_enter Tryz.func100,Tryz.ntmps100
 go_wp2_with fail;refine (qfu _ _).mono ?_;rintro e w1 ⟨rfl,rfl⟩;go_wp2_with fail;go_ret;exact ⟨rfl,rfl⟩
theorem join9 (a b:Int) (w:World):Calls Tryz.prog 102 #[.int .i64 a,.int .i64 b] w fun e w'=>e=.returned (.int .i64 (Px.truth (decide (a=b))))∧w'=w:=by
 have hd:(decide (a=b))=(a == b):=by rw[Bool.eq_iff_iff];simp
 rw[hd];go_enter Tryz.func102,Tryz.ntmps102
 go_wp2_with fail;refine (qfu _ _).mono ?_;rintro e w1 ⟨rfl,rfl⟩;go_wp2_with fail;go_ret;exact ⟨rfl,rfl⟩
theorem zw9 (a b:Int) (w:World):Calls Tryz.prog 103 #[.int .i64 a,.int .i64 b] w fun e w'=>e=.returned (.int .i64 (Px.truth (decide (a≠b))))∧w'=w:=by
 have hd:(decide (a≠b))=(a != b):=by rw[Bool.eq_iff_iff];simp
 rw[hd];go_enter Tryz.func103,Tryz.ntmps103
 go_wp2_with fail;refine (qfu _ _).mono ?_;rintro e w1 ⟨rfl,rfl⟩;go_wp2_with fail;go_ret;exact ⟨rfl,rfl⟩
theorem do4 {x:Cx} (hj:JOK x) (m:Px.Ms) (w:World) (f:Nat→Value) (va:Value) (h:MK x m w f va) (i:Px.Ins) (hb:Bd x.P m) (hc:Px.CanM x.P i m) (hk:i.k=4) :
  Calls Tryz.prog 144 #[.pointer (some ⟨x.g,0,none⟩),insV i,.pointer (some ⟨x.J 4,0,none⟩)] w (DoPost x i m w f va):=by
 have HB:=h.boxed hj (insO i);have hst:=hc.st;rw[show Px.qbf i.k=2 by rw[hk];rfl] at hst
 obtain ⟨b,a,r,hst⟩:=qh1 hst;have hs:=hb.s;rw[hst,List.length_cons,List.length_cons] at hs;have HD:Hid (Px.doM x.P i m=(0,{ m with st:=wrap64 (a+b)::r })):=by unfold Hid Px.doM;rw[if_neg (by omega),if_neg (by omega),if_neg (by omega),if_neg (by omega),if_neg (by omega),if_pos (by omega)];simp only[hst,hk];rfl
 have HP:Hid (∀ W,(W=w.alloc (insO i)∨W=(w.alloc (insO i)).drew)→Calls Tryz.prog 92 #[.pointer (some ⟨x.g,0,none⟩)] W fun e w1=>e=.returned (.int .i64 b)∧w1.cell? ⟨x.J 4,0,none⟩=some (.func (.func 95) #[] #[])∧Hid (∃ f1,MK x { m with st:=a::r } w1 f1 va∧Fr x w f va w1 f1 va)):=fun W hW=>by
  obtain ⟨j1,j2⟩:=HB.out W hW;refine (qcq hj m W f va j1 b (a::r) hst (by simp;omega)).mono ?_
  rintro e w1 ⟨rfl,v1,k1,k2⟩;exact ⟨rfl,(k1.a.jn 4 rfl).1,_,k1,j2.trans k2⟩
 have HP2:Hid (∀ w1 W,(∃ f1,MK x { m with st:=a::r } w1 f1 va∧Fr x w f va w1 f1 va)→Tch (fun _=>False) w1 W→Calls Tryz.prog 92 #[.pointer (some ⟨x.g,0,none⟩)] W fun e w2=>e=.returned (.int .i64 a)∧w2.cell? ⟨x.J 4,0,none⟩=some (.func (.func 95) #[] #[])∧Hid (∃ f1,MK x { m with st:=r } w2 f1 va∧Fr x w f va w2 f1 va)):=fun w1 W ⟨f1,h1,h2⟩ hT=>by
  obtain ⟨j1,j2⟩:=h1.same hj hT;refine (qcq hj { m with st:=a::r } W f1 va j1 a r rfl (by omega)).mono ?_
  rintro e w2 ⟨rfl,v1,k1,k2⟩;exact ⟨rfl,(k1.a.jn 4 rfl).1,_,k1,h2.trans (j2.trans k2)⟩
 have HU:Hid (∀ w1,(∃ f1,MK x { m with st:=r } w1 f1 va∧Fr x w f va w1 f1 va)→Calls Tryz.prog 89 #[.pointer (some ⟨x.g,0,none⟩),.int .i64 (wrap64 (a+b))] w1 fun e w2=>e=.returned (.tuple #[])∧w2.cell? ⟨x.J 4,0,none⟩=some (.func (.func 95) #[] #[])∧Hid (PM x { m with st:=wrap64 (a+b)::r } w f va w2)):=fun w1 ⟨f1,h1,h2⟩=>by
  refine (qem hj { m with st:=r } w1 f1 va h1 (wrap64 (a+b)) (by show r.length≤_;omega)).mono ?_
  rintro e w2 ⟨rfl,v2,k1,k2⟩;exact ⟨rfl,(k1.a.jn 4 rfl).1,PM.mk' k1 (h2.trans k2)⟩
 have HJ:Hid (∀ W:World,Calls Tryz.prog 95 #[.int .i64 a,.int .i64 b] W fun e w'=>e=.returned (.int .i64 (wrap64 (a+b)))∧w'=W):=fun W=>join4 a b W
 unfold insV;unfold insO at HB HP;clear h hb hc hk hst hs;generalize wrap64 (a+b)=EE at *;go_enter Tryz.func144,Tryz.ntmps144
 go_wp2_with fail;refine Calls.mono (HP.out _ (by first | exact Or.inl rfl | exact Or.inr rfl)) ?_
 rintro e w1 ⟨rfl,d1,H1⟩;go_wp2_with fail;go_region_held (fun w'=>w'.cell? ⟨x.J 4,0,none⟩=some (.func (.func 95) #[] #[])) (go_keep)
  (first | (go_at_call 92;refine Calls.mono (HP2.out _ _ H1.out (by first | exact Tch.refl _ _ | exact (Tch.refl _ _).drew)) ?_;rintro e w2 ⟨rfl,d2,H2⟩) | (go_at_call 95;refine Calls.mono (HJ.out _) ?_;rintro e w3 ⟨rfl,rfl⟩) | (go_at_call 89;refine Calls.mono (HU.out _ H2.out) ?_;rintro e w4 ⟨rfl,d4,H4⟩))
 all_goals
  go_wp2_with fail;go_ret;exact DoPost.ok HD.out H4.out
theorem do5 {x:Cx} (hj:JOK x) (m:Px.Ms) (w:World) (f:Nat→Value) (va:Value) (h:MK x m w f va) (i:Px.Ins) (hb:Bd x.P m) (hc:Px.CanM x.P i m) (hk:i.k=5) :
  Calls Tryz.prog 144 #[.pointer (some ⟨x.g,0,none⟩),insV i,.pointer (some ⟨x.J 5,0,none⟩)] w (DoPost x i m w f va):=by
 have HB:=h.boxed hj (insO i);have hst:=hc.st;rw[show Px.qbf i.k=2 by rw[hk];rfl] at hst
 obtain ⟨b,a,r,hst⟩:=qh1 hst;have hs:=hb.s;rw[hst,List.length_cons,List.length_cons] at hs;have HD:Hid (Px.doM x.P i m=(0,{ m with st:=wrap64 (a - b)::r })):=by unfold Hid Px.doM;rw[if_neg (by omega),if_neg (by omega),if_neg (by omega),if_neg (by omega),if_neg (by omega),if_pos (by omega)];simp only[hst,hk];rfl
 have HP:Hid (∀ W,(W=w.alloc (insO i)∨W=(w.alloc (insO i)).drew)→Calls Tryz.prog 92 #[.pointer (some ⟨x.g,0,none⟩)] W fun e w1=>e=.returned (.int .i64 b)∧w1.cell? ⟨x.J 5,0,none⟩=some (.func (.func 96) #[] #[])∧Hid (∃ f1,MK x { m with st:=a::r } w1 f1 va∧Fr x w f va w1 f1 va)):=fun W hW=>by
  obtain ⟨j1,j2⟩:=HB.out W hW;refine (qcq hj m W f va j1 b (a::r) hst (by simp;omega)).mono ?_
  rintro e w1 ⟨rfl,v1,k1,k2⟩;exact ⟨rfl,(k1.a.jn 5 rfl).1,_,k1,j2.trans k2⟩
 have HP2:Hid (∀ w1 W,(∃ f1,MK x { m with st:=a::r } w1 f1 va∧Fr x w f va w1 f1 va)→Tch (fun _=>False) w1 W→Calls Tryz.prog 92 #[.pointer (some ⟨x.g,0,none⟩)] W fun e w2=>e=.returned (.int .i64 a)∧w2.cell? ⟨x.J 5,0,none⟩=some (.func (.func 96) #[] #[])∧Hid (∃ f1,MK x { m with st:=r } w2 f1 va∧Fr x w f va w2 f1 va)):=fun w1 W ⟨f1,h1,h2⟩ hT=>by
  obtain ⟨j1,j2⟩:=h1.same hj hT;refine (qcq hj { m with st:=a::r } W f1 va j1 a r rfl (by omega)).mono ?_
  rintro e w2 ⟨rfl,v1,k1,k2⟩;exact ⟨rfl,(k1.a.jn 5 rfl).1,_,k1,h2.trans (j2.trans k2)⟩
 have HU:Hid (∀ w1,(∃ f1,MK x { m with st:=r } w1 f1 va∧Fr x w f va w1 f1 va)→Calls Tryz.prog 89 #[.pointer (some ⟨x.g,0,none⟩),.int .i64 (wrap64 (a - b))] w1 fun e w2=>e=.returned (.tuple #[])∧w2.cell? ⟨x.J 5,0,none⟩=some (.func (.func 96) #[] #[])∧Hid (PM x { m with st:=wrap64 (a - b)::r } w f va w2)):=fun w1 ⟨f1,h1,h2⟩=>by
  refine (qem hj { m with st:=r } w1 f1 va h1 (wrap64 (a - b)) (by show r.length≤_;omega)).mono ?_
  rintro e w2 ⟨rfl,v2,k1,k2⟩;exact ⟨rfl,(k1.a.jn 5 rfl).1,PM.mk' k1 (h2.trans k2)⟩
 have HJ:Hid (∀ W:World,Calls Tryz.prog 96 #[.int .i64 a,.int .i64 b] W fun e w'=>e=.returned (.int .i64 (wrap64 (a - b)))∧w'=W):=fun W=>join5 a b W
 unfold insV;unfold insO at HB HP;clear h hb hc hk hst hs;generalize wrap64 (a - b)=EE at *;go_enter Tryz.func144,Tryz.ntmps144
 go_wp2_with fail;refine Calls.mono (HP.out _ (by first | exact Or.inl rfl | exact Or.inr rfl)) ?_
 rintro e w1 ⟨rfl,d1,H1⟩;go_wp2_with fail;go_region_held (fun w'=>w'.cell? ⟨x.J 5,0,none⟩=some (.func (.func 96) #[] #[])) (go_keep)
  (first | (go_at_call 92;refine Calls.mono (HP2.out _ _ H1.out (by first | exact Tch.refl _ _ | exact (Tch.refl _ _).drew)) ?_;rintro e w2 ⟨rfl,d2,H2⟩) | (go_at_call 96;refine Calls.mono (HJ.out _) ?_;rintro e w3 ⟨rfl,rfl⟩) | (go_at_call 89;refine Calls.mono (HU.out _ H2.out) ?_;rintro e w4 ⟨rfl,d4,H4⟩))
 all_goals
  go_wp2_with fail;go_ret;exact DoPost.ok HD.out H4.out
theorem do6 {x:Cx} (hj:JOK x) (m:Px.Ms) (w:World) (f:Nat→Value) (va:Value) (h:MK x m w f va) (i:Px.Ins) (hb:Bd x.P m) (hc:Px.CanM x.P i m) (hk:i.k=6) :
  Calls Tryz.prog 144 #[.pointer (some ⟨x.g,0,none⟩),insV i,.pointer (some ⟨x.J 6,0,none⟩)] w (DoPost x i m w f va):=by
 have HB:=h.boxed hj (insO i);have hst:=hc.st;rw[show Px.qbf i.k=2 by rw[hk];rfl] at hst
 obtain ⟨b,a,r,hst⟩:=qh1 hst;have hs:=hb.s;rw[hst,List.length_cons,List.length_cons] at hs;have HD:Hid (Px.doM x.P i m=(0,{ m with st:=wrap64 (a * b)::r })):=by unfold Hid Px.doM;rw[if_neg (by omega),if_neg (by omega),if_neg (by omega),if_neg (by omega),if_neg (by omega),if_pos (by omega)];simp only[hst,hk];rfl
 have HP:Hid (∀ W,(W=w.alloc (insO i)∨W=(w.alloc (insO i)).drew)→Calls Tryz.prog 92 #[.pointer (some ⟨x.g,0,none⟩)] W fun e w1=>e=.returned (.int .i64 b)∧w1.cell? ⟨x.J 6,0,none⟩=some (.func (.func 97) #[] #[])∧Hid (∃ f1,MK x { m with st:=a::r } w1 f1 va∧Fr x w f va w1 f1 va)):=fun W hW=>by
  obtain ⟨j1,j2⟩:=HB.out W hW;refine (qcq hj m W f va j1 b (a::r) hst (by simp;omega)).mono ?_
  rintro e w1 ⟨rfl,v1,k1,k2⟩;exact ⟨rfl,(k1.a.jn 6 rfl).1,_,k1,j2.trans k2⟩
 have HP2:Hid (∀ w1 W,(∃ f1,MK x { m with st:=a::r } w1 f1 va∧Fr x w f va w1 f1 va)→Tch (fun _=>False) w1 W→Calls Tryz.prog 92 #[.pointer (some ⟨x.g,0,none⟩)] W fun e w2=>e=.returned (.int .i64 a)∧w2.cell? ⟨x.J 6,0,none⟩=some (.func (.func 97) #[] #[])∧Hid (∃ f1,MK x { m with st:=r } w2 f1 va∧Fr x w f va w2 f1 va)):=fun w1 W ⟨f1,h1,h2⟩ hT=>by
  obtain ⟨j1,j2⟩:=h1.same hj hT;refine (qcq hj { m with st:=a::r } W f1 va j1 a r rfl (by omega)).mono ?_
  rintro e w2 ⟨rfl,v1,k1,k2⟩;exact ⟨rfl,(k1.a.jn 6 rfl).1,_,k1,h2.trans (j2.trans k2)⟩
 have HU:Hid (∀ w1,(∃ f1,MK x { m with st:=r } w1 f1 va∧Fr x w f va w1 f1 va)→Calls Tryz.prog 89 #[.pointer (some ⟨x.g,0,none⟩),.int .i64 (wrap64 (a * b))] w1 fun e w2=>e=.returned (.tuple #[])∧w2.cell? ⟨x.J 6,0,none⟩=some (.func (.func 97) #[] #[])∧Hid (PM x { m with st:=wrap64 (a * b)::r } w f va w2)):=fun w1 ⟨f1,h1,h2⟩=>by
  refine (qem hj { m with st:=r } w1 f1 va h1 (wrap64 (a * b)) (by show r.length≤_;omega)).mono ?_
  rintro e w2 ⟨rfl,v2,k1,k2⟩;exact ⟨rfl,(k1.a.jn 6 rfl).1,PM.mk' k1 (h2.trans k2)⟩
 have HJ:Hid (∀ W:World,Calls Tryz.prog 97 #[.int .i64 a,.int .i64 b] W fun e w'=>e=.returned (.int .i64 (wrap64 (a * b)))∧w'=W):=fun W=>join6 a b W
 unfold insV;unfold insO at HB HP;clear h hb hc hk hst hs;generalize wrap64 (a * b)=EE at *;go_enter Tryz.func144,Tryz.ntmps144
 go_wp2_with fail;refine Calls.mono (HP.out _ (by first | exact Or.inl rfl | exact Or.inr rfl)) ?_
 rintro e w1 ⟨rfl,d1,H1⟩;go_wp2_with fail;go_region_held (fun w'=>w'.cell? ⟨x.J 6,0,none⟩=some (.func (.func 97) #[] #[])) (go_keep)
  (first | (go_at_call 92;refine Calls.mono (HP2.out _ _ H1.out (by first | exact Tch.refl _ _ | exact (Tch.refl _ _).drew)) ?_;rintro e w2 ⟨rfl,d2,H2⟩) | (go_at_call 97;refine Calls.mono (HJ.out _) ?_;rintro e w3 ⟨rfl,rfl⟩) | (go_at_call 89;refine Calls.mono (HU.out _ H2.out) ?_;rintro e w4 ⟨rfl,d4,H4⟩))
 all_goals
  go_wp2_with fail;go_ret;exact DoPost.ok HD.out H4.out
theorem do8 {x:Cx} (hj:JOK x) (m:Px.Ms) (w:World) (f:Nat→Value) (va:Value) (h:MK x m w f va) (i:Px.Ins) (hb:Bd x.P m) (hc:Px.CanM x.P i m) (hk:i.k=8) :
  Calls Tryz.prog 144 #[.pointer (some ⟨x.g,0,none⟩),insV i,.pointer (some ⟨x.J 8,0,none⟩)] w (DoPost x i m w f va):=by
 have HB:=h.boxed hj (insO i);have hst:=hc.st;rw[show Px.qbf i.k=2 by rw[hk];rfl] at hst
 obtain ⟨b,a,r,hst⟩:=qh1 hst;have hs:=hb.s;rw[hst,List.length_cons,List.length_cons] at hs;have HD:Hid (Px.doM x.P i m=(0,{ m with st:=Px.truth (decide (a < b))::r })):=by unfold Hid Px.doM;rw[if_neg (by omega),if_neg (by omega),if_neg (by omega),if_neg (by omega),if_neg (by omega),if_pos (by omega)];simp only[hst,hk];rfl
 have HP:Hid (∀ W,(W=w.alloc (insO i)∨W=(w.alloc (insO i)).drew)→Calls Tryz.prog 92 #[.pointer (some ⟨x.g,0,none⟩)] W fun e w1=>e=.returned (.int .i64 b)∧w1.cell? ⟨x.J 8,0,none⟩=some (.func (.func 100) #[] #[])∧Hid (∃ f1,MK x { m with st:=a::r } w1 f1 va∧Fr x w f va w1 f1 va)):=fun W hW=>by
  obtain ⟨j1,j2⟩:=HB.out W hW;refine (qcq hj m W f va j1 b (a::r) hst (by simp;omega)).mono ?_
  rintro e w1 ⟨rfl,v1,k1,k2⟩;exact ⟨rfl,(k1.a.jn 8 rfl).1,_,k1,j2.trans k2⟩
 have HP2:Hid (∀ w1 W,(∃ f1,MK x { m with st:=a::r } w1 f1 va∧Fr x w f va w1 f1 va)→Tch (fun _=>False) w1 W→Calls Tryz.prog 92 #[.pointer (some ⟨x.g,0,none⟩)] W fun e w2=>e=.returned (.int .i64 a)∧w2.cell? ⟨x.J 8,0,none⟩=some (.func (.func 100) #[] #[])∧Hid (∃ f1,MK x { m with st:=r } w2 f1 va∧Fr x w f va w2 f1 va)):=fun w1 W ⟨f1,h1,h2⟩ hT=>by
  obtain ⟨j1,j2⟩:=h1.same hj hT;refine (qcq hj { m with st:=a::r } W f1 va j1 a r rfl (by omega)).mono ?_
  rintro e w2 ⟨rfl,v1,k1,k2⟩;exact ⟨rfl,(k1.a.jn 8 rfl).1,_,k1,h2.trans (j2.trans k2)⟩
 have HU:Hid (∀ w1,(∃ f1,MK x { m with st:=r } w1 f1 va∧Fr x w f va w1 f1 va)→Calls Tryz.prog 89 #[.pointer (some ⟨x.g,0,none⟩),.int .i64 (Px.truth (decide (a < b)))] w1 fun e w2=>e=.returned (.tuple #[])∧w2.cell? ⟨x.J 8,0,none⟩=some (.func (.func 100) #[] #[])∧Hid (PM x { m with st:=Px.truth (decide (a < b))::r } w f va w2)):=fun w1 ⟨f1,h1,h2⟩=>by
  refine (qem hj { m with st:=r } w1 f1 va h1 (Px.truth (decide (a < b))) (by show r.length≤_;omega)).mono ?_
  rintro e w2 ⟨rfl,v2,k1,k2⟩;exact ⟨rfl,(k1.a.jn 8 rfl).1,PM.mk' k1 (h2.trans k2)⟩
 have HJ:Hid (∀ W:World,Calls Tryz.prog 100 #[.int .i64 a,.int .i64 b] W fun e w'=>e=.returned (.int .i64 (Px.truth (decide (a < b))))∧w'=W):=fun W=>join8 a b W
 unfold insV;unfold insO at HB HP;clear h hb hc hk hst hs;generalize Px.truth (decide (a < b))=EE at *;go_enter Tryz.func144,Tryz.ntmps144
 go_wp2_with fail;refine Calls.mono (HP.out _ (by first | exact Or.inl rfl | exact Or.inr rfl)) ?_
 rintro e w1 ⟨rfl,d1,H1⟩;go_wp2_with fail;go_region_held (fun w'=>w'.cell? ⟨x.J 8,0,none⟩=some (.func (.func 100) #[] #[])) (go_keep)
  (first | (go_at_call 92;refine Calls.mono (HP2.out _ _ H1.out (by first | exact Tch.refl _ _ | exact (Tch.refl _ _).drew)) ?_;rintro e w2 ⟨rfl,d2,H2⟩) | (go_at_call 100;refine Calls.mono (HJ.out _) ?_;rintro e w3 ⟨rfl,rfl⟩) | (go_at_call 89;refine Calls.mono (HU.out _ H2.out) ?_;rintro e w4 ⟨rfl,d4,H4⟩))
 all_goals
  go_wp2_with fail;go_ret;exact DoPost.ok HD.out H4.out
theorem do9 {x:Cx} (hj:JOK x) (m:Px.Ms) (w:World) (f:Nat→Value) (va:Value) (h:MK x m w f va) (i:Px.Ins) (hb:Bd x.P m) (hc:Px.CanM x.P i m) (hk:i.k=9) :
  Calls Tryz.prog 144 #[.pointer (some ⟨x.g,0,none⟩),insV i,.pointer (some ⟨x.J 9,0,none⟩)] w (DoPost x i m w f va):=by
 have HB:=h.boxed hj (insO i);have hst:=hc.st;rw[show Px.qbf i.k=2 by rw[hk];rfl] at hst
 obtain ⟨b,a,r,hst⟩:=qh1 hst;have hs:=hb.s;rw[hst,List.length_cons,List.length_cons] at hs;have HD:Hid (Px.doM x.P i m=(0,{ m with st:=Px.truth (decide (a=b))::r })):=by unfold Hid Px.doM;rw[if_neg (by omega),if_neg (by omega),if_neg (by omega),if_neg (by omega),if_neg (by omega),if_pos (by omega)];simp only[hst,hk];rfl
 have HP:Hid (∀ W,(W=w.alloc (insO i)∨W=(w.alloc (insO i)).drew)→Calls Tryz.prog 92 #[.pointer (some ⟨x.g,0,none⟩)] W fun e w1=>e=.returned (.int .i64 b)∧w1.cell? ⟨x.J 9,0,none⟩=some (.func (.func 102) #[] #[])∧Hid (∃ f1,MK x { m with st:=a::r } w1 f1 va∧Fr x w f va w1 f1 va)):=fun W hW=>by
  obtain ⟨j1,j2⟩:=HB.out W hW;refine (qcq hj m W f va j1 b (a::r) hst (by simp;omega)).mono ?_
  rintro e w1 ⟨rfl,v1,k1,k2⟩;exact ⟨rfl,(k1.a.jn 9 rfl).1,_,k1,j2.trans k2⟩
 have HP2:Hid (∀ w1 W,(∃ f1,MK x { m with st:=a::r } w1 f1 va∧Fr x w f va w1 f1 va)→Tch (fun _=>False) w1 W→Calls Tryz.prog 92 #[.pointer (some ⟨x.g,0,none⟩)] W fun e w2=>e=.returned (.int .i64 a)∧w2.cell? ⟨x.J 9,0,none⟩=some (.func (.func 102) #[] #[])∧Hid (∃ f1,MK x { m with st:=r } w2 f1 va∧Fr x w f va w2 f1 va)):=fun w1 W ⟨f1,h1,h2⟩ hT=>by
  obtain ⟨j1,j2⟩:=h1.same hj hT;refine (qcq hj { m with st:=a::r } W f1 va j1 a r rfl (by omega)).mono ?_
  rintro e w2 ⟨rfl,v1,k1,k2⟩;exact ⟨rfl,(k1.a.jn 9 rfl).1,_,k1,h2.trans (j2.trans k2)⟩
 have HU:Hid (∀ w1,(∃ f1,MK x { m with st:=r } w1 f1 va∧Fr x w f va w1 f1 va)→Calls Tryz.prog 89 #[.pointer (some ⟨x.g,0,none⟩),.int .i64 (Px.truth (decide (a=b)))] w1 fun e w2=>e=.returned (.tuple #[])∧w2.cell? ⟨x.J 9,0,none⟩=some (.func (.func 102) #[] #[])∧Hid (PM x { m with st:=Px.truth (decide (a=b))::r } w f va w2)):=fun w1 ⟨f1,h1,h2⟩=>by
  refine (qem hj { m with st:=r } w1 f1 va h1 (Px.truth (decide (a=b))) (by show r.length≤_;omega)).mono ?_
  rintro e w2 ⟨rfl,v2,k1,k2⟩;exact ⟨rfl,(k1.a.jn 9 rfl).1,PM.mk' k1 (h2.trans k2)⟩
 have HJ:Hid (∀ W:World,Calls Tryz.prog 102 #[.int .i64 a,.int .i64 b] W fun e w'=>e=.returned (.int .i64 (Px.truth (decide (a=b))))∧w'=W):=fun W=>join9 a b W
 unfold insV;unfold insO at HB HP;clear h hb hc hk hst hs;generalize Px.truth (decide (a=b))=EE at *;go_enter Tryz.func144,Tryz.ntmps144
 go_wp2_with fail;refine Calls.mono (HP.out _ (by first | exact Or.inl rfl | exact Or.inr rfl)) ?_
 rintro e w1 ⟨rfl,d1,H1⟩;go_wp2_with fail;go_region_held (fun w'=>w'.cell? ⟨x.J 9,0,none⟩=some (.func (.func 102) #[] #[])) (go_keep)
  (first | (go_at_call 92;refine Calls.mono (HP2.out _ _ H1.out (by first | exact Tch.refl _ _ | exact (Tch.refl _ _).drew)) ?_;rintro e w2 ⟨rfl,d2,H2⟩) | (go_at_call 102;refine Calls.mono (HJ.out _) ?_;rintro e w3 ⟨rfl,rfl⟩) | (go_at_call 89;refine Calls.mono (HU.out _ H2.out) ?_;rintro e w4 ⟨rfl,d4,H4⟩))
 all_goals
  go_wp2_with fail;go_ret;exact DoPost.ok HD.out H4.out
theorem do10 {x:Cx} (hj:JOK x) (m:Px.Ms) (w:World) (f:Nat→Value) (va:Value) (h:MK x m w f va) (i:Px.Ins) (hb:Bd x.P m) (hc:Px.CanM x.P i m) (hk:i.k=10) :
  Calls Tryz.prog 144 #[.pointer (some ⟨x.g,0,none⟩),insV i,.pointer (some ⟨x.J 10,0,none⟩)] w (DoPost x i m w f va):=by
 have HB:=h.boxed hj (insO i);have hst:=hc.st;rw[show Px.qbf i.k=2 by rw[hk];rfl] at hst
 obtain ⟨b,a,r,hst⟩:=qh1 hst;have hs:=hb.s;rw[hst,List.length_cons,List.length_cons] at hs;have HD:Hid (Px.doM x.P i m=(0,{ m with st:=Px.truth (decide (a≠b))::r })):=by unfold Hid Px.doM;rw[if_neg (by omega),if_neg (by omega),if_neg (by omega),if_neg (by omega),if_neg (by omega),if_pos (by omega)];simp only[hst,hk];rfl
 have HP:Hid (∀ W,(W=w.alloc (insO i)∨W=(w.alloc (insO i)).drew)→Calls Tryz.prog 92 #[.pointer (some ⟨x.g,0,none⟩)] W fun e w1=>e=.returned (.int .i64 b)∧w1.cell? ⟨x.J 10,0,none⟩=some (.func (.func 103) #[] #[])∧Hid (∃ f1,MK x { m with st:=a::r } w1 f1 va∧Fr x w f va w1 f1 va)):=fun W hW=>by
  obtain ⟨j1,j2⟩:=HB.out W hW;refine (qcq hj m W f va j1 b (a::r) hst (by simp;omega)).mono ?_
  rintro e w1 ⟨rfl,v1,k1,k2⟩;exact ⟨rfl,(k1.a.jn 10 rfl).1,_,k1,j2.trans k2⟩
 have HP2:Hid (∀ w1 W,(∃ f1,MK x { m with st:=a::r } w1 f1 va∧Fr x w f va w1 f1 va)→Tch (fun _=>False) w1 W→Calls Tryz.prog 92 #[.pointer (some ⟨x.g,0,none⟩)] W fun e w2=>e=.returned (.int .i64 a)∧w2.cell? ⟨x.J 10,0,none⟩=some (.func (.func 103) #[] #[])∧Hid (∃ f1,MK x { m with st:=r } w2 f1 va∧Fr x w f va w2 f1 va)):=fun w1 W ⟨f1,h1,h2⟩ hT=>by
  obtain ⟨j1,j2⟩:=h1.same hj hT;refine (qcq hj { m with st:=a::r } W f1 va j1 a r rfl (by omega)).mono ?_
  rintro e w2 ⟨rfl,v1,k1,k2⟩;exact ⟨rfl,(k1.a.jn 10 rfl).1,_,k1,h2.trans (j2.trans k2)⟩
 have HU:Hid (∀ w1,(∃ f1,MK x { m with st:=r } w1 f1 va∧Fr x w f va w1 f1 va)→Calls Tryz.prog 89 #[.pointer (some ⟨x.g,0,none⟩),.int .i64 (Px.truth (decide (a≠b)))] w1 fun e w2=>e=.returned (.tuple #[])∧w2.cell? ⟨x.J 10,0,none⟩=some (.func (.func 103) #[] #[])∧Hid (PM x { m with st:=Px.truth (decide (a≠b))::r } w f va w2)):=fun w1 ⟨f1,h1,h2⟩=>by
  refine (qem hj { m with st:=r } w1 f1 va h1 (Px.truth (decide (a≠b))) (by show r.length≤_;omega)).mono ?_
  rintro e w2 ⟨rfl,v2,k1,k2⟩;exact ⟨rfl,(k1.a.jn 10 rfl).1,PM.mk' k1 (h2.trans k2)⟩
 have HJ:Hid (∀ W:World,Calls Tryz.prog 103 #[.int .i64 a,.int .i64 b] W fun e w'=>e=.returned (.int .i64 (Px.truth (decide (a≠b))))∧w'=W):=fun W=>zw9 a b W
 unfold insV;unfold insO at HB HP;clear h hb hc hk hst hs;generalize Px.truth (decide (a≠b))=EE at *;go_enter Tryz.func144,Tryz.ntmps144
 go_wp2_with fail;refine Calls.mono (HP.out _ (by first | exact Or.inl rfl | exact Or.inr rfl)) ?_
 rintro e w1 ⟨rfl,d1,H1⟩;go_wp2_with fail;go_region_held (fun w'=>w'.cell? ⟨x.J 10,0,none⟩=some (.func (.func 103) #[] #[])) (go_keep)
  (first | (go_at_call 92;refine Calls.mono (HP2.out _ _ H1.out (by first | exact Tch.refl _ _ | exact (Tch.refl _ _).drew)) ?_;rintro e w2 ⟨rfl,d2,H2⟩) | (go_at_call 103;refine Calls.mono (HJ.out _) ?_;rintro e w3 ⟨rfl,rfl⟩) | (go_at_call 89;refine Calls.mono (HU.out _ H2.out) ?_;rintro e w4 ⟨rfl,d4,H4⟩))
 all_goals
  go_wp2_with fail;go_ret;exact DoPost.ok HD.out H4.out
open Go.RowKit
theorem zwv (b:Addr) (w:World):(binOp BinOp.eql 55 .nilIface (.iface 359 (.pointer (some b)))).run Tryz.prog w=.ok (.bool false) w:=by kernel_rfl
theorem zt1 (b:Addr) (w:World) :
  Calls Tryz.prog 40 #[.nilIface,.iface 359 (.pointer (some b))] w fun e w'=>e=.returned (.bool false)∧w'=w:=by
 have hn:=zwv b;go_enter Tryz.func40,Tryz.ntmps40
 go_wp2;go_ret;exact ⟨rfl,rfl⟩
theorem qdc {x:Cx} {w:World} (h:Ge x w) (e i:Nat) (he:e≤4) (hi:1≤i∧i≤4) :
  Calls Tryz.prog 40 #[errV x e,.iface 359 (.pointer (some (x.E i)))] w fun r w'=>r=.returned (.bool (decide (e=i)))∧w'=w:=by
 unfold errV;by_cases hz:e=0
 ·rw[if_pos hz,show decide (e=i)=false from decide_eq_false (by omega)]
  exact zt1 _ w
 ·rw[if_neg hz];by_cases hei:e=i
  ·subst hei;rw[show decide (e=e)=true from decide_eq_true rfl];exact Lg.zh4 _ w
  ·rw[show decide (e=i)=false from decide_eq_false hei];obtain ⟨_,_,c1,t1,b1⟩:=h.b e (by omega) he
   obtain ⟨_,_,c2,t2,b2⟩:=h.b i hi.1 hi.2;exact Lg.zn1 _ _ c1 c2 t1 t2 w (h.ne e i (by omega) he hi.1 hi.2 hei) b1 b2
def qiu (e:Nat) (m:Px.Ms):Px.Ms:=if e=4 then { m with fin:=3 } else if e=1 then { m with qak:=true } else m
theorem zda {x:Cx} (hj:JOK x) (m:Px.Ms) (w:World) (f:Nat→Value) (va:Value) (h:MK x m w f va) (e:Nat) (he:1≤e∧e≤4) :
  Calls Tryz.prog 123 #[.pointer (some ⟨x.g,0,none⟩),errV x e] w fun r w'=>r=.returned (.bool (decide (e≠2)))∧PM x (qiu e m) w f va w':=by
 have v1:=h.e.v1;have v2:=h.e.v2;have v4:=h.e.v4;have H:Hid (MK x m w f va):=h;have hG:21≤x.g:=Nat.le_trans h.e.lo h.a.hB;clear h;have hc:e=1∨e=2∨e=3∨e=4:=by omega
 rcases hc with rfl | rfl | rfl | rfl
 ·have c88:=H.out.a.blk.cell 88 (by decide)
  have cf:=H.out.a.blk.fr 88;have HK:Hid (MK x { m with qak:=true } (w.setCell ⟨x.g,88,none⟩ (.bool true)) (upd f 88 (.bool true)) va∧Fr x w f va (w.setCell ⟨x.g,88,none⟩ (.bool true)) (upd f 88 (.bool true)) va):=H.out.qml hj true
  have w2:=HK.out.1.e.v2;go_enter Tryz.func123,Tryz.ntmps123
  go_wp2_with fail;refine (qdc H.out.e 1 4 (by omega) (by omega)).mono ?_
  rintro r w' ⟨rfl,rfl⟩;go_wp2_with fail;refine (qdc H.out.e 1 1 (by omega) (by omega)).mono ?_
  rintro r w' ⟨rfl,rfl⟩;go_wp2_with fail;refine (qdc HK.out.1.e 1 2 (by omega) (by omega)).mono ?_
  rintro r w' ⟨rfl,rfl⟩;go_wp2_with fail;go_ret;exact ⟨rfl,PM.mk' HK.out.1 HK.out.2⟩
 ·go_enter Tryz.func123,Tryz.ntmps123
  go_wp2_with fail;refine (qdc H.out.e 2 4 (by omega) (by omega)).mono ?_
  rintro r w' ⟨rfl,rfl⟩;go_wp2_with fail;refine (qdc H.out.e 2 1 (by omega) (by omega)).mono ?_
  rintro r w' ⟨rfl,rfl⟩;go_wp2_with fail;refine (qdc H.out.e 2 2 (by omega) (by omega)).mono ?_
  rintro r w' ⟨rfl,rfl⟩;go_wp2_with fail;go_ret;exact ⟨rfl,PM.mk' H.out (Fr.refl _ _ _ _)⟩
 ·go_enter Tryz.func123,Tryz.ntmps123
  go_wp2_with fail;refine (qdc H.out.e 3 4 (by omega) (by omega)).mono ?_
  rintro r w' ⟨rfl,rfl⟩;go_wp2_with fail;refine (qdc H.out.e 3 1 (by omega) (by omega)).mono ?_
  rintro r w' ⟨rfl,rfl⟩;go_wp2_with fail;refine (qdc H.out.e 3 2 (by omega) (by omega)).mono ?_
  rintro r w' ⟨rfl,rfl⟩;go_wp2_with fail;go_ret;exact ⟨rfl,PM.mk' H.out (Fr.refl _ _ _ _)⟩
 ·have c89:=H.out.a.blk.cell 89 (by decide)
  have cf:=H.out.a.blk.fr 89;have HK:Hid (MK x { m with fin:=3 } (w.setCell ⟨x.g,89,none⟩ (.int .i64 3)) (upd f 89 (.int .i64 3)) va∧Fr x w f va (w.setCell ⟨x.g,89,none⟩ (.int .i64 3)) (upd f 89 (.int .i64 3)) va):=H.out.zf1 hj 3
  have w2:=HK.out.1.e.v2;go_enter Tryz.func123,Tryz.ntmps123
  go_wp2_with fail;refine (qdc H.out.e 4 4 (by omega) (by omega)).mono ?_
  rintro r w' ⟨rfl,rfl⟩;go_wp2_with fail;refine (qdc HK.out.1.e 4 2 (by omega) (by omega)).mono ?_
  rintro r w' ⟨rfl,rfl⟩;go_wp2_with fail;go_ret;exact ⟨rfl,PM.mk' HK.out.1 HK.out.2⟩
open Go.RowKit
theorem qkl {P:Px.Pg} {m:Px.Ms} (h:qh6 m=(.agg #[.int .i64 0,.int .i64 0],false)):Px.qa2 P m=Px.qa2.behind m:=by
 unfold Px.qa2;unfold qh6 at h;cases hu:m.undos with
 | nil=>rfl
 | cons u r =>
  rw[hu] at h;simp only at h ⊢;split at h
  ·rename_i he;rw[if_pos he]
  ·exact absurd (congrArg Prod.snd h) (by show ¬ true=false;decide)
theorem qky (m:Px.Ms):(Px.qa2.behind m).1=0:=by
 unfold Px.qa2.behind;split<;>rfl
theorem qpm (m:Px.Ms):qh6 m=(.agg #[.int .i64 0,.int .i64 0],false)∨∃ u r,m.undos=u::r∧¬ m.undos.length=Px.qbw m∧qh6 m=(.agg #[.int .i64 (u.1:Int),.int .i64 u.2],true):=by
 unfold qh6;cases hu:m.undos with
 | nil=>exact Or.inl rfl
 | cons u r =>
  simp only;by_cases he:(u::r).length=Px.qbw m
  ·rw[if_pos he];exact Or.inl rfl
  ·rw[if_neg he];exact Or.inr ⟨u,r,rfl,he,rfl⟩
theorem qu0 {x:Cx} (hj:JOK x) (hask:qnr x) (m:Px.Ms) (w:World) (f:Nat→Value) (va:Value) (h:MK x m w f va) (hl:m.st.length≤10000000) (hb:m.begun.length≤10000000) (hu:m.undos.length≤10000000) (hfl:Px.qbw m≤m.undos.length) (hh:∀ b r,m.begun=b::r→b.2.1≤m.st.length) (hru:∀ u∈m.undos,Px.R64 u.2∧u.1 < x.P.words.length) (hrl:∀ v∈m.left,Px.R64 v) (ht:m.tried < 65536) (ha:m.asks.length≤10000000) (hww:x.P.words.length≤10000000) :
  Calls Tryz.prog 154 #[.pointer (some ⟨x.g,0,none⟩)] w fun e w'=>e=.returned (errV x (Px.qa2 x.P m).1)∧PM x (Px.qa2 x.P m).2 w f va w':=by
 have HN:Hid (Calls Tryz.prog 195 #[.pointer (some ⟨x.g,1,none⟩)] w fun e w'=>e=.returned (.tuple #[(qh6 m).1,.bool (qh6 m).2])∧Tch (fun _=>False) w w'):=zmt hj m w f va h hb hu hfl
 have HH:Hid (MK x m w f va):=h;clear h;rcases qpm m with hn | ⟨u,r,hur,hne,hn⟩
 ·rw[hn] at HN;rw[qkl hn,qky];have HG:Hid (∀ w1,Tch (fun _=>False) w w1→Calls Tryz.prog 196 #[.pointer (some ⟨x.g,0,none⟩)] w1 fun e w'=>e=.returned (.tuple #[])∧Hid (PM x (Px.qa2.behind m).2 w f va w')):=fun w1 hT=>by
   obtain ⟨j1,j2⟩:=HH.out.same hj hT;refine (qwc hj m w1 f va j1 hl hb hh).mono ?_;rintro e w2 ⟨rfl,f2,va2,k1,k2⟩;exact ⟨rfl,PM.mk' k1 (j2.trans k2)⟩
  clear hn hask hl hb hu hfl hh hru hrl ht ha hww HH;go_enter Tryz.func154,Tryz.ntmps154
  go_wp2_with fail;refine Calls.mono HN.out ?_;rintro e w1 ⟨rfl,hT⟩;have HT:Hid (Tch (fun _=>False) w w1):=hT
  clear hT;go_wp2_with fail;refine Calls.mono (HG.out _ (HT.out.alloc _)) ?_;rintro e w2 ⟨rfl,H2⟩;go_wp2_with fail;go_ret;exact ⟨rfl,H2.out⟩
 ·rw[hn] at HN;obtain ⟨hr2,hw2⟩:=hru u (by rw[hur];exact List.mem_cons_self)
  cases hq:Px.askM x.P u.1 u.2 3 true m with
  | mk ea q =>
   obtain ⟨va',ma⟩:=q;obtain ⟨a,l,t,hma,_,_,_,hz0,hea⟩:=Px.qhg hq;have hmu:ma.undos=u::r:=by rw[hma];exact hur
   have HU:Hid (Px.qa2 x.P m=if ea=0 then (0,{ ma with undos:=r }) else if ea=1 then (4,ma) else (ea,ma)):=by
    unfold Hid Px.qa2;simp only[hur];rw[if_neg (by rw[← hur];exact hne),hq]
    match ea with
    | 0=>rfl
    | 1=>rfl
    | n+2=>rw[if_neg (by omega),if_neg (by omega)];rfl
   have HA:Hid (∀ w1,Tch (fun _=>False) w w1→Calls Tryz.prog 145 #[.pointer (some ⟨x.g,0,none⟩),.int .i64 (u.1:Int),.int .i64 u.2,.int .i64 3,.bool true] w1 fun e w2=>e=.returned (.tuple #[.int .i64 va',errV x ea])∧w2.cell? ⟨11,0,none⟩=some (.iface 359 (.pointer (some (x.E 1))))∧w2.cell? ⟨12,0,none⟩=some (.iface 359 (.pointer (some (x.E 4))))∧Hid (∃ f2 va2,MK x ma w2 f2 va2∧Fr x w f va w2 f2 va2)):=fun w1 hT=>by
    obtain ⟨j1,j2⟩:=HH.out.same hj hT;refine Calls.mono (hask m w1 f va j1 u.1 u.2 3 true hw2 hr2 hrl ht (by decide) ha hww) ?_
    rintro e w2 ⟨rfl,f2,va2,k1,k2⟩;rw[hq] at k1 ⊢;exact ⟨rfl,k1.e.v1,k1.e.v4,f2,va2,k1,j2.trans k2⟩
   have hrl':r.length≤10000000:=by rw[hur,List.length_cons] at hu;omega
   clear hn hask hl hb hu hfl hh hru hrl ht ha hww HH hq hne hr2 hw2 hma;by_cases h0:ea=0
   ·rw[HU.out,if_pos h0];subst h0;go_enter Tryz.func154,Tryz.ntmps154
    go_wp2_with fail;refine Calls.mono HN.out ?_;rintro e w1 ⟨rfl,hT⟩;have HT:Hid (Tch (fun _=>False) w w1):=hT
    clear hT;go_wp2_with fail;refine Calls.mono (HA.out _ (HT.out.alloc _)) ?_;rintro e w2 ⟨rfl,g1,g4,H2⟩;go_wp2_with fail;refine (qdc H2.out.choose_spec.choose_spec.1.e 0 1 (by omega) (by omega)).mono ?_
    rintro e w3 ⟨rfl,rfl⟩;simp only[errV,if_true];obtain ⟨f2,va2,H3⟩:∃ f2 va2,Hid (MK x ma w3 f2 va2∧Fr x w f va w3 f2 va2):=H2.out;clear H2;go_wp2_with fail;refine (qxa hj ma w3 f2 va2 H3.out.1 u r hmu hrl').mono ?_;rintro e w4 ⟨rfl,f4,va4,k1,k2⟩;have H4:Hid (PM x { ma with undos:=r } w f va w4):=PM.mk' k1 (H3.out.2.trans k2)
    clear k1 k2;go_wp2_with fail;go_ret;exact ⟨rfl,H4.out⟩
   ·by_cases h1:ea=1
    ·rw[HU.out,if_neg h0,if_pos h1];subst h1;go_enter Tryz.func154,Tryz.ntmps154
     go_wp2_with fail;refine Calls.mono HN.out ?_;rintro e w1 ⟨rfl,hT⟩;have HT:Hid (Tch (fun _=>False) w w1):=hT
     clear hT;go_wp2_with fail;refine Calls.mono (HA.out _ (HT.out.alloc _)) ?_;rintro e w2 ⟨rfl,g1,g4,H2⟩;go_wp2_with fail;refine (qdc H2.out.choose_spec.choose_spec.1.e 1 1 (by omega) (by omega)).mono ?_
     rintro e w3 ⟨rfl,rfl⟩;go_wp2_with fail;go_ret;obtain ⟨f2,va2,k1,k2⟩:=H2.out;exact ⟨rfl,PM.mk' k1 k2⟩
    ·rw[HU.out,if_neg h0,if_neg h1];go_enter Tryz.func154,Tryz.ntmps154
     go_wp2_with fail;refine Calls.mono HN.out ?_;rintro e w1 ⟨rfl,hT⟩;have HT:Hid (Tch (fun _=>False) w w1):=hT
     clear hT;go_wp2_with fail;refine Calls.mono (HA.out _ (HT.out.alloc _)) ?_;rintro e w2 ⟨rfl,g1,g4,H2⟩;go_wp2_with fail;refine (qdc H2.out.choose_spec.choose_spec.1.e ea 1 (by omega) (by omega)).mono ?_
     rintro e w3 ⟨rfl,rfl⟩;simp only[errV,if_neg h0,decide_eq_false h1];go_wp2_with fail;go_ret;obtain ⟨f2,va2,k1,k2⟩:=H2.out;exact ⟨by simp only[errV,if_neg h0];rfl,PM.mk' k1 k2⟩
open Go.RowKit
def argK (x:Cx) (i:Px.Ins):Array Value:=if qit i.k then #[.pointer (some ⟨x.g,0,none⟩),insV i,.pointer (some ⟨x.J i.k,0,none⟩)] else #[.pointer (some ⟨x.g,0,none⟩),insV i]
theorem zi4 {x:Cx} (hj:JOK x) (hask:qnr x) (m:Px.Ms) (w:World) (f:Nat→Value) (va:Value) (h:MK x m w f va) (i:Px.Ins) (hb:Bd x.P m) (hc:Px.CanM x.P i m) :
  Calls Tryz.prog (funK i.k) (argK x i) w (DoPost x i m w f va):=by
 have hk:=hc.k;unfold argK;match hik:i.k,hk with
 | 0,_=>exact do0 hj m w f va h i hb hik
 | 1,_=>exact do1 hj m w f va h i hb hc hik
 | 2,_=>exact do2 hj m w f va h i hb hc hik
 | 3,_=>exact do3 hj m w f va h i hb hc hik
 | 4,_=>exact do4 hj m w f va h i hb hc hik
 | 5,_=>exact do5 hj m w f va h i hb hc hik
 | 6,_=>exact do6 hj m w f va h i hb hc hik
 | 7,_=>exact do7 hj m w f va h i hb hc hik
 | 8,_=>exact do8 hj m w f va h i hb hc hik
 | 9,_=>exact do9 hj m w f va h i hb hc hik
 | 10,_=>exact do10 hj m w f va h i hb hc hik
 | 11,_=>exact do11 hj m w f va h i hb hc hik
 | 12,_=>exact do12 hj m w f va h i hb hc hik
 | 13,_=>exact do13 hj m w f va h i hb hc hik
 | 14,_=>exact do14 hj m w f va h i hb hc hik
 | 15,_=>exact do15 hj m w f va h i hb hc hik
 | 16,_=>exact do16 hj m w f va h i hb hc hik
 | 17,_=>exact do17 hj m w f va h i hb hc hik
 | 18,_=>exact do18 hj hask m w f va h i hb hc hik
 | 19,_=>exact do19 hj m w f va h i hb hc hik
 | n+20,hk=>exact absurd hk (by omega)
theorem ent0 (args:Array Value) (w:World):(callFunc 88 args).run Tryz.prog w=.ok (.enter 88 args) w:=by kernel_rfl
theorem ent1 (args:Array Value) (w:World):(callFunc 90 args).run Tryz.prog w=.ok (.enter 90 args) w:=by kernel_rfl
theorem ent2 (args:Array Value) (w:World):(callFunc 91 args).run Tryz.prog w=.ok (.enter 91 args) w:=by kernel_rfl
theorem ent3 (args:Array Value) (w:World):(callFunc 93 args).run Tryz.prog w=.ok (.enter 93 args) w:=by kernel_rfl
theorem ent7 (args:Array Value) (w:World):(callFunc 98 args).run Tryz.prog w=.ok (.enter 98 args) w:=by kernel_rfl
theorem ent11 (args:Array Value) (w:World):(callFunc 104 args).run Tryz.prog w=.ok (.enter 104 args) w:=by kernel_rfl
theorem ent12 (args:Array Value) (w:World):(callFunc 105 args).run Tryz.prog w=.ok (.enter 105 args) w:=by kernel_rfl
theorem ent13 (args:Array Value) (w:World):(callFunc 106 args).run Tryz.prog w=.ok (.enter 106 args) w:=by kernel_rfl
theorem ent14 (args:Array Value) (w:World):(callFunc 108 args).run Tryz.prog w=.ok (.enter 108 args) w:=by kernel_rfl
theorem ent15 (args:Array Value) (w:World):(callFunc 110 args).run Tryz.prog w=.ok (.enter 110 args) w:=by kernel_rfl
theorem ent16 (args:Array Value) (w:World):(callFunc 113 args).run Tryz.prog w=.ok (.enter 113 args) w:=by kernel_rfl
theorem ent17 (args:Array Value) (w:World):(callFunc 115 args).run Tryz.prog w=.ok (.enter 115 args) w:=by kernel_rfl
theorem ent18 (args:Array Value) (w:World):(callFunc 116 args).run Tryz.prog w=.ok (.enter 116 args) w:=by kernel_rfl
theorem ent19 (args:Array Value) (w:World):(callFunc 118 args).run Tryz.prog w=.ok (.enter 118 args) w:=by kernel_rfl
theorem zdj (k:Nat) (hk:k < 20) (hp:qit k=false) (args:Array Value) (w:World):(callFunc (funK k) args).run Tryz.prog w=.ok (.enter (funK k) args) w:=by
 match k,hk,hp with
 | 0,_,_=>exact ent0 args w
 | 1,_,_=>exact ent1 args w
 | 2,_,_=>exact ent2 args w
 | 3,_,_=>exact ent3 args w
 | 4,_,hp=>cases hp
 | 5,_,hp=>cases hp
 | 6,_,hp=>cases hp
 | 7,_,_=>exact ent7 args w
 | 8,_,hp=>cases hp
 | 9,_,hp=>cases hp
 | 10,_,hp=>cases hp
 | 11,_,_=>exact ent11 args w
 | 12,_,_=>exact ent12 args w
 | 13,_,_=>exact ent13 args w
 | 14,_,_=>exact ent14 args w
 | 15,_,_=>exact ent15 args w
 | 16,_,_=>exact ent16 args w
 | 17,_,_=>exact ent17 args w
 | 18,_,_=>exact ent18 args w
 | 19,_,_=>exact ent19 args w
 | n+20,hk,_=>exact absurd hk (by omega)
theorem zo8 (n0 n1 n2:Nat) (w:World) (h1:w.cell? ⟨n1,0,none⟩=some .nilIface) :
  CallsD Tryz.prog 153 #[.pointer (some ⟨n1,0,none⟩),.pointer (some ⟨n2,0,none⟩),.pointer (some ⟨n0,0,none⟩)] .returning w fun e u' w'=>u'=.returning∧(e=.returned (.tuple #[])∧w'=w):=by
 go_enter_d Tryz.func153,Tryz.ntmps153
 go_wp2;go_end0
 exact ⟨rfl,rfl⟩
theorem zo9 (n0 n1 n2 g p:Nat) (t:TypeId) (v u:Value) (w:World) (h1:w.cell? ⟨n1,0,none⟩=some (.iface t v)) (h0:w.cell? ⟨n0,0,none⟩=some (.pointer (some ⟨g,0,none⟩))) (h2:w.cell? ⟨n2,0,none⟩=some (.int .i64 (p:Int))) (h3:w.cell? ⟨g,86,none⟩=some u) (h4:w.frozen? ⟨g,86,none⟩=false) :
  CallsD Tryz.prog 153 #[.pointer (some ⟨n1,0,none⟩),.pointer (some ⟨n2,0,none⟩),.pointer (some ⟨n0,0,none⟩)] .returning w fun e u' w'=>u'=.returning∧(e=.returned (.tuple #[])∧w'=w.setCell ⟨g,86,none⟩ (.int .i64 (p:Int))):=by
 go_enter_d Tryz.func153,Tryz.ntmps153
 go_wp2;go_end0
 exact ⟨rfl,rfl⟩
open Go.RowKit
def stepW (x:Cx) (p:Nat) (w:World):World:=((w.alloc (.cells #[.pointer (some ⟨x.g,0,none⟩)] 63)).alloc (.cells #[.nilIface] 55)).alloc (.cells #[.int .i64 (p:Int)] 3)
structure StepAt (x:Cx) (p n:Nat) (w:World) (er:Value):Prop where
 c0:w.cell? ⟨n,0,none⟩=some (.pointer (some ⟨x.g,0,none⟩))
 c1:w.cell? ⟨n+1,0,none⟩=some er
 c2:w.cell? ⟨n+2,0,none⟩=some (.int .i64 (p:Int))
 fr:w.frozen? ⟨n+1,0,none⟩=false
theorem qk7 (x:Cx) (p:Nat) (w:World):Tch (fun _=>False) w (stepW x p w)∧(stepW x p w).heap.size=w.heap.size+3∧StepAt x p w.heap.size (stepW x p w) .nilIface:=by
 refine ⟨(((Tch.refl _ _).alloc _).alloc _).alloc _,by show (((w.heap.push _).push _).push _).size=_;simp,?_⟩
 have h0:(stepW x p w).heap[w.heap.size]?=some (.cells #[.pointer (some ⟨x.g,0,none⟩)] 63):=by
  show (((w.heap.push _).push _).push _)[w.heap.size]?=_
  rw[Array.getElem?_push,if_neg (by simp;omega),Array.getElem?_push,if_neg (by simp),Array.getElem?_push,if_pos rfl]
 have h1:(stepW x p w).heap[w.heap.size+1]?=some (.cells #[.nilIface] 55):=by
  show (((w.heap.push _).push _).push _)[w.heap.size+1]?=_
  rw[Array.getElem?_push,if_neg (by simp),Array.getElem?_push,if_pos (by simp)]
 have h2:(stepW x p w).heap[w.heap.size+2]?=some (.cells #[.int .i64 (p:Int)] 3):=by
  show (((w.heap.push _).push _).push _)[w.heap.size+2]?=_
  rw[Array.getElem?_push,if_pos (by simp)]
 exact ⟨by simp[World.cell?,h0],by simp[World.cell?,h1],by simp[World.cell?,h2],by simp[World.frozen?,h1]⟩
theorem StepAt.fr' {x:Cx} {p:Nat} {m:Px.Ms} {w W w2:World} {f f2:Nat→Value} {va va2 er:Value} (h0:MAt x m w f va) (hs:StepAt x p w.heap.size W er) (hF:Fr x W f va w2 f2 va2):StepAt x p w.heap.size w2 er:=by
 have hb:w2.heap[w.heap.size+1]?=W.heap[w.heap.size+1]?:=hF.t.block _ (lt_of_cell hs.c1) (fun hk=>by have:=Own.lt h0 hk;omega)
 exact ⟨Fr.loc h0 (by omega) hF hs.c0,Fr.loc h0 (by omega) hF hs.c1,Fr.loc h0 (by omega) hF hs.c2,(World.frozen?_of_block (w:=W) (a:=⟨w.heap.size+1,0,none⟩) hb).trans hs.fr⟩
theorem step_end {x:Cx} (hj:JOK x) {m m1:Px.Ms} {w w0 w1:World} {f f1:Nat→Value} {va va1:Value} {p e:Nat} (h:MK x m w f va) (hT0:Tch (fun _=>False) w w0) (hn:w0.heap.size=w.heap.size+3) (h1:MK x m1 w1 f1 va1) (hF:Fr x w0 f va w1 f1 va1) (hs:StepAt x p w.heap.size w1 .nilIface) :
  CallsD Tryz.prog 153 #[.pointer (some ⟨w.heap.size+1,0,none⟩),.pointer (some ⟨w.heap.size+2,0,none⟩),.pointer (some ⟨w.heap.size,0,none⟩)] .returning (w1.setCell ⟨w.heap.size+1,0,none⟩ (errV x e)) fun e' u' w'=>u'=.returning∧e'=.returned (.tuple #[])∧w'.cell? ⟨w.heap.size+1,0,none⟩=some (errV x e)∧PM x (if e=0 then m1 else { m1 with place:=p }) w f va w':=by
 obtain ⟨k1,k2⟩:=h.local hj hT0 h1 hF (T:=fun k=>k=w.heap.size+1) (Tch.setCell (T:=fun k=>k=w.heap.size+1) (Tch.refl _ _) (p:=⟨w.heap.size+1,0,none⟩) (Or.inl rfl) (errV x e)) (fun k hk=>by omega)
 have hlt:=h.a.lt;have c0:(w1.setCell ⟨w.heap.size+1,0,none⟩ (errV x e)).cell? ⟨w.heap.size,0,none⟩=some (.pointer (some ⟨x.g,0,none⟩)):=by rw[qb4 (fun e=>by have:=congrArg Addr.block e;simp at this)];exact hs.c0
 have c1:(w1.setCell ⟨w.heap.size+1,0,none⟩ (errV x e)).cell? ⟨w.heap.size+1,0,none⟩=some (errV x e):=ql3 hs.c1;have c2:(w1.setCell ⟨w.heap.size+1,0,none⟩ (errV x e)).cell? ⟨w.heap.size+2,0,none⟩=some (.int .i64 (p:Int)):=by rw[qb4 (fun e=>by have:=congrArg Addr.block e;simp at this)];exact hs.c2
 by_cases he:e=0
 ·subst he;refine (zo8 w.heap.size _ (w.heap.size+2) _ c1).mono ?_;rintro e' u' w' ⟨rfl,rfl,rfl⟩;exact ⟨rfl,rfl,c1,PM.mk' k1 k2⟩
 ·rw[if_neg he];have hev:errV x e=.iface 359 (.pointer (some (x.E e))):=if_neg he;refine (zo9 w.heap.size _ (w.heap.size+2) x.g p _ _ _ _ (by rw[← hev];exact c1) c0 c2 (k1.a.blk.cell 86 (by decide)) (k1.a.blk.fr 86)).mono ?_
  rintro e' u' w' ⟨rfl,rfl,rfl⟩;refine ⟨rfl,rfl,?_,PM.place hj (PM.mk' k1 k2) p⟩;rw[qb4 (fun e=>by have:=congrArg Addr.block e;simp only at this;omega)]
  exact c1
def qd8 (x:Cx) (m:Px.Ms) (w:World) (f:Nat→Value) (va:Value) (e:Ending) (w':World):Prop:=e=.returned (errV x (Px.qa1 x.P m).1)∧PM x (Px.qa1 x.P m).2 w f va w'
theorem qo8 {x:Cx} (hj:JOK x) (m:Px.Ms) (w:World) (f:Nat→Value) (va:Value) (h:MK x m w f va) (hu:m.qak=true) (hP:(Px.qa2 x.P m).1≠0→(Px.qa2 x.P m).2.place=m.place)
  (HU:∀ W,MK x m W f va→Calls Tryz.prog 154 #[.pointer (some ⟨x.g,0,none⟩)] W fun e w'=>e=.returned (errV x (Px.qa2 x.P m).1)∧PM x (Px.qa2 x.P m).2 W f va w') :
  Calls Tryz.prog 122 #[.pointer (some ⟨x.g,0,none⟩)] w (qd8 x m w f va):=by
 have hmf:∀ (fn:Fn) (first cap:Array Value) (w:World),(Instr.makeFunc fn first cap).run Tryz.prog w=.ok (.func fn first cap) w:=fun _ _ _ _=>rfl
 have c86:=h.a.blk.cell 86 (by decide)
 have c88:=h.a.blk.cell 88 (by decide)
 rw[h.a.f86] at c86;rw[h.a.f88,hu] at c88;have hgz:=h.a.lt;have es:Px.qa1 x.P m=Px.qa2 x.P m:=by unfold Px.qa1;rw[if_pos hu]
 obtain ⟨hT,hn,hs⟩:=qk7 x m.place w;have HX:Hid (Calls Tryz.prog 154 #[.pointer (some ⟨x.g,0,none⟩)] (stepW x m.place w) fun e w1=>e=.returned (errV x (Px.qa2 x.P m).1)∧w1.cell? ⟨w.heap.size+1,0,none⟩=some .nilIface∧w1.frozen? ⟨w.heap.size+1,0,none⟩=false∧Hid (∃ f1 va1,MK x (Px.qa2 x.P m).2 w1 f1 va1∧Fr x (stepW x m.place w) f va w1 f1 va1∧StepAt x m.place w.heap.size w1 .nilIface)):=by
  obtain ⟨j1,j2⟩:=h.same hj hT;refine (HU _ j1).mono ?_;rintro e w1 ⟨rfl,f1,va1,k1,k2⟩
  have:=hs.fr' h.a k2
  exact ⟨rfl,this.c1,this.fr,f1,va1,k1,k2,this⟩
 have HH:Hid (MK x m w f va∧Tch (fun _=>False) w (stepW x m.place w)∧(stepW x m.place w).heap.size=w.heap.size+3):=⟨h,hT,hn⟩
 have e88:=(h.same hj hT).1.a.blk.cell 88 (by decide)
 rw[h.a.f88,hu] at e88;unfold stepW at HX e88;clear h hT hn hs HU;obtain ⟨E,hE⟩:∃ E,(Px.qa2 x.P m).1=E:=⟨_,rfl⟩;obtain ⟨M,hM⟩:∃ M,(Px.qa2 x.P m).2=M:=⟨_,rfl⟩;rw[hE,hM] at HX;rw[hE,hM] at hP;go_enter_defers Tryz.func122,Tryz.ntmps122
 go_wp2_with fail;refine Calls.mono HX.out ?_;rintro e w1 ⟨rfl,d1,df,H1⟩;have HE:Hid (∀ w',PM x (if E=0 then M else { M with place:=m.place }) w f va w'→qd8 x m w f va (.returned (errV x E)) w'):=by
  intro w' hp;unfold qd8;rw[es];refine ⟨by rw[hE],?_⟩
  rw[hM];by_cases h0:E=0
  ·rw[if_pos h0] at hp;exact hp
  ·rw[if_neg h0,← hP h0] at hp;exact hp
 by_cases h0:E=0
 ·have hev:errV x E=.nilIface:=if_pos h0;rw[hev] at HE ⊢;go_wp2_with fail;refine leaves_cons (f:=153) (args:=#[.pointer (some ⟨w.heap.size+1,0,none⟩),.pointer (some ⟨w.heap.size+1+1,0,none⟩),.pointer (some ⟨w.heap.size,0,none⟩)]) (by simp) (by simp[go_sem]) ?_
  obtain ⟨f1,va1,k1,k2,k3⟩:=H1.out;have Q:=step_end (e:=E) hj HH.out.1 HH.out.2.1 HH.out.2.2 k1 k2 k3;rw[hev] at Q;refine Q.mono ?_;clear Q;rintro e' u' w' ⟨rfl,rfl,hc,hp⟩;simp[Leaves,settle,results,Tryz.results122,go_sem,hc];exact HE.out _ hp
 ·have hev:errV x E=.iface 359 (.pointer (some (x.E E))):=if_neg h0;rw[hev] at HE ⊢;go_wp2_with fail;refine leaves_cons (f:=153) (args:=#[.pointer (some ⟨w.heap.size+1,0,none⟩),.pointer (some ⟨w.heap.size+1+1,0,none⟩),.pointer (some ⟨w.heap.size,0,none⟩)]) (by simp) (by simp[go_sem]) ?_
  obtain ⟨f1,va1,k1,k2,k3⟩:=H1.out;have Q:=step_end (e:=E) hj HH.out.1 HH.out.2.1 HH.out.2.2 k1 k2 k3;rw[hev] at Q;refine Q.mono ?_;clear Q;rintro e' u' w' ⟨rfl,rfl,hc,hp⟩;simp[Leaves,settle,results,Tryz.results122,go_sem,hc];exact HE.out _ hp
open Go.RowKit
theorem PgS.read {x:Cx} {w:World} (h:PgS x w):∃ a c,w.cell? ⟨x.pp,3,none⟩=some (.slice a x.P.ins.length c)∧∀ p i,x.P.ins[p]?=some i→∃ q,a=some ⟨q,0,none⟩∧w.cell? ⟨q,p * 3,none⟩=some (.int .i64 (i.k:Int))∧w.cell? ⟨q,p * 3+1,none⟩=some (.int .i64 (i.a:Int))∧w.cell? ⟨q,p * 3+2,none⟩=some (.int .i64 (i.b:Int)):=by
 obtain ⟨vl,vw,vn,lo,p1,p2,p3,p4,p5,p6,p7⟩:=h.ex;obtain ⟨a,n,c,rfl⟩:=Ref.qad p4;obtain rfl:=qi4 p4;refine ⟨a,c,by simp[World.cell?,p1],fun p i hi=>?_⟩
 obtain ⟨hp,hpi⟩:=List.getElem?_eq_some_iff.1 hi;obtain ⟨q,c',e⟩:=qlf p4 (by omega)
 cases e;refine ⟨q,rfl,?_⟩;have key:∀ (l:List Px.Ins) (p:Nat) (hp:p < l.length) (o:Nat),o < 3→(Mk.qby l)[p * 3+o]?=([.int .i64 (l[p].k:Int),.int .i64 (l[p].a:Int),.int .i64 (l[p].b:Int)]:List Value)[o]?:=by
  intro l;induction l with
  | nil=>intro p hp;simp at hp
  | cons v l ih =>
   intro p hp o ho;have e1:Mk.qby (v::l)=[.int .i64 (v.k:Int),.int .i64 (v.a:Int),.int .i64 (v.b:Int)]++Mk.qby l:=rfl;cases p with
   | zero =>
    rw[e1,Nat.zero_mul,Nat.zero_add,List.getElem?_append_left (by simpa using ho)]
    rfl
   | succ p =>
    rw[e1,List.getElem?_append_right (by simp;omega)]
    have:=ih p (by simpa using hp) o ho
    simp only[List.length_cons,List.length_nil,List.getElem_cons_succ];rw[← this];congr 1;omega
 have k0:=key x.P.ins p hp 0 (by decide)
 have k1:=key x.P.ins p hp 1 (by decide)
 have k2:=key x.P.ins p hp 2 (by decide)
 rw[hpi] at k0 k1 k2;exact ⟨by rw[p4.cellAt _ (by omega)];exact k0,by rw[p4.cellAt _ (by omega)];exact k1,by rw[p4.cellAt _ (by omega)];exact k2⟩
theorem ze9 {x:Cx} (hj:JOK x) (m:Px.Ms) (w:World) (f:Nat→Value) (va:Value) (h:MK x m w f va) (hu:m.qak=false) (hp:m.place=x.P.ins.length) (_hl:x.P.ins.length≤10000000) :
  Calls Tryz.prog 122 #[.pointer (some ⟨x.g,0,none⟩)] w (qd8 x m w f va):=by
 have hmf:∀ (fn:Fn) (first cap:Array Value) (w:World),(Instr.makeFunc fn first cap).run Tryz.prog w=.ok (.func fn first cap) w:=fun _ _ _ _=>rfl
 have c86:=h.a.blk.cell 86 (by decide)
 rw[h.a.f86] at c86;have hgz:=h.a.lt;have es:Px.qa1 x.P m=(0,{ m with fin:=1 }):=by unfold Px.qa1;rw[hu];simp only[hp];simp
 obtain ⟨hT,hn,hs⟩:=qk7 x m.place w;obtain ⟨j1,j2⟩:=h.same hj hT;have e88:=j1.a.blk.cell 88 (by decide)
 rw[h.a.f88,hu] at e88;have e86:=j1.a.blk.cell 86 (by decide)
 rw[h.a.f86] at e86;have hq:((m.place:Int) == (x.P.ins.length:Int))=true:=by rw[hp];simp
 have e4:=j1.a.blk.cell 4 (by decide)
 rw[h.a.f4] at e4;obtain ⟨a,c,ep,_⟩:=j1.p.read;have e89:=j1.a.blk.cell 89 (by decide)
 have f89:=j1.a.blk.fr 89;have e0:=hs.c0;have e1:=hs.c1;have e1f:=hs.fr;have HX:Hid (∀ W,(W=stepW x m.place w∨W=(stepW x m.place w).drew)→∃ f1,MK x { m with fin:=1 } (W.setCell ⟨x.g,89,none⟩ (.int .i64 1)) f1 va∧Fr x (stepW x m.place w) f va (W.setCell ⟨x.g,89,none⟩ (.int .i64 1)) f1 va∧StepAt x m.place w.heap.size (W.setCell ⟨x.g,89,none⟩ (.int .i64 1)) .nilIface):=by
  intro W hW;have hTW:Tch (fun _=>False) (stepW x m.place w) W:=by
   rcases hW with rfl | rfl
   ·exact Tch.refl _ _
   ·exact (Tch.refl _ _).drew
  obtain ⟨i1,i2⟩:=j1.same hj hTW;obtain ⟨k1,k2⟩:=i1.zf1 hj 1;exact ⟨_,k1,i2.trans k2,hs.fr' h.a (i2.trans k2)⟩
 have HH:Hid (MK x m w f va∧Tch (fun _=>False) w (stepW x m.place w)∧(stepW x m.place w).heap.size=w.heap.size+3):=⟨h,hT,hn⟩
 have hW:stepW x m.place w=((w.alloc (.cells #[.pointer (some ⟨x.g,0,none⟩)] 63)).alloc (.cells #[.nilIface] 55)).alloc (.cells #[.int .i64 (m.place:Int)] 3):=rfl;rw[hW] at e88;have HE:Hid (∀ w',PM x { m with fin:=1 } w f va w'→qd8 x m w f va (.returned .nilIface) w'):=by
  intro w' hp;unfold qd8;rw[es];exact ⟨rfl,hp⟩
 clear h hT hn hs j1 j2 hW hp es hu;go_enter_defers Tryz.func122,Tryz.ntmps122
 go_wp2_with fail
 change Code.wp _ _ _ _ (stepW x m.place w)
 generalize stepW x m.place w=W at *;clear e88 c86;go_region
 all_goals
  go_wp2_with fail;refine leaves_cons (f:=153) (args:=#[.pointer (some ⟨w.heap.size+1,0,none⟩),.pointer (some ⟨w.heap.size+1+1,0,none⟩),.pointer (some ⟨w.heap.size,0,none⟩)]) (by simp) (by simp[go_sem]) ?_
  obtain ⟨f1,k1,k2,k3⟩:=HX.out W.drew (Or.inr rfl);have Q:=step_end (e:=0) hj HH.out.1 HH.out.2.1 HH.out.2.2 k1 k2 k3;rw[show errV x 0=.nilIface from rfl] at Q;refine CallsD.mono Q ?_;clear Q;rintro e' u' w' ⟨rfl,rfl,hc,hp⟩;simp[Leaves,settle,results,Tryz.results122,go_sem,hc];exact HE.out _ hp
end Rn
end Go.Proofs.YtagpnplggopoeaaGreatDoor
