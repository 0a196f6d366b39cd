import Derived.Test.YtgkhgealpneodaaGreatDoorG38
set_option maxRecDepth 100000
set_option maxHeartbeats 4000000
namespace Go.Proofs.YtgkhgealpneodaaGreatDoor
open Go.RowKit
namespace Rn
open Px
def rV(a:List iL)(wd:dX)(ar tr:Int)(un:Bool):Prop:=∀x,a.getLast?=some x->wd=x.eH/\ar=x.arg/\tr=(x.nth:Int)/\un=x.undo
abbrev fO(C:dX)(y:Int):Obj:=.cells #[.string Gf.jN,.string C,eF y] 161
def Kq(o0 B jl b fb:Nat)(l:List Int)(a:List iL)(va:dZ)(w:dY):Prop :=∃(C:dX)(y:Int)(vs:dZ)(wd:dX)(ar tr:Int)(un:Bool),w.heap[jl]?=some (Jn.jJ b (C.size:Int) vs wd ar tr un)/\w.heap[fb]?=some (fO C y)/\rV a wd ar tr un/\rU w o0 B vs l va
theorem Kq.keep{o0 B jl b fb:Nat}(hjl:jl<B)(UG:fb<B){l:List Int}{a:List iL}{va:dZ}{w w':dY}{T:Nat->Prop}(h:Kq o0 B jl b fb l a va w)(hT:fE T w w')(h1:∀k,T k->B<=k)(h2:∀k,va.ownBlock=some k->¬T k):Kq o0 B jl b fb l a va w':=by
 obtain⟨C,y,vs,wd,ar,tr,un,hb,hf,hs,ha⟩:=h;refine⟨C,y,vs,wd,ar,tr,un,(hT.block jl (lt_of_block hb) fun hk=>by have:=h1 _ hk;omega).trans hb,(hT.block fb (lt_of_block hf) fun hk=>by have:=h1 _ hk;omega).trans hf,hs,ha.keep fun g cur hg hv=>hT.block g (lt_of_block hg) fun hk=>?_⟩;obtain⟨_,hv⟩|hv:=hv;·have:=h1 _ hk;omega
 exact h2 g hv hk
theorem oA(a:List iL)(k:iL):rV (a++[k]) k.eH k.arg (k.nth:Int) k.undo:=by intro x hx;rw[List.getLast?_concat]at hx;cases hx;exact⟨rfl,rfl,rfl,rfl⟩
variable{W w:dY}{B b fb jl o0:Nat}{oB oE y:Int}{va vs:dZ}{C oR:dX}
theorem oS{sz ar tr:Int}{wd:dX}{un:Bool}(hb:w.heap[jl]?=some (Jn.jJ b sz vs wd ar tr un))(hf:w.heap[fb]?=some (fO C y)):jl≠fb:=by rintro rfl;rw[hb]at hf;unfold Jn.jJ at hf;cases hf
variable{a:List iL}{ask:iL}{oT:Bool}
theorem yip(h0:w.heap[jl]?=some (Jn.jJ b (C.size:Int) vs oR oB oE oT)/\w.heap[fb]?=some (fO C y))(hA:rU w o0 B vs [] va)(hb:W.heap[jl]?=some (Jn.jJ b (C.size:Int) vs ask.eH ask.arg (ask.nth:Int) ask.undo)/\fE (·=jl) w W):OJ (Kq o0 B jl b fb) jl [] a va ask w (fM (.tuple #[eF 0,.bool false])) W:=⟨rfl,va,⟨C,y,vs,_,_,_,_,hb.1,(hb.2.block fb (lt_of_block h0.2) fun e=>oS h0.1 h0.2 e.symm).trans h0.2,oA a ask,hA.keep fun g _ hg _=>hb.2.block g (lt_of_block hg) fun e=>F6 h0.1 hg e.symm⟩,hb.2.mono fun _ _ hk=>ak hk,ak rfl⟩
theorem yio{v:Int}{r:List Int}{g o c:Nat}{cur:Array dZ}{wW:dZ}(h0:w.heap[jl]?=some (Jn.jJ b (C.size:Int) wW oR oB oE oT)/\w.heap[fb]?=some (fO C y))(hg:w.heap[g]?=some (.cells cur 3 (0,0)))(hc:r.length+1<=c)(hl:r.length+1<=140737488355328)(hz:o+c<=cur.size)(hcur:∀i(hi:i<(v::r).length),cur[o+i]?=some (eF (v::r)[i]))(hv:(o0<=g/\g<B)\/va.ownBlock=some g)(hb:W.heap[jl]?=some (Jn.jJ b (C.size:Int) (.slice (some (if c=1 then⟨g,o,none⟩else⟨g,o+1,none⟩)) r.length (c-1)) ask.eH ask.arg (ask.nth:Int) ask.undo)/\fE (·=jl) w W):OJ (Kq o0 B jl b fb) jl (v::r) a va ask w (fM (.tuple #[eF v,.bool true])) W:=by
 have hgj:=F6 h0.1 hg;have hg2:=(hb.2.block g (lt_of_block hg) fun e=>hgj e.symm).trans hg;refine⟨rfl,va,⟨C,y,_,_,_,_,_,hb.1,(hb.2.block fb (lt_of_block h0.2) fun e=>oS h0.1 h0.2 e.symm).trans h0.2,oA a ask,⟨_,_,rfl,by show r.length<=c-1;omega,by show r.length<=_;omega,(fun h=>by cases h),fun p hp=>?_⟩⟩,hb.2.mono fun k _ hk=>ak hk,ak rfl⟩;cases hp;by_cases e:c=1;·rw[aA e];refine⟨g,o,cur,rfl,hg2,by omega,fun i hi=>?_,hv⟩;simp only[dM]at hi;omega
 rw[ah e];refine⟨g,o+1,cur,rfl,hg2,by omega,fun i hi=>?_,hv⟩;simp only[dM]at hi |-;have:=hcur (i+1) (by simp;omega);rw[show o+1+i=o+(i+1) by omega];exact this
theorem LB(o0 B jl b fb:Nat)(l:List Int)(a:List iL)(va:dZ)(w:dY)(ask:iL)(h:Kq o0 B jl b fb l a va w):fI 292 #[fq jl,zV ask] w (OJ (Kq o0 B jl b fb) jl l a va ask w):=by
 obtain⟨C,y,vs,wd,ar,tr,un,hb,hf,_,ha⟩:=h;obtain⟨c0,c1,c2,c3,c4,c5,c6,cf,cl⟩:=AV hb;obtain⟨eH,arg,nth,und⟩:=ask;unfold zV;have HB:Hid _:=And.intro hb hf;have HN:Hid _:=yf1 hb eH arg nth und;obtain⟨ad,c,rfl,hcap,hll,hnone,hce⟩:=id ha;cases l with| nil=>have HA:Hid _:=ha;simp only[aV]at c2;go_enter Tryz.func292,Tryz.ntmps292;go_wp2_with fail;go_ret2;have q:=mL HN.o (.cells #[.string eH,eF arg,eF (nth:Int),.bool und] 130);exact yip (ask:=⟨eH,arg,nth,und⟩) HB.o HA.o q| cons v r=>
 simp only[aG]at hcap hll c2 HB HN;obtain⟨p,rfl⟩:∃p,ad=some p:=by cases ad with| none=>have:=hnone rfl;omega| some p=>exact⟨p,rfl⟩
 obtain⟨g,o,cur,rfl,hg,hz,hcur,hv⟩:=hce p rfl;have hgj:=F6 hb hg;have hgl:=lt_of_block hg;have hcg:w.cell? ⟨g,o,none⟩=some (eF v):=by have:=hcur 0 (by simp);simp only[Nat.add_zero,dV]at this;simp[World.cell?,hg,this]
 have QQ:Hid _:=yio (ask:=⟨eH,arg,nth,und⟩) (a:=a) HB.o hg hcap hll hz hcur hv (mL (yfn HN.o _) (.cells #[.string eH,eF arg,eF (nth:Int),.bool und] 130));generalize r.length=R at *;by_cases hcc:c=1
 ·subst hcc;obtain rfl:R=0:=by omega
  rw[aA rfl]at QQ;go_enter Tryz.func292,Tryz.ntmps292;go_wp2_with fail;all_goals (try go_region)
  all_goals (try go_wp2_with fail)
  go_ret2;exact QQ.o
 rw[ah hcc]at QQ;go_enter Tryz.func292,Tryz.ntmps292;go_wp2_with fail;all_goals (try go_region)
 all_goals (try go_wp2_with fail)
 go_ret2;exact QQ.o
theorem yi4{x:Cx}(hK:x.K=Kq o0 x.B x.jl b fb)(hjl:x.jl<x.B)(UG:fb<x.B):JA x 292:=by
 refine⟨⟨fun l a va w w' T h hT h1 h2=>?_⟩,fun l a va w ask h _ _=>?_⟩;·rw[hK]at h |-;exact h.keep hjl UG hT h1 h2
 rw[hK]at h |-;exact LB o0 x.B x.jl b fb l a va w ask h
