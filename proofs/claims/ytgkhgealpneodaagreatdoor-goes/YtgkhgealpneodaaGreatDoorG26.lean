import Derived.Test.YtgkhgealpneodaaGreatDoorG25
set_option maxRecDepth 100000
set_option maxHeartbeats 4000000
namespace Go.Proofs.YtgkhgealpneodaaGreatDoor
open Go.RowKit
namespace Mk
open Lg Px Ref
def Cn(w:dY)(B:Nat)(P:Pg)(N:List dX)(g:Nat):Prop:=B<=g/\∃vl vw vn,w.heap[g]?=some (.cells #[vw,eF (P.nv:Int),vn,vl] 145)/\w.ownsRow B 219 3 vl P.ins.length (vQ P.ins)/\w.ownsRow B 9 1 vw P.gT.length (iG P.gT)/\w.ownsRow B 9 1 vn N.length (iG N)
theorem zm0(w:dY):iA (w.alloc (.cells #[iE,iE,iE] 156)) w.heap.size w.heap.size [] [] [] (iE) (iE) (iE):=by
 refine⟨ay _,jX,aX _ _ _ _,aX _ _ _ _,aX _ _ _ _,⟨?_,?_⟩⟩;·intro v hv k hk;simp at hv;subst hv;cases hk
 simp[Value.ownBlock]
theorem DT{w:dY}{B e z n m k:Nat}{a:Option Addr}{cs:List dZ}(h:w.ownsRow B e z (.slice a n k) m cs):n=m:=by
 obtain⟨h1,h2⟩|⟨g,cap,cur,h1,_⟩:=h.2;·cases h1;exact h2.symm
 cases h1;rfl
theorem zm4(l:List Sm)(hw:jZ l)(ht:tX l)(hz:mY l<=3600000)(w:dY)(v:dZ)(us:List dZ)(hs:lJ w v us (· < w.heap.size))(hm:gX w l (· < w.heap.size) us)(hG:Gk w w.heap.size):fI 24 #[v] w fun e w'=>∃g,e=fM (fq g)/\gU w w'/\Cn w' w.heap.size (iU l) (jw l []) g:=by
 have hb0:gU w (w.alloc (.cells #[iE,iE,iE] 156)):=(aF _ _).alloc (ay _) _;have hC:=Rz w.heap.size w.heap.size (kI l []) (jw l []) l hw ht _ [] [] [] _ _ _ v us (hs.keep fun k hk=>hb0.block k hk) (hm.keep fun k hk=>hb0.block k hk) (zm0 w) (hG.below hb0) (aR _) (aR _) (by simp;omega) (by simp;omega) (by simp;omega);have HC:Hid (vI w.heap.size w.heap.size v (iU l).ins (iU l).gT (jw l []) (w.alloc (.cells #[iE,iE,iE] 156))):=hC;have HB:Hid (gU w (w.alloc (.cells #[iE,iE,iE] 156))):=hb0;have EN:Hid ((iU l).nv=(jw l []).length):=rfl;obtain⟨va,vn,vc,rfl⟩:=hs.form;have Mv:=DJ l [];simp only[aV]at Mv;have HN:Hid ((jw l []).length<=3600000):=by unfold Hid;omega
 clear hC hb0 hs hm hG hw ht hz Mv;generalize jw l []=VV at *;generalize iU l=P at *;go_enter Tryz.func24,Tryz.ntmps24;go_wp2_with fail;refine aB HC.o ?_;rintro e w1 ⟨rfl,b1,mQ,qg,qh,h1⟩;obtain⟨a1,n1,k1,rfl⟩:=lu h1.list;obtain⟨a2,n2,k2,rfl⟩:=lu h1.gT;obtain⟨a3,n3,k3,rfl⟩:=lu h1.vars;obtain⟨c0,c1,c2,cf⟩:=cells3 h1.at_;obtain rfl:=DT h1.vars;have H2:Hid (Cn (w1.alloc (.cells #[.slice a2 n2 k2,eF (VV.length:Int),.slice a3 VV.length k3,.slice a1 n1 k1] 145)).drew w.heap.size P VV w1.heap.size):=by have hT:fE (fun _=>False) w1 (w1.alloc (.cells #[.slice a2 n2 k2,eF (VV.length:Int),.slice a3 VV.length k3,.slice a1 n1 k1] 145)).drew:=((fE.refl _ _).alloc _).drew;exact⟨(HB.o.trans b1).size,_,_,_,by rw[EN.o];exact jX,iM h1.list hT (fun _ _ h=>h),iM h1.gT hT (fun _ _ h=>h),iM h1.vars hT (fun _ _ h=>h)⟩
 have H1:Hid (gU w w1/\iA w1 w.heap.size w.heap.size P.ins P.gT VV (.slice a1 n1 k1) (.slice a2 n2 k2) (.slice a3 VV.length k3)):=⟨HB.o.trans b1,h1⟩;clear b1 h1 HC;go_wp2_with fail;go_region_with fail
 all_goals
  go_wp2_with fail;go_ret;exact⟨w1.heap.size,rfl,(H1.o.1.alloc H1.o.1.size _).drew,H2.o⟩
