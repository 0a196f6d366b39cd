import Derived.Test.YtokkhhekekeokaaGreatDoorC30
set_option maxRecDepth 100000
set_option maxHeartbeats 4000000
namespace Go.Proofs.YtokkhhekekeokaaGreatDoor
open Go.RowKit Tryz
namespace Mk
open Lg Px Ref
def sJ (w:fu)(B:Nat)(P:Pg)(N:List fq)(g:Nat):Prop:=B<=g/\∃ vl vw vn,w.heap[g]?=some (.cells #[vw,.int .i64 (P.nv:Int),vn,vl] 80)/\w.ownsRow B 90 3 vl P.ins.length (qO P.ins)/\w.ownsRow B 9 1 vw P.fT.length (strCells P.fT)/\w.ownsRow B 9 1 vn N.length (strCells N)
theorem zm0 (w:fu):gH (w.alloc (.cells #[.slice none 0 0,.slice none 0 0,.slice none 0 0] 93)) w.heap.size w.heap.size [] [] [] (.slice none 0 0) (.slice none 0 0) (.slice none 0 0):=by
 refine ⟨aj _,Lg.new1,aT _ _ _ _,aT _ _ _ _,aT _ _ _ _,⟨?_,?_⟩⟩
 ·intro v hv k hk;simp at hv;subst hv;cases hk
 ·simp[Value.ownBlock]
theorem Ce {w:fu}{B e z n m k:Nat}{a:Option Addr}{cs:List fC}(h:w.ownsRow B e z (.slice a n k) m cs):n=m:=by
 rcases h.2 with ⟨h1,h2⟩ | ⟨g,cap,cur,h1,_⟩
 ·cases h1;exact h2.symm
 ·cases h1;rfl
theorem zm4 (l:List Sm)(hw:jM l)(ht:rO l)(hz:lI l<=3600000)(w:fu)(v:fC)(us:List fC)(hs:kg w v us (· < w.heap.size))(hm:gF w l (· < w.heap.size) us)(hG:Gk w w.heap.size) :
  Calls prog 14 #[v] w fun e w'=>∃ g,e=.returned (.pointer (some ⟨g,0,none⟩))/\Below w.heap.size w w'/\sJ w' w.heap.size (iL l) (iV l []) g:=by
 have hb0:Below w.heap.size w (w.alloc (.cells #[.slice none 0 0,.slice none 0 0,.slice none 0 0] 93)):=(aH _ _).alloc (aj _) _;have hC:=Qp w.heap.size w.heap.size (jq l []) (iV l []) l hw ht _ [] [] [] _ _ _ v us (hs.keep fun k hk=>hb0.block k hk) (hm.keep fun k hk=>hb0.block k hk) (zm0 w) (hG.below hb0) (aO _) (aO _) (by simp;omega) (by simp;omega) (by simp;omega)
 have HC:Hid (tX w.heap.size w.heap.size v (iL l).ins (iL l).fT (iV l []) (w.alloc (.cells #[.slice none 0 0,.slice none 0 0,.slice none 0 0] 93))):=hC;have HB:Hid (Below w.heap.size w (w.alloc (.cells #[.slice none 0 0,.slice none 0 0,.slice none 0 0] 93))):=hb0;have EN:Hid ((iL l).nv=(iV l []).length):=rfl;obtain ⟨va,vn,vc,rfl⟩:=hs.form;have Bh:=BU l [];simp only[aL] at Bh;have HN:Hid ((iV l []).length<=3600000):=by unfold Hid;omega
 clear hC hb0 hs hm hG hw ht hz Bh;generalize iV l []=VV at *;generalize iL l=P at *;go_enter func14,ntmps14
 go_wp2_with fail;refine aA HC.o ?_;rintro e w1 ⟨rfl,b1,lD,oL,oM,h1⟩;obtain ⟨a1,n1,k1,rfl⟩:=jm h1.list;obtain ⟨a2,n2,k2,rfl⟩:=jm h1.fT;obtain ⟨a3,n3,k3,rfl⟩:=jm h1.vars;obtain ⟨c0,c1,c2,cf⟩:=cells3 h1.at_;obtain rfl:=Ce h1.vars;have H2:Hid (sJ (w1.alloc (.cells #[.slice a2 n2 k2,.int .i64 (VV.length:Int),.slice a3 VV.length k3,.slice a1 n1 k1] 80)).drew w.heap.size P VV w1.heap.size):=by
  have hT:fO (fun _=>False) w1 (w1.alloc (.cells #[.slice a2 n2 k2,.int .i64 (VV.length:Int),.slice a3 VV.length k3,.slice a1 n1 k1] 80)).drew:=((fO.refl _ _).alloc _).drew
  exact ⟨(HB.o.trans b1).size,_,_,_,by rw[EN.o];exact Lg.new1,gZ h1.list hT (fun _ _ h=>h),gZ h1.fT hT (fun _ _ h=>h),gZ h1.vars hT (fun _ _ h=>h)⟩
 have H1:Hid (Below w.heap.size w w1/\gH w1 w.heap.size w.heap.size P.ins P.fT VV (.slice a1 n1 k1) (.slice a2 n2 k2) (.slice a3 VV.length k3)):=⟨HB.o.trans b1,h1⟩;clear b1 h1 HC;go_wp2_with fail;go_region_with fail
 all_goals
  go_wp2_with fail;go_ret;exact ⟨w1.heap.size,rfl,(H1.o.1.alloc H1.o.1.size _).drew,H2.o⟩
