import Derived.Test.YtagpnplggopoeaaGreatDoorT24
set_option maxRecDepth 100000
set_option maxHeartbeats 4000000
namespace Go.Proofs.YtagpnplggopoeaaGreatDoor
open Go.RowKit
namespace Mk
def PgAt (w:World) (B:Nat) (P:Px.Pg) (N:List ByteArray) (g:Nat):Prop:=B≤g∧∃ vl vw vn,w.heap[g]?=some (.cells #[vw,.int .i64 (P.nv:Int),vn,vl] 122)∧w.ownsRow B 190 3 vl P.ins.length (qby P.ins)∧w.ownsRow B 9 1 vw P.words.length (strCells P.words)∧w.ownsRow B 9 1 vn N.length (strCells N)
theorem zm0 (w:World):MkAt (w.alloc (.cells #[.slice none 0 0,.slice none 0 0,.slice none 0 0] 133)) w.heap.size w.heap.size [] [] [] (.slice none 0 0) (.slice none 0 0) (.slice none 0 0):=by
 refine ⟨Nat.le_refl _,Lg.new1,World.ownsRow_nil _ _ _ _,World.ownsRow_nil _ _ _ _,World.ownsRow_nil _ _ _ _,⟨?_,?_⟩⟩
 ·intro v hv k hk;simp at hv;subst hv;cases hk
 ·simp[Value.ownBlock]
theorem qi4 {w:World} {B e z n m k:Nat} {a:Option Addr} {cs:List Value} (h:w.ownsRow B e z (.slice a n k) m cs):n=m:=by
 rcases h.2 with ⟨h1,h2⟩ | ⟨g,cap,cur,h1,_⟩
 ·cases h1;exact h2.symm
 ·cases h1;rfl
theorem zm4 (l:List Px.Sm) (hw:Px.WfS l) (ht:Px.TrS l) (hz:Px.szS l≤3600000) (w:World) (v:Value) (us:List Value) (hs:Lg.SlL w v us (· < w.heap.size)) (hm:Lg.LsAt w l (· < w.heap.size) us) (hG:Gk w w.heap.size) :
  Calls Tryz.prog 22 #[v] w fun e w'=>∃ g,e=.returned (.pointer (some ⟨g,0,none⟩))∧Below w.heap.size w w'∧PgAt w' w.heap.size (Px.pgOf l) (Px.vsS l []) g:=by
 have hb0:Below w.heap.size w (w.alloc (.cells #[.slice none 0 0,.slice none 0 0,.slice none 0 0] 133)):=(Below.refl _ _).alloc (Nat.le_refl _) _;have hC:=qqg w.heap.size w.heap.size (Px.wsS l []) (Px.vsS l []) l hw ht _ [] [] [] _ _ _ v us (hs.keep fun k hk=>hb0.block k hk) (hm.keep fun k hk=>hb0.block k hk) (zm0 w) (hG.below hb0) (List.prefix_refl _) (List.prefix_refl _) (by simp;omega) (by simp;omega) (by simp;omega)
 have HC:Hid (BlC w.heap.size w.heap.size v (Px.pgOf l).ins (Px.pgOf l).words (Px.vsS l []) (w.alloc (.cells #[.slice none 0 0,.slice none 0 0,.slice none 0 0] 133))):=hC;have HB:Hid (Below w.heap.size w (w.alloc (.cells #[.slice none 0 0,.slice none 0 0,.slice none 0 0] 133))):=hb0;have EN:Hid ((Px.pgOf l).nv=(Px.vsS l []).length):=rfl;obtain ⟨va,vn,vc,rfl⟩:=hs.form;have hnv:=Px.qnc l [];simp only[List.length_nil] at hnv;have HN:Hid ((Px.vsS l []).length≤3600000):=by unfold Hid;omega
 clear hC hb0 hs hm hG hw ht hz hnv;generalize Px.vsS l []=VV at *;generalize Px.pgOf l=P at *;go_enter Tryz.func22,Tryz.ntmps22
 go_wp2_with fail;refine Calls.mono HC.out ?_;rintro e w1 ⟨rfl,b1,vl1,vw1,vv1,h1⟩;obtain ⟨a1,n1,k1,rfl⟩:=Ref.qad h1.list;obtain ⟨a2,n2,k2,rfl⟩:=Ref.qad h1.words;obtain ⟨a3,n3,k3,rfl⟩:=Ref.qad h1.vars;obtain ⟨c0,c1,c2,cf⟩:=cells3 h1.at_;obtain rfl:=qi4 h1.vars;have H2:Hid (PgAt (w1.alloc (.cells #[.slice a2 n2 k2,.int .i64 (VV.length:Int),.slice a3 VV.length k3,.slice a1 n1 k1] 122)).drew w.heap.size P VV w1.heap.size):=by
  have hT:Tch (fun _=>False) w1 (w1.alloc (.cells #[.slice a2 n2 k2,.int .i64 (VV.length:Int),.slice a3 VV.length k3,.slice a1 n1 k1] 122)).drew:=((Tch.refl _ _).alloc _).drew
  exact ⟨(HB.out.trans b1).size,_,_,_,by rw[EN.out];exact Lg.new1,qah h1.list hT (fun _ _ h=>h),qah h1.words hT (fun _ _ h=>h),qah h1.vars hT (fun _ _ h=>h)⟩
 have H1:Hid (Below w.heap.size w w1∧MkAt w1 w.heap.size w.heap.size P.ins P.words VV (.slice a1 n1 k1) (.slice a2 n2 k2) (.slice a3 VV.length k3)):=⟨HB.out.trans b1,h1⟩;clear b1 h1 HC;go_wp2_with fail;go_region_with fail
 all_goals
  go_wp2_with fail;go_ret;exact ⟨w1.heap.size,rfl,(H1.out.1.alloc H1.out.1.size _).drew,H2.out⟩
end Mk
end Go.Proofs.YtagpnplggopoeaaGreatDoor
