import Derived.Test.YtagpnplggopoeaaGreatDoorT10
import Derived.Test.YtagpnplggopoeaaGreatDoorT13
set_option maxRecDepth 100000
set_option maxHeartbeats 4000000
namespace Go.Proofs.YtagpnplggopoeaaGreatDoor
open Go.RowKit
namespace Lg
theorem zmq (c m B:Nat) (E:Nat→Addr) (op n:Nat) (word:ByteArray) (pl own:Nat) (l:Px.Ex) (ih:qco c m B E l) (K:Px.Lk) (w:World) (q tl ql:Nat) (hq:q < B) (hc:w.heap[q]?=some (.cells #[.iface tl (Ref.ptr ql),.int .i64 (own:Int)] 305)) (hx:XAt w l (· < B) (.iface tl (Ref.ptr ql))) (h:Ck w c m B E K) (hv:Px.V3 K) :
  Calls Tryz.prog 301 #[.pointer (some ⟨q,0,none⟩),.pointer (some ⟨c,0,none⟩)] w (qe8 c m B E w (Px.qaj ⟨op,n,word,pl,own,some l,none⟩ K)):=by
 have hk3:=Px.qdq l K hv;have hB:=h.bc;have PO:Hid (Px.qaj ⟨op,n,word,pl,own,some l,none⟩ K=Px.notP own (Px.qaj l K)):=by unfold Hid;rw[Px.qaj]
 have CALL:Hid (∀ W,W=w.drew∨W=w→KindC W c tl ql (qe8 c m B E W (Px.qaj l K))):=fun W hW=>by
  rcases hW with rfl | rfl
  ·exact ih K _ tl ql hx.drew h.drew hv
  ·exact ih K _ tl ql hx h hv
 have CQ:Hid (∀ W,Below B w W→W.heap[q]?=some (.cells #[.iface tl (Ref.ptr ql),.int .i64 (own:Int)] 305)):=fun W hW=>by rw[hW.block q hq];exact hc
 have ht:=hx.ty;unfold Ref.ptr at hc;obtain ⟨c0,c1,fr⟩:=qck hc;have HH:Hid (Ck w c m B E K):=h;clear ih hx h hc;unfold Ty5 at ht;have hm1:=mNum;have hm2:=mVar;have hm3:=mTru;have hm4:=mNot;have hm5:=qvz;rcases ht with rfl | rfl | rfl | rfl | rfl
 all_goals
  go_enter Tryz.func301,Tryz.ntmps301
  go_wp2_with fail
  first
   | refine (CALL.out w (Or.inr rfl)).num.mono ?_
   | refine (CALL.out w (Or.inr rfl)).var.mono ?_
   | refine (CALL.out w (Or.inr rfl)).tru.mono ?_
   | refine (CALL.out w (Or.inr rfl)).nots.mono ?_
   | refine (CALL.out w (Or.inr rfl)).pair.mono ?_
  rintro e w1 ⟨rfl,k1,b1⟩;have hc1:=CQ.out w1 (HH.out.fr b1);unfold Ref.ptr at hc1;obtain ⟨e0,e1,fe⟩:=qck hc1;have g6:=k1.g.y;have K1:Hid (Ck w1 c m B E (Px.qaj l K).2∧Fr c m w w1):=⟨k1,b1⟩;clear c0 c1 fr k1 b1 hc1;cases hfit:Px.qcd (Px.qaj l K).1 98
  ·go_wp2_with fail;refine (qaq _ 98 hk3 (Or.inr (Or.inl rfl)) _).mono ?_;rintro r w2 ⟨rfl,rfl⟩;rw[hfit];go_wp2_with fail;go_region_with (go_at_call 282;refine (qbx c m B E 6 own (by decide) _ _ K1.out.1.drew).mono ?_;rintro r w2 ⟨rfl,h3,h4⟩)
   all_goals
    go_wp2_with fail;go_ret;rw[PO.out];refine ⟨rfl,?_,K1.out.2.drew.trans h4⟩;unfold Px.notP;rw[if_neg (by simp[hfit])]
    exact h3
  ·go_wp2_with fail;refine (qaq _ 98 hk3 (Or.inr (Or.inl rfl)) _).mono ?_;rintro r w2 ⟨rfl,rfl⟩;rw[hfit];go_wp2_with fail;go_ret;rw[PO.out];refine ⟨rfl,?_,K1.out.2⟩;unfold Px.notP;rw[if_pos hfit];exact K1.out.1
open Go.RowKit
theorem qcr (c m B:Nat) (E:Nat→Addr) (x:Px.Ex) (hw:Px.WfE x):qco c m B E x:=by
 match x,hw with
 | ⟨op,n,word,pl,own,none,none⟩,_ =>
  intro K w tl ql hx h hv;obtain ⟨q,hq,⟨h2,h3,h4⟩ | ⟨h2,h3,h4⟩ | ⟨h2,h3,h4⟩⟩:=hx
  ·cases h3;subst h2;have hk:Px.qaj ⟨110,n,word,pl,own,none,none⟩ K=(105,K):=by simp only[Px.qaj,Px.qv3,if_true]
   rw[hk];exact Or.inl ⟨rfl,qx3 c m B _ E K w h⟩
  ·cases h3;subst h2;have hk:Px.qaj ⟨119,n,word,pl,own,none,none⟩ K=(match Px.qa3 K.vars word with
    | none=>(63,Px.qew 5 own K)
    | some i=>(Px.qcn K.vars i,K)):=by
    simp only[Px.qaj,Px.qv3,if_neg (by decide:¬(119:Nat)=110),if_neg (by decide:¬(119:Nat)=116)]
    cases Px.qa3 K.vars word<;>rfl
   rw[hk];exact Or.inr (Or.inl ⟨rfl,qse c m B _ own word E K w h ⟨hq,h4⟩⟩)
  ·cases h3;subst h2;have hk:Px.qaj ⟨116,n,word,pl,own,none,none⟩ K=(98,K):=by simp only[Px.qaj,Px.qv3,if_true,if_neg (by decide:¬(116:Nat)=110)]
   rw[hk];exact Or.inr (Or.inr (Or.inl ⟨rfl,zb1 c m B _ E K w h⟩))
 | ⟨op,n,word,pl,own,some l,none⟩,hw =>
  intro K w tl ql hx h hv;obtain ⟨_,q,tl',ql',hq,h2,h3,h4⟩:=hx;cases h2;exact Or.inr (Or.inr (Or.inr (Or.inl ⟨rfl,zmq c m B E op n word pl own l (qcr c m B E l hw.2) K w _ tl' ql' hq h3 h4 h hv⟩)))
 | ⟨op,n,word,pl,own,some l,some r⟩,hw =>
  intro K w tl ql hx h hv;obtain ⟨q,tl',ql',tr,qr,hq,h2,h3,h4,h5⟩:=hx;cases h2;exact Or.inr (Or.inr (Or.inr (Or.inr ⟨rfl,zf8 c m B E op n word pl own l r hw.1 (qcr c m B E l hw.2.1) (qcr c m B E r hw.2.2) K w _ tl' ql' tr qr hq h3 h4 h5 h hv⟩)))
 | ⟨_,_,_,_,_,none,some _⟩,hw=>exact hw.elim
end Lg
end Go.Proofs.YtagpnplggopoeaaGreatDoor
