import Derived.Test.YtokkhhekekeokaaGreatDoorC19
set_option maxRecDepth 100000
set_option maxHeartbeats 4000000
namespace Go.Proofs.YtokkhhekekeokaaGreatDoor
open Go.RowKit Tryz
namespace Lg
open Px
theorem zmq (c m B:Nat)(E:Nat->Addr)(op n:Nat)(fD:fq)(pl own:Nat)(l:Px.Ex)(ih:rQ c m B E l)(K:Px.Lk)(w:fu)(q tl ql:Nat)(hq:q < B)(hc:w.heap[q]?=some (.cells #[.iface tl (Ref.ptr ql),.int .i64 (own:Int)] 293))(hx:jv w l (· < B) (.iface tl (Ref.ptr ql)))(h:Ck w c m B E K)(hv:V3 K) :
  Calls prog 252 #[.pointer (some ⟨q,0,none⟩),.pointer (some ⟨c,0,none⟩)] w (xq c m B E w (iP ⟨op,n,fD,pl,own,some l,none⟩ K)):=by
 have hk3:=FP l K hv;have hB:=h.bc;have PO:Hid (iP ⟨op,n,fD,pl,own,some l,none⟩ K=Px.notP own (iP l K)):=by unfold Hid;rw[iP]
 have CALL:Hid (∀ W,W=w.drew\/W=w->ko W c tl ql (xq c m B E W (iP l K))):=fun W hW=>by
  rcases hW with rfl | rfl
  ·exact ih K _ tl ql hx.drew h.drew hv
  ·exact ih K _ tl ql hx h hv
 have CQ:Hid (∀ W,Below B w W->W.heap[q]?=some (.cells #[.iface tl (Ref.ptr ql),.int .i64 (own:Int)] 293)):=fun W hW=>by rw[hW.block q hq];exact hc
 have ht:=hx.ty;unfold Ref.ptr at hc;obtain ⟨c0,c1,fr⟩:=qN hc;have HH:Hid (Ck w c m B E K):=h;clear ih hx h hc;unfold FQ at ht;have hm1:=Ao;have hm2:=Ap;have FL:=Aq;have QG:=Ar;have QH:=MX;rcases ht with rfl | rfl | rfl | rfl | rfl
 all_goals
  go_enter func252,ntmps252
  go_wp2_with fail
  first
   | refine (CALL.o w (ah rfl)).num.mono ?_
   | refine (CALL.o w (ah rfl)).var.mono ?_
   | refine (CALL.o w (ah rfl)).I8.mono ?_
   | refine (CALL.o w (ah rfl)).yw.mono ?_
   | refine (CALL.o w (ah rfl)).pair.mono ?_
  rintro e w1 ⟨rfl,k1,b1⟩;have hc1:=CQ.o w1 (HH.o.fr b1);unfold Ref.ptr at hc1;obtain ⟨e0,e1,fe⟩:=qN hc1;have g6:=k1.g.y;have K1:Hid (Ck w1 c m B E (iP l K).2/\Fr c m w w1):=⟨k1,b1⟩;clear c0 c1 fr k1 b1 hc1;cases hfit:pQ (iP l K).1 98
  ·go_wp2_with fail;refine (uR _ 98 hk3 (ah (ak rfl)) _).mono ?_;rintro r w2 ⟨rfl,rfl⟩;rw[hfit];go_wp2_with fail;go_region_with (go_at_call 233;refine (Am c m B E 6 own (by decide) _ _ K1.o.1.drew).mono ?_;rintro r w2 ⟨rfl,h3,h4⟩)
   all_goals
    go_wp2_with fail;go_ret;rw[PO.o];refine ⟨rfl,?_,K1.o.2.drew.trans h4⟩;unfold Px.notP;rw[if_neg (by simp[hfit])]
    exact h3
  ·go_wp2_with fail;refine (uR _ 98 hk3 (ah (ak rfl)) _).mono ?_;rintro r w2 ⟨rfl,rfl⟩;rw[hfit];go_wp2_with fail;go_ret;rw[PO.o];refine ⟨rfl,?_,K1.o.2⟩;unfold Px.notP;rw[if_pos hfit];exact K1.o.1
theorem uL (c m B:Nat)(E:Nat->Addr)(x:Px.Ex)(hw:mO x):rQ c m B E x:=by
 match x,hw with
 | ⟨op,n,fD,pl,own,none,none⟩,_ =>
  intro K w tl ql hx h hv;obtain ⟨q,hq,⟨h2,h3,h4⟩ | ⟨h2,h3,h4⟩ | ⟨h2,h3,h4⟩⟩:=hx
  ·cases h3;subst h2;have hk:iP ⟨110,n,fD,pl,own,none,none⟩ K=(105,K):=by simp only[iP,Bb,if_true]
   rw[hk];exact ak ⟨rfl,Zs c m B _ E K w h⟩
  ·cases h3;subst h2;have hk:iP ⟨119,n,fD,pl,own,none,none⟩ K=(match iK K.vars fD with
    | none=>(63,pF 5 own K)
    | some i=>(og K.vars i,K)):=by
    simp only[iP,Bb,if_neg (by decide:¬(119:Nat)=110),if_neg (by decide:¬(119:Nat)=116)]
    cases iK K.vars fD<;>rfl
   rw[hk];exact ah (ak ⟨rfl,Z2 c m B _ own fD E K w h ⟨hq,h4⟩⟩)
  ·cases h3;subst h2;have hk:iP ⟨116,n,fD,pl,own,none,none⟩ K=(98,K):=by simp only[iP,Bb,if_true,if_neg (by decide:¬(116:Nat)=110)]
   rw[hk];exact ah (ah (ak ⟨rfl,Z1 c m B _ E K w h⟩))
 | ⟨op,n,fD,pl,own,some l,none⟩,hw =>
  intro K w tl ql hx h hv;obtain ⟨_,q,tl',wE,hq,h2,h3,h4⟩:=hx;cases h2;exact ah (ah (ah (ak ⟨rfl,zmq c m B E op n fD pl own l (uL c m B E l hw.2) K w _ tl' wE hq h3 h4 h hv⟩)))
 | ⟨op,n,fD,pl,own,some l,some r⟩,hw =>
  intro K w tl ql hx h hv;obtain ⟨q,tl',wE,tr,qr,hq,h2,h3,h4,h5⟩:=hx;cases h2;exact ah (ah (ah (ah ⟨rfl,zf8 c m B E op n fD pl own l r hw.1 (uL c m B E l hw.2.1) (uL c m B E r hw.2.2) K w _ tl' wE tr qr hq h3 h4 h5 h hv⟩)))
 | ⟨_,_,_,_,_,none,some _⟩,hw=>exact hw.elim
