import Derived.Test.YtgkhgealpneodaaGreatDoorG15
set_option maxRecDepth 100000
set_option maxHeartbeats 4000000
namespace Go.Proofs.YtgkhgealpneodaaGreatDoor
open Go.RowKit Tryz
namespace Lg
open Px
theorem zmq(c m B:Nat)(E:Nat->Addr)(op n:Nat)(eH:dX)(pl own:Nat)(l:fG)(ih:tY c m B E l)(K:gM)(w:dY)(q tl ql:Nat)(hq:q<B)(hc:w.heap[q]?=some (.cells #[.iface tl (Ref.ptr ql),eF (own:Int)] 328))(hx:ku w l (· < B) (.iface tl (Ref.ptr ql)))(h:Ck w c m B E K)(hv:V3 K):fI 335 #[fq q,fq c] w (yJ c m B E w (jM ⟨op,n,eH,pl,own,some l,none⟩ K)):=by
 have hk3:=Hw l K hv;have hB:=h.bc;have PO:Hid (jM ⟨op,n,eH,pl,own,some l,none⟩ K=oU own (jM l K)):=by unfold Hid;rw[jM]
 have CALL:Hid (∀W,W=w.drew\/W=w->lK W c tl ql (yJ c m B E W (jM l K))):=fun W hW=>by
  obtain rfl|rfl:=hW;·exact ih K _ tl ql hx.drew h.drew hv
  exact ih K _ tl ql hx h hv
 have CQ:Hid (∀W,Below B w W->W.heap[q]?=some (.cells #[.iface tl (Ref.ptr ql),eF (own:Int)] 328)):=fun W hW=>by rw[hW.block q hq];exact hc
 have ht:=hx.ty;unfold Ref.ptr at hc;obtain⟨c0,c1,fr⟩:=sj hc;have HH:Hid (Ck w c m B E K):=h;clear ih hx h hc;unfold Hy at ht;have hm1:=BK;have hm2:=BL;have E9:=BM;have N9:=BN;have R5:=N8;obtain rfl|rfl|rfl|rfl|rfl:=ht;all_goals
  go_enter func335,ntmps335;go_wp2_with fail;first
   |refine(CALL.o w (aj rfl)).num.mono ?_
   |refine(CALL.o w (aj rfl)).var.mono ?_
   |refine(CALL.o w (aj rfl)).J8.mono ?_
   |refine(CALL.o w (aj rfl)).zD.mono ?_
   |refine(CALL.o w (aj rfl)).pair.mono ?_
  rintro e w1 ⟨rfl,k1,b1⟩;have hc1:=CQ.o w1 (HH.o.fr b1);unfold Ref.ptr at hc1;obtain⟨e0,e1,fe⟩:=sj hc1;have g6:=k1.g.y;have K1:Hid (Ck w1 c m B E (jM l K).2/\Fr c m w w1):=⟨k1,b1⟩;clear c0 c1 fr k1 b1 hc1;cases hfit:qG (jM l K).1 98
  ·go_wp2_with fail;refine(wz _ 98 hk3 (aj (ak rfl)) _).mono ?_;rintro r w2 ⟨rfl,rfl⟩;rw[hfit];go_wp2_with fail;go_region_with (go_at_call 316;refine(BJ c m B E 6 own (by decide) _ _ K1.o.1.drew).mono ?_;rintro r w2 ⟨rfl,h3,h4⟩)
   all_goals
    go_wp2_with fail;go_ret;rw[PO.o];refine⟨rfl,?_,K1.o.2.drew.trans h4⟩;unfold oU;rw[ah (by simp[hfit])];exact h3
  ·go_wp2_with fail;refine(wz _ 98 hk3 (aj (ak rfl)) _).mono ?_;rintro r w2 ⟨rfl,rfl⟩;rw[hfit];go_wp2_with fail;go_ret;rw[PO.o];refine⟨rfl,?_,K1.o.2⟩;unfold oU;rw[aA hfit];exact K1.o.1
theorem vY(c m B:Nat)(E:Nat->Addr)(x:fG)(hw:nU x):tY c m B E x:=by
 match x,hw with
 |⟨op,n,eH,pl,own,none,none⟩,_=>
  intro K w tl ql hx h hv;obtain⟨q,hq,⟨h2,h3,h4⟩|⟨h2,h3,h4⟩|⟨h2,h3,h4⟩⟩:=hx
  ·cases h3;subst h2;have hk:jM ⟨110,n,eH,pl,own,none,none⟩ K=(105,K):=by simp only[jM,CO,if_true]
   rw[hk];exact ak ⟨rfl,qx3 c m B _ E K w h⟩
  ·cases h3;subst h2;have hk:jM ⟨119,n,eH,pl,own,none,none⟩ K=(match jG K.vars eH with
    |none=>(63,qB 5 own K)
    |some i=>(pG K.vars i,K)):=by
    simp only[jM,CO,ah (by decide:¬(119:Nat)=110),ah (by decide:¬(119:Nat)=116)];cases jG K.vars eH<;>rfl
   rw[hk];exact aj (ak ⟨rfl,qse c m B _ own eH E K w h ⟨hq,h4⟩⟩)
  cases h3;subst h2;have hk:jM ⟨116,n,eH,pl,own,none,none⟩ K=(98,K):=by simp only[jM,CO,if_true,ah (by decide:¬(116:Nat)=110)]
  rw[hk];exact aj (aj (ak ⟨rfl,zb1 c m B _ E K w h⟩))
 |⟨op,n,eH,pl,own,some l,none⟩,hw=>intro K w tl ql hx h hv;obtain⟨_,q,tl',xS,hq,h2,h3,h4⟩:=hx;cases h2;exact aj (aj (aj (ak ⟨rfl,zmq c m B E op n eH pl own l (vY c m B E l hw.2) K w _ tl' xS hq h3 h4 h hv⟩)))
 |⟨op,n,eH,pl,own,some l,some r⟩,hw=>intro K w tl ql hx h hv;obtain⟨q,tl',xS,tr,qr,hq,h2,h3,h4,h5⟩:=hx;cases h2;exact aj (aj (aj (aj ⟨rfl,zf8 c m B E op n eH pl own l r hw.1 (vY c m B E l hw.2.1) (vY c m B E r hw.2.2) K w _ tl' xS tr qr hq h3 h4 h5 h hv⟩)))
 |⟨_,_,_,_,_,none,some _⟩,hw=>exact hw.elim
