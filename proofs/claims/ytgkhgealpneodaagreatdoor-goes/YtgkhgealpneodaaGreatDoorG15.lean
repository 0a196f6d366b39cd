import Derived.Test.YtgkhgealpneodaaGreatDoorG14
set_option maxRecDepth 100000
set_option maxHeartbeats 20000000
namespace Go.Proofs.YtgkhgealpneodaaGreatDoor
open Go.RowKit Tryz
namespace Lg
open Px
theorem zf8(c m B:Nat)(E:Nat->Addr)(op n:Nat)(eH:dX)(pl own:Nat)(l r:fG)(hop:YN op)(ihl:tY c m B E l)(ihr:tY c m B E r)(K:gM)(w:dY)(q tl ql tr qr:Nat)(hq:q<B)(hc:w.heap[q]?=some (.cells #[eF (jU op:Int),.iface tl (Ref.ptr ql),.iface tr (Ref.ptr qr),eF (own:Int)] 332))(hx:ku w l (· < B) (.iface tl (Ref.ptr ql)))(hy:ku w r (· < B) (.iface tr (Ref.ptr qr)))(h:Ck w c m B E K)(hv:V3 K):fI 337 #[fq q,fq c] w (yJ c m B E w (jM ⟨op,n,eH,pl,own,some l,some r⟩ K)):=by
 obtain⟨o0,o1,o2,o3⟩:=qja h.g hop;have hix:=qkr op;have hs:=hy.ty;have ht:=hx.ty;have PO:Hid (jM ⟨op,n,eH,pl,own,some l,some r⟩ K=vT op own (jM l K).1 (jM r (jM l K).2)):=by unfold Hid;rw[jM]
 have hkl:=Hw l K hv;have hkr:=Hw r (jM l K).2 (Hu hv);have htk:Px.K3 (A9 op):=qk2;unfold vT at PO;unfold Ref.ptr at hc;have hcw:c<w.heap.size:=by obtain⟨pf,h1,_⟩:=h.ex;exact lt_of_block h1
 have hmw:m<w.heap.size:=by obtain⟨pf,h1,h2,h3,⟨es,ck,h4,_⟩,_⟩:=h.ex;exact lt_of_block h4
 have hqc:q≠c:=by have:=h.bc;omega
 have hqm:q≠m:=by obtain⟨pf,h1,h2,_⟩:=h.ex;omega
 have GK:=lt_of_block hc;generalize jU op=i at *;generalize htkd:A9 op=tk at *;generalize hmkd:Ea op=mk at *;have CQ:Hid (∀W,Fr c m w W->W.heap[q]?=some (.cells #[eF (i:Int),.iface tl (fq ql),.iface tr (fq qr),eF (own:Int)] 332)):=fun W hW=>by rw[hW.block q GK hqc hqm];exact hc
 have F0:Hid (Fr c m w (FC w i tk mk)):=(Fr.refl c m w).alloc _;have ug:Hid (lK (FC w i tk mk).drew c tl ql (yJ c m B E (FC w i tk mk).drew (jM l K))):=ihl K _ tl ql (hx.keep fun k hk=>F0.o.drew.block k (by have:=h.bc;omega) (by have:=h.bc;omega) (by obtain⟨pf,h1,h2,_⟩:=h.ex;omega)) (h.alloc _).drew hv;have uh:Hid (∀W,Fr c m w W->Ck W c m B E (jM l K).2->lK W c tr qr (yJ c m B E W (jM r (jM l K).2))):=fun W hW hK=>ihr _ W tr qr (hy.keep fun k hk=>hW.block k (by have:=h.bc;omega) (by have:=h.bc;omega) (by obtain⟨pf,h1,h2,_⟩:=h.ex;omega)) hK (Hu hv);have OB:Hid (∀W,Fr c m (FC w i tk mk) W->W.heap[w.heap.size]?=some (.cells #[.string (tx i),eF (lv i),eF (kk tk:Int),eF (kk mk:Int)] 388)):=fun W hW=>by rw[hW.block _ (by simp[FC]) (by omega) (by omega)];exact jX
 obtain⟨c0,c1,c2,c3,fr⟩:=qR hc;obtain⟨d0,d1,d2,d3,fd⟩:=qR (CQ.o _ F0.o.drew);clear ihl ihr hx hy h hc hop;unfold Hy at hs ht;have hm1:=BK;have hm2:=BL;have E9:=BM;have N9:=BN;have R5:=N8;go_enter func337,ntmps337;go_wp2_with fail;go_cut [6,7] (fun vl vr wc=>vl=eF (kk (jM l K).1:Int)/\vr=eF (kk (jM r (jM l K).2).1:Int)/\Hid (Ck wc c m B E (jM r (jM l K).2).2/\Fr c m (FC w i tk mk) wc))
 case first=>
  obtain rfl|rfl|rfl|rfl|rfl:=ht<;>obtain rfl|rfl|rfl|rfl|rfl:=hs;all_goals go_region_with (first
   |((fail_if_success (have _:=K1));(first|(go_at_call 331;refine ug.o.num.mono ?_)|(go_at_call 317;refine ug.o.var.mono ?_)|(go_at_call 333;refine ug.o.J8.mono ?_)|(go_at_call 335;refine ug.o.zD.mono ?_)|(go_at_call 337;refine ug.o.pair.mono ?_));rintro e w1 ⟨rfl,k1,f1⟩;obtain⟨e0,e1,e2,e3,fe⟩:=qR (CQ.o w1 (F0.o.drew.trans f1));have K1:Hid (Ck w1 c m B E (jM l K).2/\Fr c m (FC w i tk mk) w1):=⟨k1,(Fr.refl c m _).drew.trans f1⟩;clear k1 f1)
   |((first|(go_at_call 331;refine(uh.o _ (F0.o.trans K1.o.2) K1.o.1).num.mono ?_)|(go_at_call 317;refine(uh.o _ (F0.o.trans K1.o.2) K1.o.1).var.mono ?_)|(go_at_call 333;refine(uh.o _ (F0.o.trans K1.o.2) K1.o.1).J8.mono ?_)|(go_at_call 335;refine(uh.o _ (F0.o.trans K1.o.2) K1.o.1).zD.mono ?_)|(go_at_call 337;refine(uh.o _ (F0.o.trans K1.o.2) K1.o.1).pair.mono ?_));rintro e w2 ⟨rfl,k2,f2⟩))
  all_goals
   go_wp2_with fail;go_meet
   case rel=>exact⟨rfl,rfl,k2,K1.o.2.trans f2⟩
 case rest=>
  obtain⟨rfl,rfl,HR⟩:=hcut;clear c0 c1 c2 c3 fr d0 d1 d2 d3 fd o0 o1 o2 o3 ug uh hm1 hm2 E9 N9 R5 hs ht;obtain⟨e0,e1,e2,e3,fe⟩:=qR (CQ.o wc (F0.o.trans HR.o.2));obtain⟨o0,o1,o2,o3,fo⟩:=qR (OB.o wc HR.o.2);have g6:=HR.o.1.g.y;generalize jM r (jM l K).2=kr at *;generalize (jM l K).1=a at *;have NOTE:Hid (∀w2,Ck w2 c m B E (qB 6 own kr.2)->Fr c m wc.drew w2->(qG a tk&&qG kr.1 tk&&qG a kr.1)=false->yJ c m B E w (jM ⟨op,n,eH,pl,own,some l,some r⟩ K) (fM (eF (kk mk:Int))) w2):=fun w2 h3 h4 hf=>by rw[PO.o,hf];exact⟨rfl,h3,(F0.o.trans HR.o.2).drew.trans h4⟩
  have hkr':Px.K3 kr.1:=hkr;cases hf1:qG a tk
  ·go_wp2_with fail;refine(wz a tk hkl htk _).mono ?_;rintro r w2 ⟨rfl,rfl⟩;rw[hf1];go_wp2_with fail;go_region_with (go_at_call 316;refine(BJ c m B E 6 own (by decide) _ _ HR.o.1.drew).mono ?_;rintro r w2 ⟨rfl,h3,h4⟩)
   all_goals
    obtain⟨s0,s1,s2,s3,fs⟩:=qR (OB.o w2 (HR.o.2.drew.trans h4));go_wp2_with fail;go_ret;exact NOTE.o _ h3 h4 (by rw[hf1];rfl)
  cases hf2:qG kr.1 tk
  ·go_wp2_with fail;refine(wz a tk hkl htk _).mono ?_;rintro r w2 ⟨rfl,rfl⟩;rw[hf1];go_wp2_with fail;refine(wz kr.1 tk hkr' htk _).mono ?_;rintro r w2 ⟨rfl,rfl⟩;rw[hf2];go_wp2_with fail;go_region_with (go_at_call 316;refine(BJ c m B E 6 own (by decide) _ _ HR.o.1.drew).mono ?_;rintro r w2 ⟨rfl,h3,h4⟩)
   all_goals
    obtain⟨s0,s1,s2,s3,fs⟩:=qR (OB.o w2 (HR.o.2.drew.trans h4));go_wp2_with fail;go_ret;exact NOTE.o _ h3 h4 (by rw[hf1,hf2];rfl)
  cases hf3:qG a kr.1
  ·go_wp2_with fail;refine(wz a tk hkl htk _).mono ?_;rintro r w2 ⟨rfl,rfl⟩;rw[hf1];go_wp2_with fail;refine(wz kr.1 tk hkr' htk _).mono ?_;rintro r w2 ⟨rfl,rfl⟩;rw[hf2];go_wp2_with fail;refine(wz a kr.1 hkl hkr' _).mono ?_;rintro r w2 ⟨rfl,rfl⟩;rw[hf3];go_wp2_with fail;go_region_with (go_at_call 316;refine(BJ c m B E 6 own (by decide) _ _ HR.o.1.drew).mono ?_;rintro r w2 ⟨rfl,h3,h4⟩)
   all_goals
    obtain⟨s0,s1,s2,s3,fs⟩:=qR (OB.o w2 (HR.o.2.drew.trans h4));go_wp2_with fail;go_ret;exact NOTE.o _ h3 h4 (by rw[hf1,hf2,hf3];rfl)
  go_wp2_with fail;refine(wz a tk hkl htk _).mono ?_;rintro r w2 ⟨rfl,rfl⟩;rw[hf1];go_wp2_with fail;refine(wz kr.1 tk hkr' htk _).mono ?_;rintro r w2 ⟨rfl,rfl⟩;rw[hf2];go_wp2_with fail;refine(wz a kr.1 hkl hkr' _).mono ?_;rintro r w2 ⟨rfl,rfl⟩;rw[hf3];go_wp2_with fail;go_ret;rw[PO.o,hf1,hf2,hf3];exact⟨rfl,HR.o.1,F0.o.trans HR.o.2⟩
