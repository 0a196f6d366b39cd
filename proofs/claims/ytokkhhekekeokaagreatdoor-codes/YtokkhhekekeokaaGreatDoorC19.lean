import Derived.Test.YtokkhhekekeokaaGreatDoorC18
set_option maxRecDepth 100000
set_option maxHeartbeats 20000000
namespace Go.Proofs.YtokkhhekekeokaaGreatDoor
open Go.RowKit Tryz
namespace Lg
open Px
theorem zf8 (c m B:Nat)(E:Nat->Addr)(op n:Nat)(fD:fq)(pl own:Nat)(l r:Px.Ex)(hop:X5 op)(ihl:rQ c m B E l)(ihr:rQ c m B E r)(K:Px.Lk)(w:fu)(q tl ql tr qr:Nat)(hq:q < B)(hc:w.heap[q]?=some (.cells #[.int .i64 (jd op:Int),.iface tl (Ref.ptr ql),.iface tr (Ref.ptr qr),.int .i64 (own:Int)] 297))(hx:jv w l (· < B) (.iface tl (Ref.ptr ql)))(hy:jv w r (· < B) (.iface tr (Ref.ptr qr)))(h:Ck w c m B E K)(hv:V3 K) :
  Calls prog 254 #[.pointer (some ⟨q,0,none⟩),.pointer (some ⟨c,0,none⟩)] w (xq c m B E w (iP ⟨op,n,fD,pl,own,some l,some r⟩ K)):=by
 obtain ⟨o0,o1,o2,o3⟩:=qja h.g hop;have hix:=qkr op;have hs:=hy.ty;have ht:=hx.ty;have PO:Hid (iP ⟨op,n,fD,pl,own,some l,some r⟩ K=uF op own (iP l K).1 (iP r (iP l K).2)):=by unfold Hid;rw[iP]
 have hkl:=FP l K hv;have hkr:=FP r (iP l K).2 (FN hv);have htk:Px.K3 (zM op):=qk2;unfold uF at PO;unfold Ref.ptr at hc;have hcw:c < w.heap.size:=by obtain ⟨pf,h1,_⟩:=h.ex;exact lt_of_block h1
 have hmw:m < w.heap.size:=by obtain ⟨pf,h1,h2,h3,⟨es,ck,h4,_⟩,_⟩:=h.ex;exact lt_of_block h4
 have hqc:q≠c:=by have:=h.bc;omega
 have hqm:q≠m:=by obtain ⟨pf,h1,h2,_⟩:=h.ex;omega
 have Fe:=lt_of_block hc;generalize jd op=i at *;generalize htkd:zM op=tk at *;generalize hmkd:Cv op=mk at *;have CQ:Hid (∀ W,Fr c m w W->W.heap[q]?=some (.cells #[.int .i64 (i:Int),.iface tl (.pointer (some ⟨ql,0,none⟩)),.iface tr (.pointer (some ⟨qr,0,none⟩)),.int .i64 (own:Int)] 297)):=fun W hW=>by rw[hW.block q Fe hqc hqm];exact hc
 have F0:Hid (Fr c m w (DX w i tk mk)):=(Fr.refl c m w).alloc _;have rT:Hid (ko (DX w i tk mk).drew c tl ql (xq c m B E (DX w i tk mk).drew (iP l K))):=ihl K _ tl ql (hx.keep fun k hk=>F0.o.drew.block k (by have:=h.bc;omega) (by have:=h.bc;omega) (by obtain ⟨pf,h1,h2,_⟩:=h.ex;omega)) (h.alloc _).drew hv
 have rU:Hid (∀ W,Fr c m w W->Ck W c m B E (iP l K).2->ko W c tr qr (xq c m B E W (iP r (iP l K).2))):=fun W hW hK=>ihr _ W tr qr (hy.keep fun k hk=>hW.block k (by have:=h.bc;omega) (by have:=h.bc;omega) (by obtain ⟨pf,h1,h2,_⟩:=h.ex;omega)) hK (FN hv)
 have OB:Hid (∀ W,Fr c m (DX w i tk mk) W->W.heap[w.heap.size]?=some (.cells #[.string (tx i),.int .i64 (lv i),.int .i64 (kk tk:Int),.int .i64 (kk mk:Int)] 335)):=fun W hW=>by rw[hW.block _ (by simp[DX]) (by omega) (by omega)];exact new1
 obtain ⟨c0,c1,c2,c3,fr⟩:=pq hc;obtain ⟨d0,d1,d2,d3,fd⟩:=pq (CQ.o _ F0.o.drew);clear ihl ihr hx hy h hc hop;unfold FQ at hs ht;have hm1:=Ao;have hm2:=Ap;have FL:=Aq;have QG:=Ar;have QH:=MX;go_enter func254,ntmps254
 go_wp2_with fail;go_cut [6,7] (fun vl vr wc=>vl=.int .i64 (kk (iP l K).1:Int)/\vr=.int .i64 (kk (iP r (iP l K).2).1:Int)/\Hid (Ck wc c m B E (iP r (iP l K).2).2/\Fr c m (DX w i tk mk) wc))
 case first =>
  rcases ht with rfl | rfl | rfl | rfl | rfl<;>rcases hs with rfl | rfl | rfl | rfl | rfl
  all_goals go_region_with (first
   | ((fail_if_success (have _:=K1));(first | (go_at_call 248;refine rT.o.num.mono ?_) | (go_at_call 234;refine rT.o.var.mono ?_) | (go_at_call 250;refine rT.o.I8.mono ?_) | (go_at_call 252;refine rT.o.yw.mono ?_) | (go_at_call 254;refine rT.o.pair.mono ?_));rintro e w1 ⟨rfl,k1,f1⟩;obtain ⟨e0,e1,e2,e3,fe⟩:=pq (CQ.o w1 (F0.o.drew.trans f1));have K1:Hid (Ck w1 c m B E (iP l K).2/\Fr c m (DX w i tk mk) w1):=⟨k1,(Fr.refl c m _).drew.trans f1⟩;clear k1 f1)
   | ((first | (go_at_call 248;refine (rU.o _ (F0.o.trans K1.o.2) K1.o.1).num.mono ?_) | (go_at_call 234;refine (rU.o _ (F0.o.trans K1.o.2) K1.o.1).var.mono ?_) | (go_at_call 250;refine (rU.o _ (F0.o.trans K1.o.2) K1.o.1).I8.mono ?_) | (go_at_call 252;refine (rU.o _ (F0.o.trans K1.o.2) K1.o.1).yw.mono ?_) | (go_at_call 254;refine (rU.o _ (F0.o.trans K1.o.2) K1.o.1).pair.mono ?_));rintro e w2 ⟨rfl,k2,f2⟩))
  all_goals
   go_wp2_with fail;go_meet
   case rel=>exact ⟨rfl,rfl,k2,K1.o.2.trans f2⟩
 case rest =>
  obtain ⟨rfl,rfl,HR⟩:=hcut;clear c0 c1 c2 c3 fr d0 d1 d2 d3 fd o0 o1 o2 o3 rT rU hm1 hm2 FL QG QH hs ht;obtain ⟨e0,e1,e2,e3,fe⟩:=pq (CQ.o wc (F0.o.trans HR.o.2));obtain ⟨o0,o1,o2,o3,fo⟩:=pq (OB.o wc HR.o.2);have g6:=HR.o.1.g.y;generalize iP r (iP l K).2=kr at *;generalize (iP l K).1=a at *;have NOTE:Hid (∀ w2,Ck w2 c m B E (pF 6 own kr.2)->Fr c m wc.drew w2->(pQ a tk && pQ kr.1 tk && pQ a kr.1)=false->xq c m B E w (iP ⟨op,n,fD,pl,own,some l,some r⟩ K) (.returned (.int .i64 (kk mk:Int))) w2):=fun w2 h3 h4 hf=>by
   rw[PO.o,hf];exact ⟨rfl,h3,(F0.o.trans HR.o.2).drew.trans h4⟩
  have hkr':Px.K3 kr.1:=hkr;cases hf1:pQ a tk
  ·go_wp2_with fail;refine (uR a tk hkl htk _).mono ?_;rintro r w2 ⟨rfl,rfl⟩;rw[hf1];go_wp2_with fail;go_region_with (go_at_call 233;refine (Am c m B E 6 own (by decide) _ _ HR.o.1.drew).mono ?_;rintro r w2 ⟨rfl,h3,h4⟩)
   all_goals
    obtain ⟨s0,s1,s2,s3,fs⟩:=pq (OB.o w2 (HR.o.2.drew.trans h4));go_wp2_with fail;go_ret;exact NOTE.o _ h3 h4 (by rw[hf1];rfl)
  ·cases hf2:pQ kr.1 tk
   ·go_wp2_with fail;refine (uR a tk hkl htk _).mono ?_;rintro r w2 ⟨rfl,rfl⟩;rw[hf1];go_wp2_with fail;refine (uR kr.1 tk hkr' htk _).mono ?_;rintro r w2 ⟨rfl,rfl⟩;rw[hf2];go_wp2_with fail;go_region_with (go_at_call 233;refine (Am c m B E 6 own (by decide) _ _ HR.o.1.drew).mono ?_;rintro r w2 ⟨rfl,h3,h4⟩)
    all_goals
     obtain ⟨s0,s1,s2,s3,fs⟩:=pq (OB.o w2 (HR.o.2.drew.trans h4));go_wp2_with fail;go_ret;exact NOTE.o _ h3 h4 (by rw[hf1,hf2];rfl)
   ·cases hf3:pQ a kr.1
    ·go_wp2_with fail;refine (uR a tk hkl htk _).mono ?_;rintro r w2 ⟨rfl,rfl⟩;rw[hf1];go_wp2_with fail;refine (uR kr.1 tk hkr' htk _).mono ?_;rintro r w2 ⟨rfl,rfl⟩;rw[hf2];go_wp2_with fail;refine (uR a kr.1 hkl hkr' _).mono ?_;rintro r w2 ⟨rfl,rfl⟩;rw[hf3];go_wp2_with fail;go_region_with (go_at_call 233;refine (Am c m B E 6 own (by decide) _ _ HR.o.1.drew).mono ?_;rintro r w2 ⟨rfl,h3,h4⟩)
     all_goals
      obtain ⟨s0,s1,s2,s3,fs⟩:=pq (OB.o w2 (HR.o.2.drew.trans h4));go_wp2_with fail;go_ret;exact NOTE.o _ h3 h4 (by rw[hf1,hf2,hf3];rfl)
    ·go_wp2_with fail;refine (uR a tk hkl htk _).mono ?_;rintro r w2 ⟨rfl,rfl⟩;rw[hf1];go_wp2_with fail;refine (uR kr.1 tk hkr' htk _).mono ?_;rintro r w2 ⟨rfl,rfl⟩;rw[hf2];go_wp2_with fail;refine (uR a kr.1 hkl hkr' _).mono ?_;rintro r w2 ⟨rfl,rfl⟩;rw[hf3];go_wp2_with fail;go_ret;rw[PO.o,hf1,hf2,hf3];exact ⟨rfl,HR.o.1,F0.o.trans HR.o.2⟩
