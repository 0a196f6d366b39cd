import Derived.Test.YtagpnplggopoeaaGreatDoorT12
set_option maxRecDepth 100000
set_option maxHeartbeats 20000000
namespace Go.Proofs.YtagpnplggopoeaaGreatDoor
open Go.RowKit
namespace Lg
theorem zf8 (c m B:Nat) (E:Nat→Addr) (op n:Nat) (word:ByteArray) (pl own:Nat) (l r:Px.Ex) (hop:Op7 op) (ihl:qco c m B E l) (ihr:qco c m B E r) (K:Px.Lk) (w:World) (q tl ql tr qr:Nat) (hq:q < B)
  (hc:w.heap[q]?=some (.cells #[.int .i64 (opIx op:Int),.iface tl (Ref.ptr ql),.iface tr (Ref.ptr qr),.int .i64 (own:Int)] 309)) (hx:XAt w l (· < B) (.iface tl (Ref.ptr ql))) (hy:XAt w r (· < B) (.iface tr (Ref.ptr qr))) (h:Ck w c m B E K) (hv:Px.V3 K) :
  Calls Tryz.prog 303 #[.pointer (some ⟨q,0,none⟩),.pointer (some ⟨c,0,none⟩)] w (qe8 c m B E w (Px.qaj ⟨op,n,word,pl,own,some l,some r⟩ K)):=by
 obtain ⟨o0,o1,o2,o3⟩:=qja h.g hop;have hix:=qkr op;have hs:=hy.ty;have ht:=hx.ty;have PO:Hid (Px.qaj ⟨op,n,word,pl,own,some l,some r⟩ K=Px.binP op own (Px.qaj l K).1 (Px.qaj r (Px.qaj l K).2)):=by unfold Hid;rw[Px.qaj]
 have hkl:=Px.qdq l K hv;have hkr:=Px.qdq r (Px.qaj l K).2 (Px.qdp hv);have htk:Px.K3 (Px.qfx op):=qk2;unfold Px.binP at PO;unfold Ref.ptr at hc;have hcw:c < w.heap.size:=by obtain ⟨pf,h1,_⟩:=h.ex;exact lt_of_block h1
 have hmw:m < w.heap.size:=by obtain ⟨pf,h1,h2,h3,⟨es,ck,h4,_⟩,_⟩:=h.ex;exact lt_of_block h4
 have hqc:q≠c:=by have:=h.bc;omega
 have hqm:q≠m:=by obtain ⟨pf,h1,h2,_⟩:=h.ex;omega
 have hqw:=lt_of_block hc;generalize opIx op=i at *;generalize htkd:Px.qfx op=tk at *;generalize hmkd:Px.qjg op=mk at *;have CQ:Hid (∀ W,Fr c m w W→W.heap[q]?=some (.cells #[.int .i64 (i:Int),.iface tl (.pointer (some ⟨ql,0,none⟩)),.iface tr (.pointer (some ⟨qr,0,none⟩)),.int .i64 (own:Int)] 309)):=fun W hW=>by rw[hW.block q hqw hqc hqm];exact hc
 have F0:Hid (Fr c m w (qbv w i tk mk)):=(Fr.refl c m w).alloc _;have CALLL:Hid (KindC (qbv w i tk mk).drew c tl ql (qe8 c m B E (qbv w i tk mk).drew (Px.qaj l K))):=ihl K _ tl ql (hx.keep fun k hk=>F0.out.drew.block k (by have:=h.bc;omega) (by have:=h.bc;omega) (by obtain ⟨pf,h1,h2,_⟩:=h.ex;omega)) (h.alloc _).drew hv
 have CALLR:Hid (∀ W,Fr c m w W→Ck W c m B E (Px.qaj l K).2→KindC W c tr qr (qe8 c m B E W (Px.qaj r (Px.qaj l K).2))):=fun W hW hK=>ihr _ W tr qr (hy.keep fun k hk=>hW.block k (by have:=h.bc;omega) (by have:=h.bc;omega) (by obtain ⟨pf,h1,h2,_⟩:=h.ex;omega)) hK (Px.qdp hv)
 have OB:Hid (∀ W,Fr c m (qbv w i tk mk) W→W.heap[w.heap.size]?=some (.cells #[.string (tx i),.int .i64 (lv i),.int .i64 (kk tk:Int),.int .i64 (kk mk:Int)] 354)):=fun W hW=>by rw[hW.block _ (by simp[qbv]) (by omega) (by omega)];exact new1
 obtain ⟨c0,c1,c2,c3,fr⟩:=qau hc;obtain ⟨d0,d1,d2,d3,fd⟩:=qau (CQ.out _ F0.out.drew);clear ihl ihr hx hy h hc hop;unfold Ty5 at hs ht;have hm1:=mNum;have hm2:=mVar;have hm3:=mTru;have hm4:=mNot;have hm5:=qvz;go_enter Tryz.func303,Tryz.ntmps303
 go_wp2_with fail;go_cut [6,7] (fun vl vr wc=>vl=.int .i64 (kk (Px.qaj l K).1:Int)∧vr=.int .i64 (kk (Px.qaj r (Px.qaj l K).2).1:Int)∧Hid (Ck wc c m B E (Px.qaj r (Px.qaj l K).2).2∧Fr c m (qbv w i tk mk) wc))
 case first =>
  rcases ht with rfl | rfl | rfl | rfl | rfl<;>rcases hs with rfl | rfl | rfl | rfl | rfl
  all_goals go_region_with (first
   | ((fail_if_success (have _:=K1));(first | (go_at_call 297;refine CALLL.out.num.mono ?_) | (go_at_call 283;refine CALLL.out.var.mono ?_) | (go_at_call 299;refine CALLL.out.tru.mono ?_) | (go_at_call 301;refine CALLL.out.nots.mono ?_) | (go_at_call 303;refine CALLL.out.pair.mono ?_));rintro e w1 ⟨rfl,k1,f1⟩;obtain ⟨e0,e1,e2,e3,fe⟩:=qau (CQ.out w1 (F0.out.drew.trans f1));have K1:Hid (Ck w1 c m B E (Px.qaj l K).2∧Fr c m (qbv w i tk mk) w1):=⟨k1,(Fr.refl c m _).drew.trans f1⟩;clear k1 f1)
   | ((first | (go_at_call 297;refine (CALLR.out _ (F0.out.trans K1.out.2) K1.out.1).num.mono ?_) | (go_at_call 283;refine (CALLR.out _ (F0.out.trans K1.out.2) K1.out.1).var.mono ?_) | (go_at_call 299;refine (CALLR.out _ (F0.out.trans K1.out.2) K1.out.1).tru.mono ?_) | (go_at_call 301;refine (CALLR.out _ (F0.out.trans K1.out.2) K1.out.1).nots.mono ?_) | (go_at_call 303;refine (CALLR.out _ (F0.out.trans K1.out.2) K1.out.1).pair.mono ?_));rintro e w2 ⟨rfl,k2,f2⟩))
  all_goals
   go_wp2_with fail;go_meet
   case rel=>exact ⟨rfl,rfl,k2,K1.out.2.trans f2⟩
 case rest =>
  obtain ⟨rfl,rfl,HR⟩:=hcut;clear c0 c1 c2 c3 fr d0 d1 d2 d3 fd o0 o1 o2 o3 CALLL CALLR hm1 hm2 hm3 hm4 hm5 hs ht;obtain ⟨e0,e1,e2,e3,fe⟩:=qau (CQ.out wc (F0.out.trans HR.out.2));obtain ⟨o0,o1,o2,o3,fo⟩:=qau (OB.out wc HR.out.2);have g6:=HR.out.1.g.y;generalize Px.qaj r (Px.qaj l K).2=kr at *;generalize (Px.qaj l K).1=a at *;have NOTE:Hid (∀ w2,Ck w2 c m B E (Px.qew 6 own kr.2)→Fr c m wc.drew w2→(Px.qcd a tk && Px.qcd kr.1 tk && Px.qcd a kr.1)=false→qe8 c m B E w (Px.qaj ⟨op,n,word,pl,own,some l,some r⟩ K) (.returned (.int .i64 (kk mk:Int))) w2):=fun w2 h3 h4 hf=>by
   rw[PO.out,hf];exact ⟨rfl,h3,(F0.out.trans HR.out.2).drew.trans h4⟩
  have hkr':Px.K3 kr.1:=hkr;cases hf1:Px.qcd a tk
  ·go_wp2_with fail;refine (qaq a tk hkl htk _).mono ?_;rintro r w2 ⟨rfl,rfl⟩;rw[hf1];go_wp2_with fail;go_region_with (go_at_call 282;refine (qbx c m B E 6 own (by decide) _ _ HR.out.1.drew).mono ?_;rintro r w2 ⟨rfl,h3,h4⟩)
   all_goals
    obtain ⟨s0,s1,s2,s3,fs⟩:=qau (OB.out w2 (HR.out.2.drew.trans h4));go_wp2_with fail;go_ret;exact NOTE.out _ h3 h4 (by rw[hf1];rfl)
  ·cases hf2:Px.qcd kr.1 tk
   ·go_wp2_with fail;refine (qaq a tk hkl htk _).mono ?_;rintro r w2 ⟨rfl,rfl⟩;rw[hf1];go_wp2_with fail;refine (qaq kr.1 tk hkr' htk _).mono ?_;rintro r w2 ⟨rfl,rfl⟩;rw[hf2];go_wp2_with fail;go_region_with (go_at_call 282;refine (qbx c m B E 6 own (by decide) _ _ HR.out.1.drew).mono ?_;rintro r w2 ⟨rfl,h3,h4⟩)
    all_goals
     obtain ⟨s0,s1,s2,s3,fs⟩:=qau (OB.out w2 (HR.out.2.drew.trans h4));go_wp2_with fail;go_ret;exact NOTE.out _ h3 h4 (by rw[hf1,hf2];rfl)
   ·cases hf3:Px.qcd a kr.1
    ·go_wp2_with fail;refine (qaq a tk hkl htk _).mono ?_;rintro r w2 ⟨rfl,rfl⟩;rw[hf1];go_wp2_with fail;refine (qaq kr.1 tk hkr' htk _).mono ?_;rintro r w2 ⟨rfl,rfl⟩;rw[hf2];go_wp2_with fail;refine (qaq a kr.1 hkl hkr' _).mono ?_;rintro r w2 ⟨rfl,rfl⟩;rw[hf3];go_wp2_with fail;go_region_with (go_at_call 282;refine (qbx c m B E 6 own (by decide) _ _ HR.out.1.drew).mono ?_;rintro r w2 ⟨rfl,h3,h4⟩)
     all_goals
      obtain ⟨s0,s1,s2,s3,fs⟩:=qau (OB.out w2 (HR.out.2.drew.trans h4));go_wp2_with fail;go_ret;exact NOTE.out _ h3 h4 (by rw[hf1,hf2,hf3];rfl)
    ·go_wp2_with fail;refine (qaq a tk hkl htk _).mono ?_;rintro r w2 ⟨rfl,rfl⟩;rw[hf1];go_wp2_with fail;refine (qaq kr.1 tk hkr' htk _).mono ?_;rintro r w2 ⟨rfl,rfl⟩;rw[hf2];go_wp2_with fail;refine (qaq a kr.1 hkl hkr' _).mono ?_;rintro r w2 ⟨rfl,rfl⟩;rw[hf3];go_wp2_with fail;go_ret;rw[PO.out,hf1,hf2,hf3];exact ⟨rfl,HR.out.1,F0.out.trans HR.out.2⟩
end Lg
end Go.Proofs.YtagpnplggopoeaaGreatDoor
