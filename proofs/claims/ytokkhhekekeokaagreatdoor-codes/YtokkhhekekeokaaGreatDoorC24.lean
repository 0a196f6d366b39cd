import Derived.Test.YtokkhhekekeokaaGreatDoorC23
import Derived.Test.YtokkhhekekeokaaGreatDoorC20
import Derived.Test.YtokkhhekekeokaaGreatDoorC22
import Derived.Test.YtokkhhekekeokaaGreatDoorC05
set_option maxRecDepth 100000
set_option maxHeartbeats 4000000
namespace Go.Proofs.YtokkhhekekeokaaGreatDoor
open Go.RowKit Tryz
namespace Lg
open Px
theorem zhl (c m B q qv tl ql p:Nat)(x:fq)(E:Nat->Addr)(e:Px.Ex)(ie:rQ c m B E e)(K:Px.Lk)(w:fu)(hq:q < B)(hc:w.heap[q]?=some (.cells #[Ref.ptr qv,.iface tl (Ref.ptr ql)] 232))(hx:jQ w x p (· < B) qv)(he:jv w e (· < B) (.iface tl (Ref.ptr ql)))(h:Ck w c m B E K)(hv:V3 K) :
  Calls prog 229 #[.pointer (some ⟨q,0,none⟩),.pointer (some ⟨c,0,none⟩)] w (sG c m B E w (rY x p (iP e K).1 (iP e K).2)):=by
 have ht:=he.ty;unfold Ref.ptr at hc;obtain ⟨c0,c1,fr⟩:=qN hc;have CQ:Hid (∀ W,Fr c m w W->W.heap[q]?=some (.cells #[.pointer (some ⟨qv,0,none⟩),.iface tl (.pointer (some ⟨ql,0,none⟩))] 232)):=fun W hW=>by rw[(h.fr hW).block q hq];exact hc
 have C0:Hid (ko w.drew c tl ql (xq c m B E w.drew (iP e K))):=ie K _ tl ql he.drew h.drew hv;have C1:Hid (∀ W,Fr c m w W->Ck W c m B E (iP e K).2->Calls prog 231 #[.pointer (some ⟨c,0,none⟩),.pointer (some ⟨qv,0,none⟩),.int .i64 (kk (iP e K).1:Int)] W (sG c m B E W (rY x p (iP e K).1 (iP e K).2))):=fun W hW hK=>Ic c m B qv p _ x E _ W hK (hx.keep fun i hi=>(h.fr hW).block i hi) (FP e K hv) (FN hv)
 have m1:=Ao;have m2:=Ap;have m3:=Aq;have m4:=Ar;have m5:=MX;clear ie hx he h hc;unfold FQ at ht;go_enter func229,ntmps229
 go_wp2_with fail;rcases ht with rfl | rfl | rfl | rfl | rfl
 ·go_region_with (first
   | (go_at_call 248;refine C0.o.num.mono ?_;rintro r w1 ⟨rfl,k1,f1⟩;obtain ⟨e0,e1,fe⟩:=qN (CQ.o w1 ((Fr.refl c m w).drew.trans f1));have K1:Hid (Ck w1 c m B E (iP e K).2/\Fr c m w w1):=⟨k1,(Fr.refl c m w).drew.trans f1⟩;clear k1 f1)
   | (go_at_call 231;refine (C1.o _ K1.o.2 K1.o.1).mono ?_;rintro r w2 ⟨rfl,k2,f2⟩))
  all_goals
   go_wp2_with fail;go_end0
   exact ⟨rfl,k2,K1.o.2.trans f2⟩
 ·go_region_with (first
   | (go_at_call 234;refine C0.o.var.mono ?_;rintro r w1 ⟨rfl,k1,f1⟩;obtain ⟨e0,e1,fe⟩:=qN (CQ.o w1 ((Fr.refl c m w).drew.trans f1));have K1:Hid (Ck w1 c m B E (iP e K).2/\Fr c m w w1):=⟨k1,(Fr.refl c m w).drew.trans f1⟩;clear k1 f1)
   | (go_at_call 231;refine (C1.o _ K1.o.2 K1.o.1).mono ?_;rintro r w2 ⟨rfl,k2,f2⟩))
  all_goals
   go_wp2_with fail;go_end0
   exact ⟨rfl,k2,K1.o.2.trans f2⟩
 ·go_region_with (first
   | (go_at_call 250;refine C0.o.I8.mono ?_;rintro r w1 ⟨rfl,k1,f1⟩;obtain ⟨e0,e1,fe⟩:=qN (CQ.o w1 ((Fr.refl c m w).drew.trans f1));have K1:Hid (Ck w1 c m B E (iP e K).2/\Fr c m w w1):=⟨k1,(Fr.refl c m w).drew.trans f1⟩;clear k1 f1)
   | (go_at_call 231;refine (C1.o _ K1.o.2 K1.o.1).mono ?_;rintro r w2 ⟨rfl,k2,f2⟩))
  all_goals
   go_wp2_with fail;go_end0
   exact ⟨rfl,k2,K1.o.2.trans f2⟩
 ·go_region_with (first
   | (go_at_call 252;refine C0.o.yw.mono ?_;rintro r w1 ⟨rfl,k1,f1⟩;obtain ⟨e0,e1,fe⟩:=qN (CQ.o w1 ((Fr.refl c m w).drew.trans f1));have K1:Hid (Ck w1 c m B E (iP e K).2/\Fr c m w w1):=⟨k1,(Fr.refl c m w).drew.trans f1⟩;clear k1 f1)
   | (go_at_call 231;refine (C1.o _ K1.o.2 K1.o.1).mono ?_;rintro r w2 ⟨rfl,k2,f2⟩))
  all_goals
   go_wp2_with fail;go_end0
   exact ⟨rfl,k2,K1.o.2.trans f2⟩
 ·go_region_with (first
   | (go_at_call 254;refine C0.o.pair.mono ?_;rintro r w1 ⟨rfl,k1,f1⟩;obtain ⟨e0,e1,fe⟩:=qN (CQ.o w1 ((Fr.refl c m w).drew.trans f1));have K1:Hid (Ck w1 c m B E (iP e K).2/\Fr c m w w1):=⟨k1,(Fr.refl c m w).drew.trans f1⟩;clear k1 f1)
   | (go_at_call 231;refine (C1.o _ K1.o.2 K1.o.1).mono ?_;rintro r w2 ⟨rfl,k2,f2⟩))
  all_goals
   go_wp2_with fail;go_end0
   exact ⟨rfl,k2,K1.o.2.trans f2⟩
theorem Q8 (c m B:Nat)(E:Nat->Addr)(x:Sm)(hw:vS x)(i1:xE c m B E x.one)(i2:xE c m B E x.two):Nr c m B E x:=by
 intro K w tl ql hs h hv;obtain ⟨v1,v2,u1,u2,⟨q,hq,hnd⟩,s1,l1,s2,l2⟩:=hs;rcases hnd with ⟨h0,h1,qv,tl',wE,e,h2,h3,h4,h5⟩ | ⟨h0,h1,pa,ps,qn,h2,h3,h4,h5⟩ | ⟨h0,h1,qr,e,h2,h3,h4⟩ | ⟨h0,h1,h2⟩ | ⟨h0,h1,qn,h2,h3⟩ | ⟨h0,h1⟩
 ·cases h1;have hx:qV x K=rY x.fD x.pl (iP e K).1 (iP e K).2:=by unfold qV;rw[if_pos h0,h4]
  rw[hx];exact ak ⟨rfl,zhl c m B _ qv tl' wE x.pl x.fD E e (uL c m B E e (hw.1 e h4)) K w hq h2 h3 h5 h hv⟩
 ·cases h1;have hx:qV x K=Px.countP x.n x.gG 1 5 (rM x.gu x.fZ (nD x.ex K)):=by unfold qV;rw[if_neg (by omega),if_pos h0]
  rw[hx];exact ah (ak ⟨rfl,zdx c m B _ qn x.n x.gG x.fZ x.fD x.undo x.gu pa ps E x.ex (fun e he=>uL c m B E e (hw.1 e he)) K w hq h2 h3 h4 h5 h hv⟩)
 ·cases h1;have hx:qV x K=jO x.two (jO x.one (rZ e 98 K)):=by unfold qV;rw[if_neg (by omega),if_neg (by omega),if_pos h0,h3]
  rw[hx];exact ah (ah (ak ⟨rfl,zn8 c m B _ qr E e (uL c m B E e (hw.1 e h3)) x.one x.two i1 i2 K w v1 v2 u1 u2 hq h2 h4 s1 l1 s2 l2 h hv⟩))
 ·cases h1;have hx:qV x K=jO x.two (jO x.one K):=by unfold qV;rw[if_neg (by omega),if_neg (by omega),if_neg (by omega),if_pos h0]
  rw[hx];exact ah (ah (ah (ak ⟨rfl,zeq c m B _ E x.one x.two i1 i2 K w v1 v2 u1 u2 hq h2 s1 l1 s2 l2 h hv⟩)))
 ·cases h1;have hx:qV x K=jO x.one (Px.countP x.n x.gG 0 9 K):=by unfold qV;rw[if_neg (by omega),if_neg (by omega),if_neg (by omega),if_neg (by omega),if_pos h0]
  rw[hx];exact ah (ah (ah (ah (ak ⟨rfl,qvl c m B _ qn x.n x.gG E x.one i1 K w v1 u1 hq h2 h3 s1 l1 h hv⟩))))
 ·cases h1;have hx:qV x K=K:=by unfold qV;rw[if_neg (by omega),if_neg (by omega),if_neg (by omega),if_neg (by omega),if_neg (by omega)]
  rw[hx];exact ah (ah (ah (ah (ah ⟨rfl,zdf c m B _ E K w h⟩))))
theorem AP (c m B:Nat)(E:Nat->Addr)(l:List Sm)(hw:jM l):∀ i (hi:i < l.length),Nr c m B E l[i]:=by
 match l,hw with
 | [],_=>intro i hi;simp at hi
 | ⟨op,fD,pl,ex,gu,fZ,undo,n,gG,one,two⟩::rest,hw =>
  obtain ⟨w0,w1,w2,w3⟩:=zi.1 hw;intro i hi;cases i with
  | zero=>exact Q8 c m B E _ w0 (Ru c m B E one (AP c m B E one w1)) (Ru c m B E two (AP c m B E two w2))
  | succ i=>exact AP c m B E rest w3 i (by simpa using hi)
theorem qub (c m B:Nat)(E:Nat->Addr)(l:List Sm)(hw:jM l):xE c m B E l:=Ru c m B E l (AP c m B E l hw)
def lX (o:List UInt8):List fC:=o.map fun c=>Value.int .u8 (c.toNat:Int)
theorem zd2 (o:List UInt8):(lX o).length=o.length:=by simp[lX]
theorem Ry:(prog.info? 5).map (fun i=>(i.zero,i.size,i.bytes))=some (some (.int .u8 0),1,1):=by kernel_rfl
theorem Rz (o t:List UInt8):lX (o++t)=lX o++lX t:=by simp[lX]
theorem RB (t:fq):Lib.strCells t=lX t.data.toList:=rfl
