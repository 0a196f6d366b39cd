import Derived.Test.YtgkhgealpneodaaGreatDoorG18
import Derived.Test.YtgkhgealpneodaaGreatDoorG16
set_option maxRecDepth 100000
set_option maxHeartbeats 4000000
namespace Go.Proofs.YtgkhgealpneodaaGreatDoor
open Go.RowKit
namespace Lg
open Px
theorem zhl(c m B q qv tl ql p:Nat)(x:dX)(E:Nat->Addr)(e:fG)(ie:tY c m B E e)(K:gM)(w:dY)(hq:q<B)(hc:w.heap[q]?=some (.cells #[Ref.ptr qv,.iface tl (Ref.ptr ql)] 286))(hx:kX w x p (· < B) qv)(he:ku w e (· < B) (.iface tl (Ref.ptr ql)))(h:Ck w c m B E K)(hv:V3 K):fI 312 #[fq q,fq c] w (uH c m B E w (uo x p (jM e K).1 (jM e K).2)):=by
 have ht:=he.ty;unfold Ref.ptr at hc;obtain⟨c0,c1,fr⟩:=sj hc;have CQ:Hid (∀W,Fr c m w W->W.heap[q]?=some (.cells #[fq qv,.iface tl (fq ql)] 286)):=fun W hW=>by rw[(h.fr hW).block q hq];exact hc
 have C0:Hid (lK w.drew c tl ql (yJ c m B E w.drew (jM e K))):=ie K _ tl ql he.drew h.drew hv;have C1:Hid (∀W,Fr c m w W->Ck W c m B E (jM e K).2->fI 314 #[fq c,fq qv,eF (kk (jM e K).1:Int)] W (uH c m B E W (uo x p (jM e K).1 (jM e K).2))):=fun W hW hK=>Js c m B qv p _ x E _ W hK (hx.keep fun i hi=>(h.fr hW).block i hi) (Hw e K hv) (Hu hv);have m1:=BK;have m2:=BL;have m3:=BM;have m4:=BN;have m5:=N8;clear ie hx he h hc;unfold Hy at ht;go_enter Tryz.func312,Tryz.ntmps312;go_wp2_with fail;obtain rfl|rfl|rfl|rfl|rfl:=ht
 ·go_region_with (first
   |(go_at_call 331;refine C0.o.num.mono ?_;rintro r w1 ⟨rfl,k1,f1⟩;obtain⟨e0,e1,fe⟩:=sj (CQ.o w1 ((Fr.refl c m w).drew.trans f1));have K1:Hid (Ck w1 c m B E (jM e K).2/\Fr c m w w1):=⟨k1,(Fr.refl c m w).drew.trans f1⟩;clear k1 f1)
   |(go_at_call 314;refine(C1.o _ K1.o.2 K1.o.1).mono ?_;rintro r w2 ⟨rfl,k2,f2⟩))
  all_goals
   go_wp2_with fail;go_end0
   exact⟨rfl,k2,K1.o.2.trans f2⟩
 ·go_region_with (first
   |(go_at_call 317;refine C0.o.var.mono ?_;rintro r w1 ⟨rfl,k1,f1⟩;obtain⟨e0,e1,fe⟩:=sj (CQ.o w1 ((Fr.refl c m w).drew.trans f1));have K1:Hid (Ck w1 c m B E (jM e K).2/\Fr c m w w1):=⟨k1,(Fr.refl c m w).drew.trans f1⟩;clear k1 f1)
   |(go_at_call 314;refine(C1.o _ K1.o.2 K1.o.1).mono ?_;rintro r w2 ⟨rfl,k2,f2⟩))
  all_goals
   go_wp2_with fail;go_end0
   exact⟨rfl,k2,K1.o.2.trans f2⟩
 ·go_region_with (first
   |(go_at_call 333;refine C0.o.J8.mono ?_;rintro r w1 ⟨rfl,k1,f1⟩;obtain⟨e0,e1,fe⟩:=sj (CQ.o w1 ((Fr.refl c m w).drew.trans f1));have K1:Hid (Ck w1 c m B E (jM e K).2/\Fr c m w w1):=⟨k1,(Fr.refl c m w).drew.trans f1⟩;clear k1 f1)
   |(go_at_call 314;refine(C1.o _ K1.o.2 K1.o.1).mono ?_;rintro r w2 ⟨rfl,k2,f2⟩))
  all_goals
   go_wp2_with fail;go_end0
   exact⟨rfl,k2,K1.o.2.trans f2⟩
 ·go_region_with (first
   |(go_at_call 335;refine C0.o.zD.mono ?_;rintro r w1 ⟨rfl,k1,f1⟩;obtain⟨e0,e1,fe⟩:=sj (CQ.o w1 ((Fr.refl c m w).drew.trans f1));have K1:Hid (Ck w1 c m B E (jM e K).2/\Fr c m w w1):=⟨k1,(Fr.refl c m w).drew.trans f1⟩;clear k1 f1)
   |(go_at_call 314;refine(C1.o _ K1.o.2 K1.o.1).mono ?_;rintro r w2 ⟨rfl,k2,f2⟩))
  all_goals
   go_wp2_with fail;go_end0
   exact⟨rfl,k2,K1.o.2.trans f2⟩
 go_region_with (first
  |(go_at_call 337;refine C0.o.pair.mono ?_;rintro r w1 ⟨rfl,k1,f1⟩;obtain⟨e0,e1,fe⟩:=sj (CQ.o w1 ((Fr.refl c m w).drew.trans f1));have K1:Hid (Ck w1 c m B E (jM e K).2/\Fr c m w w1):=⟨k1,(Fr.refl c m w).drew.trans f1⟩;clear k1 f1)
  |(go_at_call 314;refine(C1.o _ K1.o.2 K1.o.1).mono ?_;rintro r w2 ⟨rfl,k2,f2⟩))
 all_goals
  go_wp2_with fail;go_end0
  exact⟨rfl,k2,K1.o.2.trans f2⟩
theorem SE(c m B:Nat)(E:Nat->Addr)(x:Sm)(hw:xg x)(i1:q9 c m B E x.one)(i2:q9 c m B E x.two):OA c m B E x:=by
 intro K w tl ql hs h hv;obtain⟨v1,v2,u1,u2,⟨q,hq,hnd⟩,s1,l1,s2,l2⟩:=hs;obtain⟨h0,h1,qv,tl',xS,e,h2,h3,h4,h5⟩|⟨h0,h1,pa,ps,qn,h2,h3,h4,h5⟩|⟨h0,h1,qr,e,h2,h3,h4⟩|⟨h0,h1,h2⟩|⟨h0,h1,qn,h2,h3⟩|⟨h0,h1⟩:=hnd
 ·cases h1;have hx:sJ x K=uo x.eH x.pl (jM e K).1 (jM e K).2:=by unfold sJ;rw[aA h0,h4]
  rw[hx];exact ak ⟨rfl,zhl c m B _ qv tl' xS x.pl x.eH E e (vY c m B E e (hw.1 e h4)) K w hq h2 h3 h5 h hv⟩
 ·cases h1;have hx:sJ x K=iP x.n x.gZ 1 5 (tV x.gH x.gG (ou x.ex K)):=by unfold sJ;rw[ah (by omega),aA h0]
  rw[hx];exact aj (ak ⟨rfl,zdx c m B _ qn x.n x.gZ x.gG x.eH x.undo x.gH pa ps E x.ex (fun e he=>vY c m B E e (hw.1 e he)) K w hq h2 h3 h4 h5 h hv⟩)
 ·cases h1;have hx:sJ x K=kV x.two (kV x.one (uq e 98 K)):=by unfold sJ;rw[ah (by omega),ah (by omega),aA h0,h3]
  rw[hx];exact aj (aj (ak ⟨rfl,zn8 c m B _ qr E e (vY c m B E e (hw.1 e h3)) x.one x.two i1 i2 K w v1 v2 u1 u2 hq h2 h4 s1 l1 s2 l2 h hv⟩))
 ·cases h1;have hx:sJ x K=kV x.two (kV x.one K):=by unfold sJ;rw[ah (by omega),ah (by omega),ah (by omega),aA h0]
  rw[hx];exact aj (aj (aj (ak ⟨rfl,zeq c m B _ E x.one x.two i1 i2 K w v1 v2 u1 u2 hq h2 s1 l1 s2 l2 h hv⟩)))
 ·cases h1;have hx:sJ x K=kV x.one (iP x.n x.gZ 0 9 K):=by unfold sJ;rw[ah (by omega),ah (by omega),ah (by omega),ah (by omega),aA h0]
  rw[hx];exact aj (aj (aj (aj (ak ⟨rfl,qvl c m B _ qn x.n x.gZ E x.one i1 K w v1 u1 hq h2 h3 s1 l1 h hv⟩))))
 cases h1;have hx:sJ x K=K:=by unfold sJ;rw[ah (by omega),ah (by omega),ah (by omega),ah (by omega),ah (by omega)]
 rw[hx];exact aj (aj (aj (aj (aj ⟨rfl,zdf c m B _ E K w h⟩))))
theorem Ch(c m B:Nat)(E:Nat->Addr)(l:List Sm)(hw:jZ l):∀i(hi:i<l.length),OA c m B E l[i]:=by
 match l,hw with
 |[],_=>intro i hi;simp at hi
 |⟨op,eH,pl,ex,gH,gG,undo,n,gZ,one,two⟩::rest,hw=>
 obtain⟨w0,w1,w2,w3⟩:=Ak.1 hw;intro i hi;cases i with| zero=>exact SE c m B E _ w0 (Tc c m B E one (Ch c m B E one w1)) (Tc c m B E two (Ch c m B E two w2))| succ i=>exact Ch c m B E rest w3 i (by simpa using hi)
theorem qub(c m B:Nat)(E:Nat->Addr)(l:List Sm)(hw:jZ l):q9 c m B E l:=Tc c m B E l (Ch c m B E l hw)
