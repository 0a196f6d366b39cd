import Derived.Test.YtagpnplggopoeaaGreatDoorT17
import Derived.Test.YtagpnplggopoeaaGreatDoorT10
import Derived.Test.YtagpnplggopoeaaGreatDoorT14
set_option maxRecDepth 100000
set_option maxHeartbeats 4000000
namespace Go.Proofs.YtagpnplggopoeaaGreatDoor
open Go.RowKit
namespace Lg
theorem zhl (c m B q qv tl ql p:Nat) (x:ByteArray) (E:Nat→Addr) (e:Px.Ex) (ie:qco c m B E e) (K:Px.Lk) (w:World) (hq:q < B) (hc:w.heap[q]?=some (.cells #[Ref.ptr qv,.iface tl (Ref.ptr ql)] 253)) (hx:VarAt w x p (· < B) qv) (he:XAt w e (· < B) (.iface tl (Ref.ptr ql))) (h:Ck w c m B E K) (hv:Px.V3 K) :
  Calls Tryz.prog 278 #[.pointer (some ⟨q,0,none⟩),.pointer (some ⟨c,0,none⟩)] w (qin c m B E w (Px.qid x p (Px.qaj e K).1 (Px.qaj e K).2)):=by
 have ht:=he.ty;unfold Ref.ptr at hc;obtain ⟨c0,c1,fr⟩:=qck hc;have CQ:Hid (∀ W,Fr c m w W→W.heap[q]?=some (.cells #[.pointer (some ⟨qv,0,none⟩),.iface tl (.pointer (some ⟨ql,0,none⟩))] 253)):=fun W hW=>by rw[(h.fr hW).block q hq];exact hc
 have C0:Hid (KindC w.drew c tl ql (qe8 c m B E w.drew (Px.qaj e K))):=ie K _ tl ql he.drew h.drew hv;have C1:Hid (∀ W,Fr c m w W→Ck W c m B E (Px.qaj e K).2→Calls Tryz.prog 280 #[.pointer (some ⟨c,0,none⟩),.pointer (some ⟨qv,0,none⟩),.int .i64 (kk (Px.qaj e K).1:Int)] W (qin c m B E W (Px.qid x p (Px.qaj e K).1 (Px.qaj e K).2))):=fun W hW hK=>qlx c m B qv p _ x E _ W hK (hx.keep fun i hi=>(h.fr hW).block i hi) (Px.qdq e K hv) (Px.qdp hv)
 have m1:=mNum;have m2:=mVar;have m3:=mTru;have m4:=mNot;have m5:=qvz;clear ie hx he h hc;unfold Ty5 at ht;go_enter Tryz.func278,Tryz.ntmps278
 go_wp2_with fail;rcases ht with rfl | rfl | rfl | rfl | rfl
 ·go_region_with (first
   | (go_at_call 297;refine C0.out.num.mono ?_;rintro r w1 ⟨rfl,k1,f1⟩;obtain ⟨e0,e1,fe⟩:=qck (CQ.out w1 ((Fr.refl c m w).drew.trans f1));have K1:Hid (Ck w1 c m B E (Px.qaj e K).2∧Fr c m w w1):=⟨k1,(Fr.refl c m w).drew.trans f1⟩;clear k1 f1)
   | (go_at_call 280;refine (C1.out _ K1.out.2 K1.out.1).mono ?_;rintro r w2 ⟨rfl,k2,f2⟩))
  all_goals
   go_wp2_with fail;go_end0
   exact ⟨rfl,k2,K1.out.2.trans f2⟩
 ·go_region_with (first
   | (go_at_call 283;refine C0.out.var.mono ?_;rintro r w1 ⟨rfl,k1,f1⟩;obtain ⟨e0,e1,fe⟩:=qck (CQ.out w1 ((Fr.refl c m w).drew.trans f1));have K1:Hid (Ck w1 c m B E (Px.qaj e K).2∧Fr c m w w1):=⟨k1,(Fr.refl c m w).drew.trans f1⟩;clear k1 f1)
   | (go_at_call 280;refine (C1.out _ K1.out.2 K1.out.1).mono ?_;rintro r w2 ⟨rfl,k2,f2⟩))
  all_goals
   go_wp2_with fail;go_end0
   exact ⟨rfl,k2,K1.out.2.trans f2⟩
 ·go_region_with (first
   | (go_at_call 299;refine C0.out.tru.mono ?_;rintro r w1 ⟨rfl,k1,f1⟩;obtain ⟨e0,e1,fe⟩:=qck (CQ.out w1 ((Fr.refl c m w).drew.trans f1));have K1:Hid (Ck w1 c m B E (Px.qaj e K).2∧Fr c m w w1):=⟨k1,(Fr.refl c m w).drew.trans f1⟩;clear k1 f1)
   | (go_at_call 280;refine (C1.out _ K1.out.2 K1.out.1).mono ?_;rintro r w2 ⟨rfl,k2,f2⟩))
  all_goals
   go_wp2_with fail;go_end0
   exact ⟨rfl,k2,K1.out.2.trans f2⟩
 ·go_region_with (first
   | (go_at_call 301;refine C0.out.nots.mono ?_;rintro r w1 ⟨rfl,k1,f1⟩;obtain ⟨e0,e1,fe⟩:=qck (CQ.out w1 ((Fr.refl c m w).drew.trans f1));have K1:Hid (Ck w1 c m B E (Px.qaj e K).2∧Fr c m w w1):=⟨k1,(Fr.refl c m w).drew.trans f1⟩;clear k1 f1)
   | (go_at_call 280;refine (C1.out _ K1.out.2 K1.out.1).mono ?_;rintro r w2 ⟨rfl,k2,f2⟩))
  all_goals
   go_wp2_with fail;go_end0
   exact ⟨rfl,k2,K1.out.2.trans f2⟩
 ·go_region_with (first
   | (go_at_call 303;refine C0.out.pair.mono ?_;rintro r w1 ⟨rfl,k1,f1⟩;obtain ⟨e0,e1,fe⟩:=qck (CQ.out w1 ((Fr.refl c m w).drew.trans f1));have K1:Hid (Ck w1 c m B E (Px.qaj e K).2∧Fr c m w w1):=⟨k1,(Fr.refl c m w).drew.trans f1⟩;clear k1 f1)
   | (go_at_call 280;refine (C1.out _ K1.out.2 K1.out.1).mono ?_;rintro r w2 ⟨rfl,k2,f2⟩))
  all_goals
   go_wp2_with fail;go_end0
   exact ⟨rfl,k2,K1.out.2.trans f2⟩
open Go.RowKit
theorem qtw (c m B:Nat) (E:Nat→Addr) (x:Px.Sm) (hw:Px.WfH x) (i1:qfp c m B E x.one) (i2:qfp c m B E x.two):quu c m B E x:=by
 intro K w tl ql hs h hv;obtain ⟨v1,v2,u1,u2,⟨q,hq,hnd⟩,s1,l1,s2,l2⟩:=hs;rcases hnd with ⟨h0,h1,qv,tl',ql',e,h2,h3,h4,h5⟩ | ⟨h0,h1,pa,ps,qn,h2,h3,h4,h5⟩ | ⟨h0,h1,qr,e,h2,h3,h4⟩ | ⟨h0,h1,h2⟩ | ⟨h0,h1,qn,h2,h3⟩ | ⟨h0,h1⟩
 ·cases h1;have hx:Px.qef x K=Px.qid x.word x.pl (Px.qaj e K).1 (Px.qaj e K).2:=by unfold Px.qef;rw[if_pos h0,h4]
  rw[hx];exact Or.inl ⟨rfl,zhl c m B _ qv tl' ql' x.pl x.word E e (qcr c m B E e (hw.1 e h4)) K w hq h2 h3 h5 h hv⟩
 ·cases h1;have hx:Px.qef x K=Px.countP x.n x.nPl 1 5 (Px.asP x.asw x.asPl (Px.argP x.ex K)):=by unfold Px.qef;rw[if_neg (by omega),if_pos h0]
  rw[hx];exact Or.inr (Or.inl ⟨rfl,zdx c m B _ qn x.n x.nPl x.asPl x.word x.undo x.asw pa ps E x.ex (fun e he=>qcr c m B E e (hw.1 e he)) K w hq h2 h3 h4 h5 h hv⟩)
 ·cases h1;have hx:Px.qef x K=Px.qbz x.two (Px.qbz x.one (Px.qh4 e 98 K)):=by unfold Px.qef;rw[if_neg (by omega),if_neg (by omega),if_pos h0,h3]
  rw[hx];exact Or.inr (Or.inr (Or.inl ⟨rfl,zn8 c m B _ qr E e (qcr c m B E e (hw.1 e h3)) x.one x.two i1 i2 K w v1 v2 u1 u2 hq h2 h4 s1 l1 s2 l2 h hv⟩))
 ·cases h1;have hx:Px.qef x K=Px.qbz x.two (Px.qbz x.one K):=by unfold Px.qef;rw[if_neg (by omega),if_neg (by omega),if_neg (by omega),if_pos h0]
  rw[hx];exact Or.inr (Or.inr (Or.inr (Or.inl ⟨rfl,zeq c m B _ E x.one x.two i1 i2 K w v1 v2 u1 u2 hq h2 s1 l1 s2 l2 h hv⟩)))
 ·cases h1;have hx:Px.qef x K=Px.qbz x.one (Px.countP x.n x.nPl 0 9 K):=by unfold Px.qef;rw[if_neg (by omega),if_neg (by omega),if_neg (by omega),if_neg (by omega),if_pos h0]
  rw[hx];exact Or.inr (Or.inr (Or.inr (Or.inr (Or.inl ⟨rfl,qvl c m B _ qn x.n x.nPl E x.one i1 K w v1 u1 hq h2 h3 s1 l1 h hv⟩))))
 ·cases h1;have hx:Px.qef x K=K:=by unfold Px.qef;rw[if_neg (by omega),if_neg (by omega),if_neg (by omega),if_neg (by omega),if_neg (by omega)]
  rw[hx];exact Or.inr (Or.inr (Or.inr (Or.inr (Or.inr ⟨rfl,zdf c m B _ E K w h⟩))))
theorem qma (c m B:Nat) (E:Nat→Addr) (l:List Px.Sm) (hw:Px.WfS l):∀ i (hi:i < l.length),quu c m B E l[i]:=by
 match l,hw with
 | [],_=>intro i hi;simp at hi
 | ⟨op,word,pl,ex,asw,asPl,undo,n,nPl,one,two⟩::rest,hw =>
  obtain ⟨w0,w1,w2,w3⟩:=Px.qd7.1 hw;intro i hi;cases i with
  | zero=>exact qtw c m B E _ w0 (qjs c m B E one (qma c m B E one w1)) (qjs c m B E two (qma c m B E two w2))
  | succ i=>exact qma c m B E rest w3 i (by simpa using hi)
theorem qub (c m B:Nat) (E:Nat→Addr) (l:List Px.Sm) (hw:Px.WfS l):qfp c m B E l:=qjs c m B E l (qma c m B E l hw)
end Lg
end Go.Proofs.YtagpnplggopoeaaGreatDoor
