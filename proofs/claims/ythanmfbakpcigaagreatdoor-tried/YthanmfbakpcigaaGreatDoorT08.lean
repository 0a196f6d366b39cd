import Derived.Test.YthanmfbakpcigaaGreatDoorT07
import Derived.Deep.DeepCutAuto
import Derived.Test.YthanmfbakpcigaaGreatDoorT02
set_option maxRecDepth 100000
set_option maxHeartbeats 2000000
namespace Go.Proofs.YthanmfbakpcigaaGreatDoor
open Go.RowKit
namespace Ref
theorem zhf (c:Nat) (x:Px.Sm) (hop:x.op=102):qkj c x:=by
 intro k w ok q hx hok hl hw h1 h2 hc;obtain ⟨hq,ve,v1,v2,q1,q2,hv,_⟩:=hx;obtain ⟨d0,d1,d2,d3,d4,d5,d6,d7,d8,d9,d10,df⟩:=qaa hv;rw[hop] at d0;have HL:Hid (_):=hl;have e1:Hid (Px.qcc x k=k):=by unfold Hid Px.qcc;simp[hop]
 clear hl hv hok hw h1 h2;go_enter Tryz.func48,Tryz.ntmps48
 go_wp2_with fail;go_end0
 rw[e1.out];exact ⟨rfl,HL.out,Below.refl _ _⟩
theorem zm9 (c:Nat) (x:Px.Sm) (hop:x.op=116) (i1:qio c x.one) (i2:qio c x.two):qkj c x:=by
 intro k w ok q hx hok hl hw h1 h2 hc;obtain ⟨hq,ve,v1,v2,q1,q2,hv,e3,e4,e5,e6,e7⟩:=hx;obtain ⟨d0,d1,d2,d3,d4,d5,d6,d7,d8,d9,d10,df⟩:=qaa hv;rw[hop] at d0;have hqc:=hok q hq;have HL:Hid (LkAt w c k∧(∀ i,ok i→i < c)∧(SlAt w v1 q1 ok∧SmsAt w x.one ok q1)∧(SlAt w v2 q2 ok∧SmsAt w x.two ok q2)∧Px.WfS x.one∧Px.WfS x.two∧w.heap[q]?=some (.cells (qay x ve v1 v2) 218)):=⟨hl,hok,⟨e4,e5⟩,⟨e6,e7⟩,h1,h2,hv⟩;have hv1:=Px.qdh x.one k;have eX:Hid (Px.qcc x k=Px.qap x.two (Px.qap x.one k)):=by unfold Hid Px.qcc;simp[hop]
 clear hl hv hok hw h1 h2 e3 e4 e5 e6 e7;obtain ⟨a1,n1,c1,rfl⟩:∃ a n c,v1=.slice a n c:=by obtain ⟨a,c',h,_⟩:=HL.out.2.2.1.1.len;exact ⟨_,_,_,h⟩
 obtain ⟨a2,n2,c2,rfl⟩:∃ a n c,v2=.slice a n c:=by obtain ⟨a,c',h,_⟩:=HL.out.2.2.2.1.1.len;exact ⟨_,_,_,h⟩
 go_enter Tryz.func48,Tryz.ntmps48
 go_wp2_with fail;refine (i1 k _ ok _ q1 HL.out.2.2.1.1 HL.out.2.2.1.2 HL.out.2.1 HL.out.1 HL.out.2.2.2.2.1 (by omega)).mono ?_
 rintro e w1 ⟨rfl,l1,b1⟩;have hh1:w1.heap[q]?=_:=(b1.block q hqc).trans HL.out.2.2.2.2.2.2;obtain ⟨f0,f1,f2,f3,f4,f5,f6,f7,f8,f9,f10,ff⟩:=qaa hh1;have hk:∀ i,ok i→w1.heap[i]?=w.heap[i]?:=fun i hi=>b1.block i (HL.out.2.1 i hi)
 have L1:Hid (LkAt w1 c (Px.qap x.one k)∧Below c w w1∧SlAt w1 _ q2 ok∧SmsAt w1 x.two ok q2):=⟨l1,b1,HL.out.2.2.2.1.1.keep hk,HL.out.2.2.2.1.2.keep hk⟩;clear l1 b1 hh1 hk d0 d1 d2 d3 d4 d5 d6 d7 d8 d9 d10 df;go_wp2_with fail;refine (i2 _ _ ok _ q2 L1.out.2.2.1 L1.out.2.2.2 HL.out.2.1 L1.out.1 HL.out.2.2.2.2.2.1 (by omega)).mono ?_
 rintro e w2 ⟨rfl,l2,b2⟩;have L2:Hid (_∧_):=⟨l2,b2⟩;clear l2 b2;go_wp2_with fail;go_end0
 rw[eX.out];exact ⟨rfl,L2.out.1,L1.out.2.1.trans L2.out.2⟩
theorem zna (c:Nat) (x:Px.Sm) (hop:x.op=114) (i1:qio c x.one):qkj c x:=by
 intro k w ok q hx hok hl hw h1 h2 hc;obtain ⟨hq,ve,v1,v2,q1,q2,hv,e3,e4,e5,e6,e7⟩:=hx;obtain ⟨d0,d1,d2,d3,d4,d5,d6,d7,d8,d9,d10,df⟩:=qaa hv;rw[hop] at d0;have hqc:=hok q hq;have HL:Hid (LkAt w c k∧(∀ i,ok i→i < c)∧(SlAt w v1 q1 ok∧SmsAt w x.one ok q1)∧Px.WfS x.one∧w.heap[q]?=some (.cells (qay x ve v1 v2) 218)):=⟨hl,hok,⟨e4,e5⟩,h1,hv⟩;clear hl hv hok hw h1 h2 e3 e4 e5 e6 e7;obtain ⟨a1,n1,c1,rfl⟩:∃ a n c,v1=.slice a n c:=by obtain ⟨a,c',h,_⟩:=HL.out.2.2.1.1.len;exact ⟨_,_,_,h⟩
 by_cases h9:9 < x.n
 ·have eX:Hid (Px.qcc x k=Px.qap x.one (Px.say 4 x.nPl k)):=by unfold Hid Px.qcc;simp[hop,h9]
  have hv1:=Px.qgc 4 x.nPl k;have HV:Hid (_):=hv1;clear hv1;go_enter Tryz.func48,Tryz.ntmps48
  go_wp2_with fail;refine (qey c 4 x.nPl k _ HL.out.1).mono ?_;rintro e w1 ⟨rfl,l1,b1⟩;have hh1:w1.heap[q]?=_:=(b1.block q hqc).trans HL.out.2.2.2.2;obtain ⟨f0,f1,f2,f3,f4,f5,f6,f7,f8,f9,f10,ff⟩:=qaa hh1;have hk:∀ i,ok i→w1.heap[i]?=w.heap[i]?:=fun i hi=>b1.block i (HL.out.2.1 i hi)
  have L1:Hid (LkAt w1 c (Px.say 4 x.nPl k)∧Below c w w1∧SlAt w1 _ q1 ok∧SmsAt w1 x.one ok q1):=⟨l1,b1,HL.out.2.2.1.1.keep hk,HL.out.2.2.1.2.keep hk⟩;clear l1 b1 hh1 hk d0 d1 d2 d3 d4 d5 d6 d7 d8 d9 d10 df;go_wp2_with fail;refine (i1 _ _ ok _ q1 L1.out.2.2.1 L1.out.2.2.2 HL.out.2.1 L1.out.1 HL.out.2.2.2.1 (by rw[HV.out];omega)).mono ?_
  rintro e w2 ⟨rfl,l2,b2⟩;have L2:Hid (_∧_):=⟨l2,b2⟩;clear l2 b2;go_wp2_with fail;go_end0
  rw[eX.out];exact ⟨rfl,L2.out.1,L1.out.2.1.trans L2.out.2⟩
 ·have eX:Hid (Px.qcc x k=Px.qap x.one k):=by unfold Hid Px.qcc;simp[hop,h9]
  go_enter Tryz.func48,Tryz.ntmps48
  go_wp2_with fail;refine (i1 k _ ok _ q1 HL.out.2.2.1.1 HL.out.2.2.1.2 HL.out.2.1 HL.out.1 HL.out.2.2.2.1 (by omega)).mono ?_
  rintro e w2 ⟨rfl,l2,b2⟩;have L2:Hid (_∧_):=⟨l2,b2⟩;clear l2 b2;go_wp2_with fail;go_end0
  rw[eX.out];exact ⟨rfl,L2.out⟩
theorem znc (c:Nat) (x:Px.Sm) (hop:x.op=108):qkj c x:=by
 intro k w ok q hx hok hl hw h1 h2 hc;obtain ⟨hq,ve,v1,v2,q1,q2,hv,e3,e4,e5,e6,e7⟩:=hx;obtain ⟨d0,d1,d2,d3,d4,d5,d6,d7,d8,d9,d10,df⟩:=qaa hv;rw[hop] at d0;have hqc:=hok q hq;obtain ⟨ex,hex⟩:∃ ex,x.ex=some ex:=by
  rcases hw.2 with h | h | h | h | h | h
  ·cases hx:x.ex with
   | none=>exact absurd hx h.2
   | some e=>exact ⟨e,rfl⟩
  all_goals omega
 rw[hex] at e3;obtain ⟨qe,rfl,hxe⟩:=e3;have hwe:Px.WfE ex:=hw.1 ex hex;have eX:Hid (Px.qcc x k=Px.qc7 x.word x.pl (Px.qao ex k).1 (Px.qao ex k).2):=by unfold Hid Px.qcc;simp[hop,hex]
 have HV:Hid ((Px.qao ex k).2.vars=k.vars):=Px.qdj ex k;have HL:Hid (LkAt w c k∧(∀ i,ok i→i < c)∧ExAt w ex ok qe∧w.heap[q]?=some (.cells (qay x (ptr qe) v1 v2) 218)):=⟨hl,hok,hxe,hv⟩;unfold ptr at d3;clear hl hv hok hw h1 h2 e4 e5 e6 e7 hxe hex;generalize hr:Px.qao ex k=r at *;have HR:Hid (_):=hr;clear hr;go_enter Tryz.func48,Tryz.ntmps48
 go_wp2_with fail;refine (qcr c ex hwe k _ ok qe HL.out.2.2.1 HL.out.2.1 HL.out.1).mono ?_;rw[HR.out];rintro e w1 ⟨rfl,l1,b1⟩;have hh1:w1.heap[q]?=_:=(b1.block q hqc).trans HL.out.2.2.2;obtain ⟨f0,f1,f2,f3,f4,f5,f6,f7,f8,f9,f10,ff⟩:=qaa hh1;have L1:Hid (LkAt w1 c r.2∧Below c w w1):=⟨l1,b1⟩;clear l1 b1 hh1 d0 d1 d2 d3 d4 d5 d6 d7 d8 d9 d10 df;go_wp2_with fail;go_region_with (go_at_call 112;refine (qlx c x.word x.pl r.1 r.2 _ L1.out.1.drew (by rw[HV.out];omega)).mono ?_;rintro e w2 ⟨rfl,l2,b2⟩;have L2:Hid (_∧_):=⟨l2,b2⟩;clear l2 b2)
 all_goals
  go_wp2_with fail;go_end0
  rw[eX.out];exact ⟨rfl,L2.out.1,L1.out.2.drew.trans L2.out.2⟩
open Go.RowKit
theorem zte (c:Nat) (x:Px.Sm) (hop:x.op=105) (i1:qio c x.one) (i2:qio c x.two):qkj c x:=by
 intro k w ok q hx hok hl hw h1 h2 hc;obtain ⟨hq,ve,v1,v2,q1,q2,hv,e3,e4,e5,e6,e7⟩:=hx;obtain ⟨d0,d1,d2,d3,d4,d5,d6,d7,d8,d9,d10,df⟩:=qaa hv;rw[hop] at d0;have hqc:=hok q hq;obtain ⟨ex,hex⟩:∃ ex,x.ex=some ex:=by
  rcases hw.2 with h | h | h | h | h | h
  ·omega
  ·omega
  ·cases hx:x.ex with
   | none=>exact absurd hx h.2
   | some e=>exact ⟨e,rfl⟩
  all_goals omega
 rw[hex] at e3;obtain ⟨qe,rfl,hxe⟩:=e3;have hwe:Px.WfE ex:=hw.1 ex hex;obtain ⟨hqe,vk,hve⟩:=hxe.root;have hqec:=hok qe hqe;have eX:Hid (Px.qcc x k=Px.qap x.two (Px.qap x.one (Px.qbq (some ex) 98 k))):=by unfold Hid Px.qcc;simp[hop,hex]
 have HV:Hid ((Px.qbq (some ex) 98 k).vars=k.vars):=Px.qfk _ _ _;have eM:Hid (Px.qbq (some ex) 98 k=if Px.isK (Px.qao ex k).1 98 then (Px.qao ex k).2 else Px.say 6 ex.pl (Px.qao ex k).2):=rfl
 have HL:Hid (LkAt w c k∧(∀ i,ok i→i < c)∧ExAt w ex ok qe∧(SlAt w v1 q1 ok∧SmsAt w x.one ok q1)∧(SlAt w v2 q2 ok∧SmsAt w x.two ok q2)∧Px.WfS x.one∧Px.WfS x.two∧w.heap[q]?=some (.cells (qay x (ptr qe) v1 v2) 218)∧w.heap[qe]?=some (.cells #[.int .u8 (ex.op:Int),.int .i64 (ex.n:Int),.string ex.word,.int .i64 (ex.pl:Int),.int .i64 (ex.own:Int),vk] 228)):=⟨hl,hok,hxe,⟨e4,e5⟩,⟨e6,e7⟩,h1,h2,hv,hve⟩;unfold ptr at d3;clear hl hv hok hw h1 h2 e4 e5 e6 e7 hxe hex hve;have hv1:=Px.qdh x.one (Px.qbq (some ex) 98 k);rw[HV.out] at hv1;obtain ⟨a1,n1,c1,rfl⟩:∃ a n c,v1=.slice a n c:=by obtain ⟨a,c',h,_⟩:=HL.out.2.2.2.1.1.len;exact ⟨_,_,_,h⟩
 obtain ⟨a2,n2,c2,rfl⟩:∃ a n c,v2=.slice a n c:=by obtain ⟨a,c',h,_⟩:=HL.out.2.2.2.2.1.1.len;exact ⟨_,_,_,h⟩
 generalize hM:Px.qbq (some ex) 98 k=M at *;clear hM;generalize hr:Px.qao ex k=r at *;have HR:Hid (_):=hr;clear hr;go_enter Tryz.func48,Tryz.ntmps48
 go_wp2_with fail;refine (qcr c ex hwe k _ ok qe HL.out.2.2.1 HL.out.2.1 HL.out.1).mono ?_;rw[HR.out];rintro e w1 ⟨rfl,l1,b1⟩;have hh1:w1.heap[q]?=_:=(b1.block q hqc).trans HL.out.2.2.2.2.2.2.2.1;have hg1:w1.heap[qe]?=_:=(b1.block qe hqec).trans HL.out.2.2.2.2.2.2.2.2;obtain ⟨f0,f1,f2,f3,f4,f5,f6,f7,f8,f9,f10,ff⟩:=qaa hh1;obtain ⟨g0,g1,g2,g3,g4,g5,gf⟩:=qb9 hg1;unfold ptr at f3;have L1:Hid (LkAt w1 c r.2∧Below c w w1):=⟨l1,b1⟩;clear l1 b1 hh1 hg1 d0 d1 d2 d3 d4 d5 d6 d7 d8 d9 d10 df;go_wp2_with fail;refine (qdc r.1 98 _).mono ?_;rintro e w' ⟨rfl,rfl⟩;go_upto_if 98 with fail
 go_cut [] (fun wc=>Hid (LkAt wc c M∧Below c w wc))
 case first =>
  cases hi:Px.isK r.1 98
  ·go_wp2_with fail;refine (qey c 6 ex.pl r.2 _ L1.out.1).mono ?_;rintro e w2 ⟨rfl,l2,b2⟩;have L2:Hid (_∧_):=⟨l2,b2⟩;clear l2 b2;go_wp2_with fail;go_meet
   case rel =>
    refine ⟨?_,L1.out.2.trans L2.out.2⟩;rw[eM.out,hi];exact L2.out.1
  ·go_wp2_with fail;go_meet
   case rel =>
    refine ⟨?_,L1.out.2⟩;rw[eM.out,hi];exact L1.out.1
 case rest =>
 have C1:Hid (_):=hcut;have hh2:wc.heap[q]?=_:=(C1.out.2.block q hqc).trans HL.out.2.2.2.2.2.2.2.1;obtain ⟨j0,j1,j2,j3,j4,j5,j6,j7,j8,j9,j10,jf⟩:=qaa hh2;have hk2:∀ i,ok i→wc.heap[i]?=w.heap[i]?:=fun i hi=>C1.out.2.block i (HL.out.2.1 i hi)
 have S1:Hid ((SlAt wc _ q1 ok∧SmsAt wc x.one ok q1)):=⟨HL.out.2.2.2.1.1.keep hk2,HL.out.2.2.2.1.2.keep hk2⟩;clear hcut hh2 hk2 f0 f1 f2 f3 f4 f5 f6 f7 f8 f9 f10 ff g0 g1 g2 g3 g4 g5 gf;go_wp2_with fail;refine (i1 M _ ok _ q1 S1.out.1 S1.out.2 HL.out.2.1 C1.out.1 HL.out.2.2.2.2.2.1 (by rw[HV.out];omega)).mono ?_
 rintro e w3 ⟨rfl,l3,b3⟩;have bb:Below c w w3:=C1.out.2.trans b3;have hh3:w3.heap[q]?=_:=(bb.block q hqc).trans HL.out.2.2.2.2.2.2.2.1;obtain ⟨m0,m1,m2,m3,m4,m5,m6,m7,m8,m9,m10,mf⟩:=qaa hh3;have hk3:∀ i,ok i→w3.heap[i]?=w.heap[i]?:=fun i hi=>bb.block i (HL.out.2.1 i hi)
 have S2:Hid (LkAt w3 c (Px.qap x.one M)∧Below c w w3∧(SlAt w3 _ q2 ok∧SmsAt w3 x.two ok q2)):=⟨l3,bb,HL.out.2.2.2.2.1.1.keep hk3,HL.out.2.2.2.2.1.2.keep hk3⟩;clear l3 b3 bb hh3 hk3 j0 j1 j2 j3 j4 j5 j6 j7 j8 j9 j10 jf;go_wp2_with fail;refine (i2 _ _ ok _ q2 S2.out.2.2.1 S2.out.2.2.2 HL.out.2.1 S2.out.1 HL.out.2.2.2.2.2.2.1 (by omega)).mono ?_
 rintro e w4 ⟨rfl,l4,b4⟩;have L4:Hid (_∧_):=⟨l4,b4⟩;clear l4 b4;go_wp2_with fail;go_end0
 rw[eX.out];exact ⟨rfl,L4.out.1,S2.out.2.1.trans L4.out.2⟩
open Go.RowKit
theorem zhg (c:Nat) (x:Px.Sm) (hop:x.op=99):qkj c x:=by
 intro k w ok q hx hok hl hw h1 h2 hc;obtain ⟨hq,ve,v1,v2,q1,q2,hv,e3,e4,e5,e6,e7⟩:=hx;obtain ⟨d0,d1,d2,d3,d4,d5,d6,d7,d8,d9,d10,df⟩:=qaa hv;rw[hop] at d0;have hqc:=hok q hq;have HW:Hid (_):=hw.1;generalize hM1:Px.qbq x.ex 105 k=M1;generalize hM2:(if x.asw.toList.isEmpty then M1 else Px.qc7 x.asw x.asPl 105 M1)=M2
 have eX:Hid (Px.qcc x k=if x.n < 1∨5 < x.n then Px.say 4 x.nPl M2 else M2):=by unfold Hid Px.qcc;rw[if_neg (by omega),if_pos hop];simp only[hM1,hM2]
 have EM1:Hid (_):=hM1;have EM2:Hid (_):=hM2;have HV:Hid (M1.vars=k.vars):=by unfold Hid;rw[← hM1];exact Px.qfk _ _ _
 clear hM1 hM2;have HL:Hid (LkAt w c k∧(∀ i,ok i→i < c)∧ExO w x.ex ok ve∧w.heap[q]?=some (.cells (qay x ve v1 v2) 218)):=⟨hl,hok,e3,hv⟩;clear hl hv hok hw h1 h2 e4 e5 e6 e7 e3;obtain ⟨pe,rfl⟩:∃ pe,ve=.pointer pe:=by
  have:=HL.out.2.2.1
  cases hx:x.ex with
  | none=>rw[hx] at this;exact ⟨_,this⟩
  | some e=>rw[hx] at this;obtain ⟨qe,h,_⟩:=this;exact ⟨_,h⟩
 go_enter Tryz.func48,Tryz.ntmps48
 go_upto_if 36 with fail
 go_cut [5] (fun _ wc=>Hid (LkAt wc c M1∧Below c w wc))
 case first =>
  cases hex:x.ex with
  | none =>
   have hpe:(Value.pointer pe)=.pointer none:=by have:=HL.out.2.2.1;rw[hex] at this;exact this
   cases hpe;have hm:Hid (k=M1):=by unfold Hid;rw[← EM1.out,hex];rfl
   clear hex;go_wp2_with fail;go_meet
   case rel =>
    refine ⟨?_,Below.refl _ _⟩;rw[← hm.out];exact HL.out.1
  | some ex =>
   obtain ⟨qe,hpe,hxe⟩:∃ qe,Value.pointer pe=ptr qe∧ExAt w ex ok qe:=by have:=HL.out.2.2.1;rw[hex] at this;exact this
   unfold ptr at hpe;cases hpe;have hwe:Px.WfE ex:=HW.out ex hex;obtain ⟨hqe,vk,hve⟩:=hxe.root;have hqec:=HL.out.2.1 qe hqe;have hm:Hid (M1=if Px.isK (Px.qao ex k).1 105 then (Px.qao ex k).2 else Px.say 6 ex.pl (Px.qao ex k).2):=by unfold Hid;rw[← EM1.out,hex];rfl
   have XE:Hid (ExAt w ex ok qe∧w.heap[qe]?=some (.cells #[.int .u8 (ex.op:Int),.int .i64 (ex.n:Int),.string ex.word,.int .i64 (ex.pl:Int),.int .i64 (ex.own:Int),vk] 228)):=⟨hxe,hve⟩;clear hex hxe hve;generalize hr:Px.qao ex k=r at *;have HR:Hid (_):=hr;clear hr;go_wp2_with fail;refine (qcr c ex hwe k _ ok qe XE.out.1 HL.out.2.1 HL.out.1).mono ?_;rw[HR.out];rintro e w1 ⟨rfl,l1,b1⟩;have hh1:w1.heap[q]?=_:=(b1.block q hqc).trans HL.out.2.2.2;have hg1:w1.heap[qe]?=_:=(b1.block qe hqec).trans XE.out.2;obtain ⟨f0,f1,f2,f3,f4,f5,f6,f7,f8,f9,f10,ff⟩:=qaa hh1;obtain ⟨g0,g1,g2,g3,g4,g5,gf⟩:=qb9 hg1
   have L1:Hid (LkAt w1 c r.2∧Below c w w1):=⟨l1,b1⟩;clear l1 b1 hh1 hg1 d0 d1 d2 d3 d4 d5 d6 d7 d8 d9 d10 df;cases hi:Px.isK r.1 105
   ·go_wp2_with fail;refine (qdc r.1 105 _).mono ?_;rintro e w' ⟨rfl,rfl⟩;go_wp2_with fail;refine (qey c 6 ex.pl r.2 _ L1.out.1).mono ?_;rintro e w2 ⟨rfl,l2,b2⟩;have L2:Hid (_∧_):=⟨l2,b2⟩;clear l2 b2;go_wp2_with fail;go_meet
    case rel =>
     refine ⟨?_,L1.out.2.trans L2.out.2⟩;rw[hm.out,hi];exact L2.out.1
   ·go_wp2_with fail;refine (qdc r.1 105 _).mono ?_;rintro e w' ⟨rfl,rfl⟩;go_wp2_with fail;go_meet
    case rel =>
     refine ⟨?_,L1.out.2⟩;rw[hm.out,hi];exact L1.out.1
 case rest =>
 have C1:Hid (_):=hcut;have hh2:wc.heap[q]?=_:=(C1.out.2.block q hqc).trans HL.out.2.2.2;obtain ⟨j0,j1,j2,j3,j4,j5,j6,j7,j8,j9,j10,jf⟩:=qaa hh2;clear hcut hh2 d0 d1 d2 d3 d4 d5 d6 d7 d8 d9 d10 df;go_upto_if 59 with fail
 go_cut [] (fun wd=>Hid (LkAt wd c M2∧Below c w wd))
 case first =>
  cases ha:x.asw.toList.isEmpty
  ·go_wp2_with fail;go_region_with (go_at_call 112;refine (qlx c x.asw x.asPl 105 M1 _ C1.out.1.drew (by rw[HV.out];omega)).mono ?_;rintro e w2 ⟨rfl,l2,b2⟩;have L2:Hid (_∧_):=⟨l2,b2⟩;clear l2 b2)
   all_goals
    go_wp2_with fail;go_meet
    case rel =>
     refine ⟨?_,C1.out.2.drew.trans L2.out.2⟩;rw[← EM2.out,ha];exact L2.out.1
  ·go_wp2_with fail;go_meet
   case rel =>
    refine ⟨?_,C1.out.2⟩;rw[← EM2.out,ha];exact C1.out.1
 case rest =>
 have C2:Hid (_):=hcut;have hh3:wc.heap[q]?=_:=(C2.out.2.block q hqc).trans HL.out.2.2.2;obtain ⟨m0,m1,m2,m3,m4,m5,m6,m7,m8,m9,m10,mf⟩:=qaa hh3;clear hcut hh3 j0 j1 j2 j3 j4 j5 j6 j7 j8 j9 j10 jf;by_cases hn1:x.n < 1
 ·have t1:(x.n:Int) < 1:=by omega
  go_wp2_with fail;refine (qey c 4 x.nPl M2 _ C2.out.1).mono ?_;rintro e w2 ⟨rfl,l2,b2⟩;have L2:Hid (_∧_):=⟨l2,b2⟩;clear l2 b2;go_wp2_with fail;go_end0
  rw[eX.out,if_pos (by omega)]
  exact ⟨rfl,L2.out.1,C2.out.2.trans L2.out.2⟩
 ·have t1:¬ (x.n:Int) < 1:=by omega
  by_cases hn2:5 < x.n
  ·have t2:(5:Int) < x.n:=by omega
   go_wp2_with fail;refine (qey c 4 x.nPl M2 _ C2.out.1).mono ?_;rintro e w2 ⟨rfl,l2,b2⟩;have L2:Hid (_∧_):=⟨l2,b2⟩;clear l2 b2;go_wp2_with fail;go_end0
   rw[eX.out,if_pos (by omega)]
   exact ⟨rfl,L2.out.1,C2.out.2.trans L2.out.2⟩
  ·have t2:¬ (5:Int) < x.n:=by omega
   go_wp2_with fail;go_end0
   rw[eX.out,if_neg (by omega)]
   exact ⟨rfl,C2.out.1,C2.out.2⟩
theorem znb (c:Nat) (x:Px.Sm) (i1:qio c x.one) (i2:qio c x.two):qkj c x:=by
 intro k w ok q hx hok hl hw h1 h2 hc;rcases hw.2 with h | h | h | h | h | h
 ·exact znc c x h.1 k w ok q hx hok hl hw h1 h2 hc
 ·exact zhg c x h k w ok q hx hok hl hw h1 h2 hc
 ·exact zte c x h.1 i1 i2 k w ok q hx hok hl hw h1 h2 hc
 ·exact zm9 c x h i1 i2 k w ok q hx hok hl hw h1 h2 hc
 ·exact zna c x h i1 k w ok q hx hok hl hw h1 h2 hc
 ·exact zhf c x h k w ok q hx hok hl hw h1 h2 hc
theorem qll (c:Nat) (l:List Px.Sm):∀ i (hi:i < l.length),qkj c l[i]:=by
 match l with
 | []=>intro i hi;simp at hi
 | ⟨op,word,pl,ex,asw,asPl,undo,n,nPl,one,two⟩::rest =>
  intro i hi;cases i with
  | zero=>exact znb c _ (qlk c one (qll c one)) (qlk c two (qll c two))
  | succ i=>exact qll c rest i (by simpa using hi)
theorem zae (c:Nat) (l:List Px.Sm):qio c l:=qlk c l (qll c l)
open Go.RowKit
theorem qj0 (s:ByteArray) (w:World) (hs:s.size≤maxLen):Calls Tryz.prog 29 #[.string s] w (zkf s w):=by
 by_cases h:300 < s.size
 ·exact zfu s w h hs
 ·exact zcs s w (by omega)
def zyk (s:ByteArray) (w:World) (e:Ending) (w':World):Prop :=
 Below w.heap.size w w'∧∃ a n c a' n' c',e=.returned (.tuple #[.slice a n c,.slice a' n' c',.int .i64 ((Px.check s).1:Int),.int .i64 ((Px.check s).2:Int)]) ∧
  ((Px.check s).1=0→∃ l qs,Px.read s=.ok l∧SlAt w' (.slice a n c) qs (In w w')∧SmsAt w' l (In w w') qs)
theorem qrh (s:ByteArray) (w:World) (hs:s.size≤maxLen):Calls Tryz.prog 19 #[.string s] w (zyk s w):=by
 go_enter Tryz.func19,Tryz.ntmps19
 go_wp2_with fail;refine (qj0 s _ hs).mono ?_;rintro e w1 ⟨hb,a,n,c,x,p,rfl,hr⟩;cases hrd:Px.read s with
 | error r =>
  obtain ⟨c',p'⟩:=r;rw[hrd] at hr;obtain ⟨rfl,rfl,rfl,rfl,rfl⟩:=hr;have hx0:x≠0:=by
   unfold Px.read at hrd;split at hrd
   ·cases hrd;omega
   ·split at hrd
    ·cases hrd;omega
    ·split at hrd
     ·cases hrd;omega
     ·cases hrd
  have t1:((x:Int) != 0)=true:=by rw[bne_iff_ne];omega
  have ck:Hid (Px.check s=(x,p)):=by unfold Hid Px.check;rw[hrd]
  have B:Hid (_):=hb;clear hrd hb;go_wp2_with fail;refine bodyPost_ret (v:=.tuple #[.slice none 0 0,.slice none 0 0,.int .i64 (x:Int),.int .i64 (p:Int)]) (by simp[results,Tryz.results19,go_sem]) rfl ?_
  refine ⟨B.out,none,0,0,none,0,0,by rw[ck.out],fun h=>?_⟩
  rw[ck.out] at h;exact absurd h hx0
 | ok l =>
  rw[hrd] at hr;obtain ⟨rfl,rfl,qs,h1,h2⟩:=hr;obtain ⟨wf,hcnt⟩:=Px.qd0 hrd;generalize hK:Px.qap l ⟨[],0,0⟩=K;have ck:Hid (Px.check s=if K.e=0 then (0,0) else (K.e,K.pl)):=by unfold Hid Px.check;rw[hrd];simp only[hK]
  have HH:Hid (Below w.heap.size w w1∧SlAt w1 (.slice a n c) qs (In w w1)∧SmsAt w1 l (In w w1) qs∧Px.WfS l∧Px.read s=.ok l∧Px.qap l ⟨[],0,0⟩=K):=⟨hb,h1,h2,wf,hrd,hK⟩;have HL:Hid (LkAt (w1.alloc (.cells #[.slice none 0 0,.int .i64 0,.int .i64 0] 93)) w1.heap.size ⟨[],0,0⟩):=by
   refine ⟨none,0,0,?_,World.ownsRow_nil _ _ _ _⟩;show (w1.heap.push _)[w1.heap.size]?=_
   rw[Array.getElem?_push,if_pos rfl];rfl
  clear hb h1 h2 wf hrd hK;go_wp2_with fail;refine (zae w1.heap.size l ⟨[],0,0⟩ _ (In w w1) _ qs (HH.out.2.1.keep fun i hi=>Below.heap_alloc _ _ _ hi.2) (HH.out.2.2.1.keep fun i hi=>Below.heap_alloc _ _ _ hi.2) (fun i hi=>hi.2) HL.out HH.out.2.2.2.1 (by simp;omega)).mono ?_
  rw[HH.out.2.2.2.2.2];rintro e w2 ⟨rfl,l2,b2⟩;obtain ⟨va,vn,vc,g1,g2⟩:=l2.ex;obtain ⟨c0,c1,c2,cf⟩:=cells3 g1;have bW:Below w.heap.size w w2:=(HH.out.1.alloc HH.out.1.size _).trans (b2.mono HH.out.1.size);have hkeep:∀ i,In w w1 i→w2.heap[i]?=w1.heap[i]?:=fun i hi=>by rw[b2.block i hi.2,Below.heap_alloc _ _ _ hi.2]
  have hz2:w1.heap.size < w2.heap.size:=lt_of_cell c0;have H2:Hid (Below w.heap.size w w2∧SlAt w2 (.slice a n c) qs (In w w2)∧SmsAt w2 l (In w w2) qs):=⟨bW,(HH.out.2.1.keep hkeep).mono fun i hi=>⟨hi.1,by have:=hi.2;omega⟩,(HH.out.2.2.1.keep hkeep).mono fun i hi=>⟨hi.1,by have:=hi.2;omega⟩⟩
  clear l2 b2 g1 g2 bW hkeep;by_cases hE:K.e=0
  ·have t1:((K.e:Int) != 0)=false:=by rw[hE];rfl
   have HE:Hid (_):=hE;clear hE;go_wp2_with fail;go_region
   go_wp2_with fail;refine bodyPost_ret (v:=.tuple #[.slice a n c,.slice va vn vc,.int .i64 0,.int .i64 0]) (by simp[results,Tryz.results19,go_sem]) rfl ?_
   refine ⟨H2.out.1.drew,a,n,c,va,vn,vc,by rw[ck.out,if_pos HE.out];rfl,fun h=>⟨l,qs,HH.out.2.2.2.2.1,H2.out.2.1,H2.out.2.2.keep fun _ _=>rfl⟩⟩
  ·have t1:((K.e:Int) != 0)=true:=by rw[bne_iff_ne];omega
   have HE:Hid (_):=hE;clear hE;go_wp2_with fail;go_region
   go_wp2_with fail;refine bodyPost_ret (v:=.tuple #[.slice none 0 0,.slice none 0 0,.int .i64 (K.e:Int),.int .i64 (K.pl:Int)]) (by simp[results,Tryz.results19,go_sem]) rfl ?_
   refine ⟨H2.out.1.drew,none,0,0,none,0,0,by rw[ck.out,if_neg HE.out],fun h=>?_⟩
   rw[ck.out,if_neg HE.out] at h;exact absurd h HE.out
theorem qhx (s:ByteArray) (w:World) (hs:s.size≤maxLen):Calls Tryz.prog 13 #[.string s] w fun e w'=>e=.returned (.tuple #[.int .i64 ((Px.check s).1:Int),.int .i64 ((Px.check s).2:Int)])∧Below w.heap.size w w':=by
 go_enter Tryz.func13,Tryz.ntmps13
 go_wp2_with fail;refine (qrh s _ hs).mono ?_;rintro e w1 ⟨hb,a,n,c,a',n',c',rfl,hr⟩;have HB:Hid (_):=hb;clear hb hr;go_wp2_with fail;go_ret2;exact ⟨rfl,HB.out⟩
open Go.RowKit
theorem _root_.Go.Proofs.YthanmfbakpcigaaGreatDoor.Px.zbm (P:Px.Pg) (i:Nat) (arg:Int) (most:Nat) (und:Bool) (m:Px.Ms):(Px.askM P i arg most und m).2.2.asks.length=m.asks.length+1:=by
 unfold Px.askM;split
 ·simp
 ·split
  ·simp
  ·split<;>simp
theorem mt1 (r:Nat×Int×Px.Ms) (n:Nat) (h:r.2.2.asks.length=n):(match r with
  | (0,v,m')=>((0:Nat),{ m' with st:=v::m'.st.tail })
  | (e,_,m')=>(e,m')).2.asks.length=n:=by
 obtain ⟨e,v,m'⟩:=r;cases e<;>exact h
theorem mt2 (r:Nat×Int×Px.Ms) (n:Nat) (u:List (Nat×Int)) (h:r.2.2.asks.length=n):(match r with
   | (0,_,m')=>((0:Nat),{ m' with undos:=u })
   | (1,_,m')=>(4,m')
   | (e,_,m')=>(e,m')).2.asks.length=n:=by
 obtain ⟨e,v,m'⟩:=r;match e with
 | 0=>exact h
 | 1=>exact h
 | e+2=>exact h
theorem mt3 (r:Nat×Px.Ms) (n p:Nat) (h:r.2.asks.length≤n):(match r with
   | (0,m')=>((0:Nat),m')
   | (e,m')=>(e,{ m' with place:=p })).2.asks.length≤n:=by
 obtain ⟨e,m'⟩:=r;cases e<;>exact h
theorem mt4 (r:Nat×Px.Ms) (n:Nat) (h:r.2.asks.length≤n):(match r with
 | (0,m')=>(decide (m'.fin≠0),m')
 | (1,m')=>(decide (m'.fin≠0),{ m' with qak:=true })
 | (2,m')=>(true,m')
 | (3,m')=>(decide (m'.fin≠0),m')
 | (_,m')=>(true,{ m' with fin:=3 })).2.asks.length≤n:=by
 obtain ⟨e,m'⟩:=r;match e with
 | 0=>exact h
 | 1=>exact h
 | 2=>exact h
 | 3=>exact h
 | e+4=>exact h
theorem _root_.Go.Proofs.YthanmfbakpcigaaGreatDoor.Px.zup (P:Px.Pg) (i:Px.Ins) (m:Px.Ms):(Px.doM P i m).2.asks.length≤m.asks.length+1:=by
 unfold Px.doM;by_cases h0:i.k=0
 ·rw[if_pos h0];exact Nat.le_succ _
 rw[if_neg h0];by_cases h1:i.k=1
 ·rw[if_pos h1];exact Nat.le_succ _
 rw[if_neg h1];by_cases h2:i.k=2
 ·rw[if_pos h2];exact Nat.le_succ _
 rw[if_neg h2];by_cases h3:i.k=3
 ·rw[if_pos h3];exact Nat.le_succ _
 rw[if_neg h3];by_cases h4:i.k=7
 ·rw[if_pos h4];by_cases hh:m.st.headD 0=0
  ·rw[if_pos hh];exact Nat.le_succ _
  ·rw[if_neg hh];exact Nat.le_succ _
 rw[if_neg h4];by_cases h5:i.k≤10
 ·rw[if_pos h5];exact Nat.le_succ _
 rw[if_neg h5];by_cases h6:i.k=11
 ·rw[if_pos h6];exact Nat.le_succ _
 rw[if_neg h6];by_cases h7:i.k=12
 ·rw[if_pos h7];exact Nat.le_succ _
 rw[if_neg h7];by_cases h8:i.k=13
 ·rw[if_pos h8];exact Nat.le_succ _
 rw[if_neg h8];by_cases h9:i.k=14
 ·rw[if_pos h9];by_cases hh:0 < m.st.headD 0
  ·rw[if_pos hh];exact Nat.le_succ _
  ·rw[if_neg hh];exact Nat.le_succ _
 rw[if_neg h9];by_cases h10:i.k=15
 ·rw[if_pos h10];exact Nat.le_succ _
 rw[if_neg h10];by_cases h11:i.k=16
 ·rw[if_pos h11];exact Nat.le_succ _
 rw[if_neg h11];by_cases h12:i.k=17
 ·rw[if_pos h12];exact Nat.le_succ _
 rw[if_neg h12];by_cases h13:i.k=18
 ·rw[if_pos h13];exact Nat.le_of_eq (mt1 _ _ (Px.zbm P i.a (m.st.headD 0) i.b false m))
 rw[if_neg h13];exact Nat.le_succ _
theorem _root_.Go.Proofs.YthanmfbakpcigaaGreatDoor.Px.zel (P:Px.Pg) (m:Px.Ms):(Px.qa2 P m).2.asks.length≤m.asks.length+1:=by
 have hb:(Px.qa2.behind m).2.asks.length=m.asks.length:=by unfold Px.qa2.behind;split<;>rfl
 unfold Px.qa2;split
 ·omega
 ·rename_i u r hu;split
  ·omega
  ·exact Nat.le_of_eq (mt2 _ _ _ (Px.zbm P u.1 u.2 3 true m))
theorem _root_.Go.Proofs.YthanmfbakpcigaaGreatDoor.Px.zg7 (P:Px.Pg) (m:Px.Ms):(Px.qbo P m).2.asks.length≤m.asks.length+1:=by
 have hs:(Px.qa1 P m).2.asks.length≤m.asks.length+1:=by
  unfold Px.qa1;split
  ·exact Px.zel P m
  ·split
   ·exact Nat.le_succ _
   ·rename_i i hi;exact mt3 _ _ _ (Px.zup P i { m with place:=m.place+1 })
 exact mt4 _ _ hs
theorem _root_.Go.Proofs.YthanmfbakpcigaaGreatDoor.Px.qzv (P:Px.Pg) (n:Nat):∀ m:Px.Ms,(Px.runM P n m).2.asks.length≤m.asks.length+n:=by
 induction n with
 | zero=>intro m;exact Nat.le_refl _
 | succ n ih =>
  intro m;rw[Px.runM];have h1:=Px.zg7 P m;split
  ·dsimp only;omega
  ·have h2:=ih (Px.qbo P m).2;omega
theorem qz1 {s:ByteArray} {l:List Px.Sm} (hr:Px.read s=.ok l) (hc:Px.check s=(0,0)) (answers:List Int):(Px.play (Px.qap l ⟨[],0,0⟩).vars l answers).asks.length≤4000000:=by
 obtain ⟨m,h1,h2,_⟩:=Px.qvy hr hc answers 4000000 (by omega)
 have h3:=Px.qzv (Px.pgOf l) 4000000 ⟨[],List.replicate (Px.pgOf l).nv 0,[],[],[],answers,0,0,false,0⟩;rw[h1] at h3;rw[← h2]
 simpa using h3
open Go.RowKit
theorem AnsAt.keep {w w':World} {v:Value} {l:List Int} (h:AnsAt w v l) (hb:Below w.heap.size w w'):AnsAt w' v l:=by
 obtain ⟨ad,cap,rfl,h1,h2,h3⟩:=h;refine ⟨ad,cap,rfl,h1,h2,fun i hi=>?_⟩
 obtain ⟨a,rfl,h4,h5⟩:=h3 i hi;refine ⟨a,rfl,Nat.lt_of_lt_of_le h4 hb.size,?_⟩;have hbl:(a.add i).block < w.heap.size:=by unfold Addr.add;split<;>exact h4
 rw[hb.cell hbl];exact h5
end Ref
end Go.Proofs.YthanmfbakpcigaaGreatDoor
