import Derived.Test.YtokkhhekekeokaaGreatDoorC07
import Derived.Test.YtokkhhekekeokaaGreatDoorC02
set_option maxRecDepth 100000
set_option maxHeartbeats 2000000
namespace Go.Proofs.YtokkhhekekeokaaGreatDoor
open Go.RowKit Tryz
namespace Ref
open Px
theorem Hk (c:Nat)(x:Sm)(hop:x.op=102):zZ c x:=by
 intro k w ok q hx hok hl hw h1 h2 hc;obtain ⟨hq,ve,v1,v2,q1,q2,hv,_⟩:=hx;obtain ⟨d0,d1,d2,d3,d4,d5,d6,d7,d8,d9,jT,df⟩:=kG hv;rw[hop] at d0;have HL:Hid (_):=hl;have e1:Hid (pO x k=k):=by unfold Hid pO;simp[hop]
 clear hl hv hok hw h1 h2;go_enter func85,ntmps85
 go_wp2_with fail;go_end0
 rw[e1.o];exact ⟨rfl,HL.o,aH _ _⟩
theorem Hm (c:Nat)(x:Sm)(hop:x.op=116)(i1:z8 c x.one)(i2:z8 c x.two):zZ c x:=by
 intro k w ok q hx hok hl hw h1 h2 hc;obtain ⟨hq,ve,v1,v2,q1,q2,hv,e3,e4,e5,e6,e7⟩:=hx;obtain ⟨d0,d1,d2,d3,d4,d5,d6,d7,d8,d9,jT,df⟩:=kG hv;rw[hop] at d0;have hqc:=hok q hq;have HL:Hid (iy w c k/\(∀ i,ok i->i < c)/\(iq w v1 q1 ok/\fV w x.one ok q1)/\(iq w v2 q2 ok/\fV w x.two ok q2)/\jM x.one/\jM x.two/\w.heap[q]?=some (.cells (oI x ve v1 v2) 250)):=⟨hl,hok,⟨e4,e5⟩,⟨e6,e7⟩,h1,h2,hv⟩;have hv1:=zn x.one k;have eX:Hid (pO x k=iG x.two (iG x.one k)):=by unfold Hid pO;simp[hop]
 clear hl hv hok hw h1 h2 e3 e4 e5 e6 e7;obtain ⟨a1,n1,c1,rfl⟩:∃ a n c,v1=.slice a n c:=by obtain ⟨a,c',h,_⟩:=HL.o.2.2.1.1.len;exact ⟨_,_,_,h⟩
 obtain ⟨a2,n2,c2,rfl⟩:∃ a n c,v2=.slice a n c:=by obtain ⟨a,c',h,_⟩:=HL.o.2.2.2.1.1.len;exact ⟨_,_,_,h⟩
 go_enter func85,ntmps85
 go_wp2_with fail;refine (i1 k _ ok _ q1 HL.o.2.2.1.1 HL.o.2.2.1.2 HL.o.2.1 HL.o.1 HL.o.2.2.2.2.1 (by omega)).mono ?_
 rintro e w1 ⟨rfl,l1,b1⟩;have vK:w1.heap[q]?=_:=(b1.block q hqc).trans HL.o.2.2.2.2.2.2;obtain ⟨f0,f1,f2,f3,f4,f5,f6,f7,f8,f9,f10,ff⟩:=kG vK;have hk:∀ i,ok i->w1.heap[i]?=w.heap[i]?:=fun i hi=>b1.block i (HL.o.2.1 i hi)
 have L1:Hid (iy w1 c (iG x.one k)/\Below c w w1/\iq w1 _ q2 ok/\fV w1 x.two ok q2):=⟨l1,b1,HL.o.2.2.2.1.1.keep hk,HL.o.2.2.2.1.2.keep hk⟩;clear l1 b1 vK hk d0 d1 d2 d3 d4 d5 d6 d7 d8 d9 jT df;go_wp2_with fail;refine (i2 _ _ ok _ q2 L1.o.2.2.1 L1.o.2.2.2 HL.o.2.1 L1.o.1 HL.o.2.2.2.2.2.1 (by omega)).mono ?_
 rintro e w2 ⟨rfl,l2,b2⟩;have L2:Hid (_/\_):=⟨l2,b2⟩;clear l2 b2;go_wp2_with fail;go_end0
 rw[eX.o];exact ⟨rfl,L2.o.1,L1.o.2.1.trans L2.o.2⟩
theorem Hn (c:Nat)(x:Sm)(hop:x.op=114)(i1:z8 c x.one):zZ c x:=by
 intro k w ok q hx hok hl hw h1 h2 hc;obtain ⟨hq,ve,v1,v2,q1,q2,hv,e3,e4,e5,e6,e7⟩:=hx;obtain ⟨d0,d1,d2,d3,d4,d5,d6,d7,d8,d9,jT,df⟩:=kG hv;rw[hop] at d0;have hqc:=hok q hq;have HL:Hid (iy w c k/\(∀ i,ok i->i < c)/\(iq w v1 q1 ok/\fV w x.one ok q1)/\jM x.one/\w.heap[q]?=some (.cells (oI x ve v1 v2) 250)):=⟨hl,hok,⟨e4,e5⟩,h1,hv⟩;clear hl hv hok hw h1 h2 e3 e4 e5 e6 e7;obtain ⟨a1,n1,c1,rfl⟩:∃ a n c,v1=.slice a n c:=by obtain ⟨a,c',h,_⟩:=HL.o.2.2.1.1.len;exact ⟨_,_,_,h⟩
 by_cases h9:9 < x.n
 ·have eX:Hid (pO x k=iG x.one (Px.say 4 x.gG k)):=by unfold Hid pO;simp[hop,h9]
  have hv1:=zL 4 x.gG k;have HV:Hid (_):=hv1;clear hv1;go_enter func85,ntmps85
  go_wp2_with fail;refine (vH c 4 x.gG k _ HL.o.1).mono ?_;rintro e w1 ⟨rfl,l1,b1⟩;have vK:w1.heap[q]?=_:=(b1.block q hqc).trans HL.o.2.2.2.2;obtain ⟨f0,f1,f2,f3,f4,f5,f6,f7,f8,f9,f10,ff⟩:=kG vK;have hk:∀ i,ok i->w1.heap[i]?=w.heap[i]?:=fun i hi=>b1.block i (HL.o.2.1 i hi)
  have L1:Hid (iy w1 c (Px.say 4 x.gG k)/\Below c w w1/\iq w1 _ q1 ok/\fV w1 x.one ok q1):=⟨l1,b1,HL.o.2.2.1.1.keep hk,HL.o.2.2.1.2.keep hk⟩;clear l1 b1 vK hk d0 d1 d2 d3 d4 d5 d6 d7 d8 d9 jT df;go_wp2_with fail;refine (i1 _ _ ok _ q1 L1.o.2.2.1 L1.o.2.2.2 HL.o.2.1 L1.o.1 HL.o.2.2.2.1 (by rw[HV.o];omega)).mono ?_
  rintro e w2 ⟨rfl,l2,b2⟩;have L2:Hid (_/\_):=⟨l2,b2⟩;clear l2 b2;go_wp2_with fail;go_end0
  rw[eX.o];exact ⟨rfl,L2.o.1,L1.o.2.1.trans L2.o.2⟩
 ·have eX:Hid (pO x k=iG x.one k):=by unfold Hid pO;simp[hop,h9]
  go_enter func85,ntmps85
  go_wp2_with fail;refine (i1 k _ ok _ q1 HL.o.2.2.1.1 HL.o.2.2.1.2 HL.o.2.1 HL.o.1 HL.o.2.2.2.1 (by omega)).mono ?_
  rintro e w2 ⟨rfl,l2,b2⟩;have L2:Hid (_/\_):=⟨l2,b2⟩;clear l2 b2;go_wp2_with fail;go_end0
  rw[eX.o];exact ⟨rfl,L2.o⟩
theorem Hp (c:Nat)(x:Sm)(hop:x.op=108):zZ c x:=by
 intro k w ok q hx hok hl hw h1 h2 hc;obtain ⟨hq,ve,v1,v2,q1,q2,hv,e3,e4,e5,e6,e7⟩:=hx;obtain ⟨d0,d1,d2,d3,d4,d5,d6,d7,d8,d9,jT,df⟩:=kG hv;rw[hop] at d0;have hqc:=hok q hq;obtain ⟨ex,hex⟩:∃ ex,x.ex=some ex:=by
  rcases hw.2 with h | h | h | h | h | h
  ·cases hx:x.ex with
   | none=>exact absurd hx h.2
   | some e=>exact ⟨e,rfl⟩
  all_goals omega
 rw[hex] at e3;obtain ⟨qe,rfl,hxe⟩:=e3;have vT:mO ex:=hw.1 ex hex;have eX:Hid (pO x k=nP x.fD x.pl (iC ex k).1 (iC ex k).2):=by unfold Hid pO;simp[hop,hex]
 have HV:Hid ((iC ex k).2.vars=k.vars):=zm ex k;have HL:Hid (iy w c k/\(∀ i,ok i->i < c)/\ig w ex ok qe/\w.heap[q]?=some (.cells (oI x (ptr qe) v1 v2) 250)):=⟨hl,hok,hxe,hv⟩;unfold ptr at d3;clear hl hv hok hw h1 h2 e4 e5 e6 e7 hxe hex;generalize hr:iC ex k=r at *;have HR:Hid (_):=hr;clear hr;go_enter func85,ntmps85
 go_wp2_with fail;refine (uL c ex vT k _ ok qe HL.o.2.2.1 HL.o.2.1 HL.o.1).mono ?_;rw[HR.o];rintro e w1 ⟨rfl,l1,b1⟩;have vK:w1.heap[q]?=_:=(b1.block q hqc).trans HL.o.2.2.2;obtain ⟨f0,f1,f2,f3,f4,f5,f6,f7,f8,f9,f10,ff⟩:=kG vK;have L1:Hid (iy w1 c r.2/\Below c w w1):=⟨l1,b1⟩;clear l1 b1 vK d0 d1 d2 d3 d4 d5 d6 d7 d8 d9 jT df;go_wp2_with fail;go_region_with (go_at_call 122;refine (Ic c x.fD x.pl r.1 r.2 _ L1.o.1.drew (by rw[HV.o];omega)).mono ?_;rintro e w2 ⟨rfl,l2,b2⟩;have L2:Hid (_/\_):=⟨l2,b2⟩;clear l2 b2)
 all_goals
  go_wp2_with fail;go_end0
  rw[eX.o];exact ⟨rfl,L2.o.1,L1.o.2.drew.trans L2.o.2⟩
theorem Hs (c:Nat)(x:Sm)(hop:x.op=105)(i1:z8 c x.one)(i2:z8 c x.two):zZ c x:=by
 intro k w ok q hx hok hl hw h1 h2 hc;obtain ⟨hq,ve,v1,v2,q1,q2,hv,e3,e4,e5,e6,e7⟩:=hx;obtain ⟨d0,d1,d2,d3,d4,d5,d6,d7,d8,d9,jT,df⟩:=kG hv;rw[hop] at d0;have hqc:=hok q hq;obtain ⟨ex,hex⟩:∃ ex,x.ex=some ex:=by
  rcases hw.2 with h | h | h | h | h | h
  ·omega
  ·omega
  ·cases hx:x.ex with
   | none=>exact absurd hx h.2
   | some e=>exact ⟨e,rfl⟩
  all_goals omega
 rw[hex] at e3;obtain ⟨qe,rfl,hxe⟩:=e3;have vT:mO ex:=hw.1 ex hex;obtain ⟨hqe,vk,Im⟩:=hxe.root;have Dj:=hok qe hqe;have eX:Hid (pO x k=iG x.two (iG x.one (lQ (some ex) 98 k))):=by unfold Hid pO;simp[hop,hex]
 have HV:Hid ((lQ (some ex) 98 k).vars=k.vars):=Ct _ _ _;have eM:Hid (lQ (some ex) 98 k=if Px.isK (iC ex k).1 98 then (iC ex k).2 else Px.say 6 ex.pl (iC ex k).2):=rfl
 have HL:Hid (iy w c k/\(∀ i,ok i->i < c)/\ig w ex ok qe/\(iq w v1 q1 ok/\fV w x.one ok q1)/\(iq w v2 q2 ok/\fV w x.two ok q2)/\jM x.one/\jM x.two/\w.heap[q]?=some (.cells (oI x (ptr qe) v1 v2) 250)/\w.heap[qe]?=some (.cells #[.int .u8 (ex.op:Int),.int .i64 (ex.n:Int),.string ex.fD,.int .i64 (ex.pl:Int),.int .i64 (ex.own:Int),vk] 260)):=⟨hl,hok,hxe,⟨e4,e5⟩,⟨e6,e7⟩,h1,h2,hv,Im⟩;unfold ptr at d3;clear hl hv hok hw h1 h2 e4 e5 e6 e7 hxe hex Im;have hv1:=zn x.one (lQ (some ex) 98 k);rw[HV.o] at hv1;obtain ⟨a1,n1,c1,rfl⟩:∃ a n c,v1=.slice a n c:=by obtain ⟨a,c',h,_⟩:=HL.o.2.2.2.1.1.len;exact ⟨_,_,_,h⟩
 obtain ⟨a2,n2,c2,rfl⟩:∃ a n c,v2=.slice a n c:=by obtain ⟨a,c',h,_⟩:=HL.o.2.2.2.2.1.1.len;exact ⟨_,_,_,h⟩
 generalize hM:lQ (some ex) 98 k=M at *;clear hM;generalize hr:iC ex k=r at *;have HR:Hid (_):=hr;clear hr;go_enter func85,ntmps85
 go_wp2_with fail;refine (uL c ex vT k _ ok qe HL.o.2.2.1 HL.o.2.1 HL.o.1).mono ?_;rw[HR.o];rintro e w1 ⟨rfl,l1,b1⟩;have vK:w1.heap[q]?=_:=(b1.block q hqc).trans HL.o.2.2.2.2.2.2.2.1;have hg1:w1.heap[qe]?=_:=(b1.block qe Dj).trans HL.o.2.2.2.2.2.2.2.2;obtain ⟨f0,f1,f2,f3,f4,f5,f6,f7,f8,f9,f10,ff⟩:=kG vK;obtain ⟨g0,g1,g2,g3,g4,g5,gf⟩:=nH hg1;unfold ptr at f3;have L1:Hid (iy w1 c r.2/\Below c w w1):=⟨l1,b1⟩;clear l1 b1 vK hg1 d0 d1 d2 d3 d4 d5 d6 d7 d8 d9 jT df;go_wp2_with fail;refine (pW r.1 98 _).mono ?_;rintro e w' ⟨rfl,rfl⟩;go_upto_if 98 with fail
 go_cut [] (fun wc=>Hid (iy wc c M/\Below c w wc))
 case first =>
  cases hi:Px.isK r.1 98
  ·go_wp2_with fail;refine (vH c 6 ex.pl r.2 _ L1.o.1).mono ?_;rintro e w2 ⟨rfl,l2,b2⟩;have L2:Hid (_/\_):=⟨l2,b2⟩;clear l2 b2;go_wp2_with fail;go_meet
   case rel =>
    refine ⟨?_,L1.o.2.trans L2.o.2⟩;rw[eM.o,hi];exact L2.o.1
  ·go_wp2_with fail;go_meet
   case rel =>
    refine ⟨?_,L1.o.2⟩;rw[eM.o,hi];exact L1.o.1
 case rest =>
 have C1:Hid (_):=hcut;have Aa:wc.heap[q]?=_:=(C1.o.2.block q hqc).trans HL.o.2.2.2.2.2.2.2.1;obtain ⟨j0,j1,j2,j3,j4,j5,j6,j7,j8,j9,j10,jf⟩:=kG Aa;have hk2:∀ i,ok i->wc.heap[i]?=w.heap[i]?:=fun i hi=>C1.o.2.block i (HL.o.2.1 i hi)
 have S1:Hid ((iq wc _ q1 ok/\fV wc x.one ok q1)):=⟨HL.o.2.2.2.1.1.keep hk2,HL.o.2.2.2.1.2.keep hk2⟩;clear hcut Aa hk2 f0 f1 f2 f3 f4 f5 f6 f7 f8 f9 f10 ff g0 g1 g2 g3 g4 g5 gf;go_wp2_with fail;refine (i1 M _ ok _ q1 S1.o.1 S1.o.2 HL.o.2.1 C1.o.1 HL.o.2.2.2.2.2.1 (by rw[HV.o];omega)).mono ?_
 rintro e w3 ⟨rfl,l3,b3⟩;have bb:Below c w w3:=C1.o.2.trans b3;have hh3:w3.heap[q]?=_:=(bb.block q hqc).trans HL.o.2.2.2.2.2.2.2.1;obtain ⟨m0,m1,m2,m3,m4,m5,m6,m7,m8,m9,m10,mf⟩:=kG hh3;have hk3:∀ i,ok i->w3.heap[i]?=w.heap[i]?:=fun i hi=>bb.block i (HL.o.2.1 i hi)
 have S2:Hid (iy w3 c (iG x.one M)/\Below c w w3/\(iq w3 _ q2 ok/\fV w3 x.two ok q2)):=⟨l3,bb,HL.o.2.2.2.2.1.1.keep hk3,HL.o.2.2.2.2.1.2.keep hk3⟩;clear l3 b3 bb hh3 hk3 j0 j1 j2 j3 j4 j5 j6 j7 j8 j9 j10 jf;go_wp2_with fail;refine (i2 _ _ ok _ q2 S2.o.2.2.1 S2.o.2.2.2 HL.o.2.1 S2.o.1 HL.o.2.2.2.2.2.2.1 (by omega)).mono ?_
 rintro e w4 ⟨rfl,l4,b4⟩;have L4:Hid (_/\_):=⟨l4,b4⟩;clear l4 b4;go_wp2_with fail;go_end0
 rw[eX.o];exact ⟨rfl,L4.o.1,S2.o.2.1.trans L4.o.2⟩
theorem Hv (c:Nat)(x:Sm)(hop:x.op=99):zZ c x:=by
 intro k w ok q hx hok hl hw h1 h2 hc;obtain ⟨hq,ve,v1,v2,q1,q2,hv,e3,e4,e5,e6,e7⟩:=hx;obtain ⟨d0,d1,d2,d3,d4,d5,d6,d7,d8,d9,jT,df⟩:=kG hv;rw[hop] at d0;have hqc:=hok q hq;have HW:Hid (_):=hw.1;generalize hM1:lQ x.ex 105 k=M1;generalize hM2:(if x.gu.toList.isEmpty then M1 else nP x.gu x.fZ 105 M1)=M2
 have eX:Hid (pO x k=if x.n < 1\/5 < x.n then Px.say 4 x.gG M2 else M2):=by unfold Hid pO;rw[if_neg (by omega),if_pos hop];simp only[hM1,hM2]
 have Wo:Hid (_):=hM1;have Wp:Hid (_):=hM2;have HV:Hid (M1.vars=k.vars):=by unfold Hid;rw[<- hM1];exact Ct _ _ _
 clear hM1 hM2;have HL:Hid (iy w c k/\(∀ i,ok i->i < c)/\wW w x.ex ok ve/\w.heap[q]?=some (.cells (oI x ve v1 v2) 250)):=⟨hl,hok,e3,hv⟩;clear hl hv hok hw h1 h2 e4 e5 e6 e7 e3;obtain ⟨pe,rfl⟩:∃ pe,ve=.pointer pe:=by
  have:=HL.o.2.2.1
  cases hx:x.ex with
  | none=>rw[hx] at this;exact ⟨_,this⟩
  | some e=>rw[hx] at this;obtain ⟨qe,h,_⟩:=this;exact ⟨_,h⟩
 go_enter func85,ntmps85
 go_upto_if 36 with fail
 go_cut [5] (fun _ wc=>Hid (iy wc c M1/\Below c w wc))
 case first =>
  cases hex:x.ex with
  | none =>
   have hpe:(Value.pointer pe)=.pointer none:=by have:=HL.o.2.2.1;rw[hex] at this;exact this
   cases hpe;have hm:Hid (k=M1):=by unfold Hid;rw[<- Wo.o,hex];rfl
   clear hex;go_wp2_with fail;go_meet
   case rel =>
    refine ⟨?_,aH _ _⟩;rw[<- hm.o];exact HL.o.1
  | some ex =>
   obtain ⟨qe,hpe,hxe⟩:∃ qe,Value.pointer pe=ptr qe/\ig w ex ok qe:=by have:=HL.o.2.2.1;rw[hex] at this;exact this
   unfold ptr at hpe;cases hpe;have vT:mO ex:=HW.o ex hex;obtain ⟨hqe,vk,Im⟩:=hxe.root;have Dj:=HL.o.2.1 qe hqe;have hm:Hid (M1=if Px.isK (iC ex k).1 105 then (iC ex k).2 else Px.say 6 ex.pl (iC ex k).2):=by unfold Hid;rw[<- Wo.o,hex];rfl
   have XE:Hid (ig w ex ok qe/\w.heap[qe]?=some (.cells #[.int .u8 (ex.op:Int),.int .i64 (ex.n:Int),.string ex.fD,.int .i64 (ex.pl:Int),.int .i64 (ex.own:Int),vk] 260)):=⟨hxe,Im⟩;clear hex hxe Im;generalize hr:iC ex k=r at *;have HR:Hid (_):=hr;clear hr;go_wp2_with fail;refine (uL c ex vT k _ ok qe XE.o.1 HL.o.2.1 HL.o.1).mono ?_;rw[HR.o];rintro e w1 ⟨rfl,l1,b1⟩;have vK:w1.heap[q]?=_:=(b1.block q hqc).trans HL.o.2.2.2;have hg1:w1.heap[qe]?=_:=(b1.block qe Dj).trans XE.o.2;obtain ⟨f0,f1,f2,f3,f4,f5,f6,f7,f8,f9,f10,ff⟩:=kG vK;obtain ⟨g0,g1,g2,g3,g4,g5,gf⟩:=nH hg1
   have L1:Hid (iy w1 c r.2/\Below c w w1):=⟨l1,b1⟩;clear l1 b1 vK hg1 d0 d1 d2 d3 d4 d5 d6 d7 d8 d9 jT df;cases hi:Px.isK r.1 105
   ·go_wp2_with fail;refine (pW r.1 105 _).mono ?_;rintro e w' ⟨rfl,rfl⟩;go_wp2_with fail;refine (vH c 6 ex.pl r.2 _ L1.o.1).mono ?_;rintro e w2 ⟨rfl,l2,b2⟩;have L2:Hid (_/\_):=⟨l2,b2⟩;clear l2 b2;go_wp2_with fail;go_meet
    case rel =>
     refine ⟨?_,L1.o.2.trans L2.o.2⟩;rw[hm.o,hi];exact L2.o.1
   ·go_wp2_with fail;refine (pW r.1 105 _).mono ?_;rintro e w' ⟨rfl,rfl⟩;go_wp2_with fail;go_meet
    case rel =>
     refine ⟨?_,L1.o.2⟩;rw[hm.o,hi];exact L1.o.1
 case rest =>
 have C1:Hid (_):=hcut;have Aa:wc.heap[q]?=_:=(C1.o.2.block q hqc).trans HL.o.2.2.2;obtain ⟨j0,j1,j2,j3,j4,j5,j6,j7,j8,j9,j10,jf⟩:=kG Aa;clear hcut Aa d0 d1 d2 d3 d4 d5 d6 d7 d8 d9 jT df;go_upto_if 59 with fail
 go_cut [] (fun wd=>Hid (iy wd c M2/\Below c w wd))
 case first =>
  cases ha:x.gu.toList.isEmpty
  ·go_wp2_with fail;go_region_with (go_at_call 122;refine (Ic c x.gu x.fZ 105 M1 _ C1.o.1.drew (by rw[HV.o];omega)).mono ?_;rintro e w2 ⟨rfl,l2,b2⟩;have L2:Hid (_/\_):=⟨l2,b2⟩;clear l2 b2)
   all_goals
    go_wp2_with fail;go_meet
    case rel =>
     refine ⟨?_,C1.o.2.drew.trans L2.o.2⟩;rw[<- Wp.o,ha];exact L2.o.1
  ·go_wp2_with fail;go_meet
   case rel =>
    refine ⟨?_,C1.o.2⟩;rw[<- Wp.o,ha];exact C1.o.1
 case rest =>
 have C2:Hid (_):=hcut;have hh3:wc.heap[q]?=_:=(C2.o.2.block q hqc).trans HL.o.2.2.2;obtain ⟨m0,m1,m2,m3,m4,m5,m6,m7,m8,m9,m10,mf⟩:=kG hh3;clear hcut hh3 j0 j1 j2 j3 j4 j5 j6 j7 j8 j9 j10 jf;by_cases hn1:x.n < 1
 ·have t1:(x.n:Int) < 1:=by omega
  go_wp2_with fail;refine (vH c 4 x.gG M2 _ C2.o.1).mono ?_;rintro e w2 ⟨rfl,l2,b2⟩;have L2:Hid (_/\_):=⟨l2,b2⟩;clear l2 b2;go_wp2_with fail;go_end0
  rw[eX.o,if_pos (by omega)]
  exact ⟨rfl,L2.o.1,C2.o.2.trans L2.o.2⟩
 ·have t1:¬ (x.n:Int) < 1:=by omega
  by_cases hn2:5 < x.n
  ·have t2:(5:Int) < x.n:=by omega
   go_wp2_with fail;refine (vH c 4 x.gG M2 _ C2.o.1).mono ?_;rintro e w2 ⟨rfl,l2,b2⟩;have L2:Hid (_/\_):=⟨l2,b2⟩;clear l2 b2;go_wp2_with fail;go_end0
   rw[eX.o,if_pos (by omega)]
   exact ⟨rfl,L2.o.1,C2.o.2.trans L2.o.2⟩
  ·have t2:¬ (5:Int) < x.n:=by omega
   go_wp2_with fail;go_end0
   rw[eX.o,if_neg (by omega)]
   exact ⟨rfl,C2.o.1,C2.o.2⟩
theorem Hx (c:Nat)(x:Sm)(i1:z8 c x.one)(i2:z8 c x.two):zZ c x:=by
 intro k w ok q hx hok hl hw h1 h2 hc;rcases hw.2 with h | h | h | h | h | h
 ·exact Hp c x h.1 k w ok q hx hok hl hw h1 h2 hc
 ·exact Hv c x h k w ok q hx hok hl hw h1 h2 hc
 ·exact Hs c x h.1 i1 i2 k w ok q hx hok hl hw h1 h2 hc
 ·exact Hm c x h i1 i2 k w ok q hx hok hl hw h1 h2 hc
 ·exact Hn c x h i1 k w ok q hx hok hl hw h1 h2 hc
 ·exact Hk c x h k w ok q hx hok hl hw h1 h2 hc
theorem Mr (c:Nat)(l:List Sm):∀ i (hi:i < l.length),zZ c l[i]:=by
 match l with
 | []=>intro i hi;simp at hi
 | ⟨op,fD,pl,ex,gu,fZ,undo,n,gG,one,two⟩::rest =>
  intro i hi;cases i with
  | zero=>exact Hx c _ (Il c one (Mr c one)) (Il c two (Mr c two))
  | succ i=>exact Mr c rest i (by simpa using hi)
theorem Is (c:Nat)(l:List Sm):z8 c l:=Il c l (Mr c l)
theorem PV (s:fq)(w:fu)(hs:s.size<=maxLen):Calls prog 28 #[.string s] w (Pp s w):=by
 by_cases h:300 < s.size
 ·exact C7 s w h hs
 ·exact Dd s w (by omega)
def gB (B c:Nat)(V:Vs)(s':Rs)(vv:fC)(w:fu)(e:Ending)(w':fu):Prop :=
 e=.returned (.tuple #[])/\Below B w w'/\∃ vh vl va vp pv,St w' B c V s' vv vh vl va vp pv []
def oz (B c:Nat)(V:Vs)(f:Nat)(x:Sm):Prop:=∀ (s:Rs) (w:fu) (ok:Nat->Prop) (q:Nat) (vv vh vl va vp:fC) (pv:List fC),mh w x ok q->(∀ i,ok i->i < B)->St w B c V s vv vh vl va vp pv []->s.held.length=V.length->s.going=true->s.fG≠[]->s.fG.flatten.length<=s.fI.length->s.fG.length+1+Px.cnt x.one+Px.cnt x.two<=1000000->(gT V x s).fI.length<=1000000000 ->
 Calls prog f #[.pointer (some ⟨c,0,none⟩),.pointer (some ⟨q,0,none⟩)] w (gB B c V (gT V x s) vv w)
theorem Mt {s:Rs}(h:s.going=true):s.over=0/\s.stop=false/\s.failed=false:=by
 unfold Rs.going at h;rw[aZ,aZ,beq_iff_eq,dB,dB] at h;exact ⟨h.1.1,h.1.2,h.2⟩
theorem Wq:(prog.info? 190).map (fun i=>(i.zero,i.size,i.bytes))=some (some (.agg #[.string ⟨#[]⟩,.int .i64 0]),2,24):=by kernel_rfl
theorem Mv {W:fu}{b:Nat}{p q:fC}{t:TypeId}(h:W.heap[b]?=some (.cells #[p,q] t)):∀ j u,[p,q][j]?=some u->W.cell? ((⟨b,0,none⟩:Addr).add j)=some u:=by
 intro j u hj;match j,hj with
 | 0,hj=>simp at hj;subst hj;simp[Addr.add,World.cell?,h]
 | 1,hj=>simp at hj;subst hj;simp[Addr.add,World.cell?,h]
def Io (B c:Nat)(V:Vs)(l:List Sm):Prop:=∀ (s:Rs) (w:fu) (ok:Nat->Prop) (v:fC) (qs:List Nat) (vv vh vl va vp:fC) (pv:List fC),iq w v qs ok->fV w l ok qs->(∀ i,ok i->i < B)->St w B c V s vv vh vl va vp pv []->s.held.length=V.length->s.fG≠[]->s.fG.flatten.length<=s.fI.length->s.fG.length+Px.cnt l<=1000000->(gJ V l s).fI.length<=1000000000 ->
 Calls prog 30 #[.pointer (some ⟨c,0,none⟩),v] w (gB B c V (gJ V l s) vv w)
