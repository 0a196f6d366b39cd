import Derived.Test.YtgkhgealpneodaaGreatDoorG05
import Derived.Test.YtgkhgealpneodaaGreatDoorG01
set_option maxRecDepth 100000
set_option maxHeartbeats 2000000
namespace Go.Proofs.YtgkhgealpneodaaGreatDoor
open Go.RowKit Tryz
namespace Ref
open Px
theorem zhf(c:Nat)(x:Sm)(hop:x.op=102):Bp c x:=by
 intro k w ok q hx hok hl hw h1 h2 hc;obtain⟨hq,ve,v1,v2,q1,q2,hv,_⟩:=hx;obtain⟨d0,d1,d2,d3,d4,d5,d6,d7,d8,d9,kJ,df⟩:=jy hv;rw[hop]at d0;have HL:Hid _:=hl;have e1:Hid (qF x k=k):=by unfold Hid qF;simp[hop]
 go_enter func40,ntmps40;go_wp2_with fail;go_end0
 rw[e1.o];exact⟨rfl,HL.o,aF _ _⟩
theorem zm9(c:Nat)(x:Sm)(hop:x.op=116)(i1:Br c x.one)(i2:Br c x.two):Bp c x:=by
 intro k w ok q hx hok hl hw h1 h2 hc;obtain⟨hq,ve,v1,v2,q1,q2,hv,e3,e4,e5,e6,e7⟩:=hx;obtain⟨d0,d1,d2,d3,d4,d5,d6,d7,d8,d9,kJ,df⟩:=jy hv;rw[hop]at d0;have hqc:=hok q hq;have HL:Hid (jk w c k/\(∀i,ok i->i<c)/\(jc w v1 q1 ok/\gF w x.one ok q1)/\(jc w v2 q2 ok/\gF w x.two ok q2)/\jZ x.one/\jZ x.two/\w.heap[q]?=some (.cells (p9 x ve v1 v2) 172)):=⟨hl,hok,⟨e4,e5⟩,⟨e6,e7⟩,h1,h2,hv⟩;have hv1:=zh x.one k;have eX:Hid (qF x k=jv x.two (jv x.one k)):=by unfold Hid qF;simp[hop]
 obtain⟨a1,n1,c1,rfl⟩:∃a n c,v1=.slice a n c:=by obtain⟨a,c',h,_⟩:=HL.o.2.2.1.1.len;exact⟨_,_,_,h⟩
 obtain⟨a2,n2,c2,rfl⟩:∃a n c,v2=.slice a n c:=by obtain⟨a,c',h,_⟩:=HL.o.2.2.2.1.1.len;exact⟨_,_,_,h⟩
 go_enter func40,ntmps40;go_wp2_with fail;refine(i1 k _ ok _ q1 HL.o.2.2.1.1 HL.o.2.2.1.2 HL.o.2.1 HL.o.1 HL.o.2.2.2.2.1 (by omega)).mono ?_;rintro e w1 ⟨rfl,l1,b1⟩;have Bt:w1.heap[q]?=_:=(b1.block q hqc).trans HL.o.2.2.2.2.2.2;obtain⟨f0,f1,f2,f3,f4,f5,f6,f7,f8,f9,f10,ff⟩:=jy Bt;have hk:∀i,ok i->w1.heap[i]?=w.heap[i]?:=fun i hi=>b1.block i (HL.o.2.1 i hi);have L1:Hid (jk w1 c (jv x.one k)/\Below c w w1/\jc w1 _ q2 ok/\gF w1 x.two ok q2):=⟨l1,b1,HL.o.2.2.2.1.1.keep hk,HL.o.2.2.2.1.2.keep hk⟩;go_wp2_with fail;refine(i2 _ _ ok _ q2 L1.o.2.2.1 L1.o.2.2.2 HL.o.2.1 L1.o.1 HL.o.2.2.2.2.2.1 (by omega)).mono ?_;rintro e w2 ⟨rfl,l2,b2⟩;have L2:Hid (_/\_):=⟨l2,b2⟩;go_wp2_with fail;go_end0
 rw[eX.o];exact⟨rfl,L2.o.1,L1.o.2.1.trans L2.o.2⟩
theorem zna(c:Nat)(x:Sm)(hop:x.op=114)(i1:Br c x.one):Bp c x:=by
 intro k w ok q hx hok hl hw h1 h2 hc;obtain⟨hq,ve,v1,v2,q1,q2,hv,e3,e4,e5,e6,e7⟩:=hx;obtain⟨d0,d1,d2,d3,d4,d5,d6,d7,d8,d9,kJ,df⟩:=jy hv;rw[hop]at d0;have hqc:=hok q hq;have HL:Hid (jk w c k/\(∀i,ok i->i<c)/\(jc w v1 q1 ok/\gF w x.one ok q1)/\jZ x.one/\w.heap[q]?=some (.cells (p9 x ve v1 v2) 172)):=⟨hl,hok,⟨e4,e5⟩,h1,hv⟩;obtain⟨a1,n1,c1,rfl⟩:∃a n c,v1=.slice a n c:=by obtain⟨a,c',h,_⟩:=HL.o.2.2.1.1.len;exact⟨_,_,_,h⟩
 by_cases h9:9<x.n
 ·have eX:Hid (qF x k=jv x.one (Px.say 4 x.gZ k)):=by unfold Hid qF;simp[hop,h9]
  have hv1:=A8 4 x.gZ k;have HV:Hid _:=hv1;go_enter func40,ntmps40;go_wp2_with fail;refine(wQ c 4 x.gZ k _ HL.o.1).mono ?_;rintro e w1 ⟨rfl,l1,b1⟩;have Bt:w1.heap[q]?=_:=(b1.block q hqc).trans HL.o.2.2.2.2;obtain⟨f0,f1,f2,f3,f4,f5,f6,f7,f8,f9,f10,ff⟩:=jy Bt;have hk:∀i,ok i->w1.heap[i]?=w.heap[i]?:=fun i hi=>b1.block i (HL.o.2.1 i hi);have L1:Hid (jk w1 c (Px.say 4 x.gZ k)/\Below c w w1/\jc w1 _ q1 ok/\gF w1 x.one ok q1):=⟨l1,b1,HL.o.2.2.1.1.keep hk,HL.o.2.2.1.2.keep hk⟩;go_wp2_with fail;refine(i1 _ _ ok _ q1 L1.o.2.2.1 L1.o.2.2.2 HL.o.2.1 L1.o.1 HL.o.2.2.2.1 (by rw[HV.o];omega)).mono ?_;rintro e w2 ⟨rfl,l2,b2⟩;have L2:Hid (_/\_):=⟨l2,b2⟩;go_wp2_with fail;go_end0
  rw[eX.o];exact⟨rfl,L2.o.1,L1.o.2.1.trans L2.o.2⟩
 have eX:Hid (qF x k=jv x.one k):=by unfold Hid qF;simp[hop,h9]
 go_enter func40,ntmps40;go_wp2_with fail;refine(i1 k _ ok _ q1 HL.o.2.2.1.1 HL.o.2.2.1.2 HL.o.2.1 HL.o.1 HL.o.2.2.2.1 (by omega)).mono ?_;rintro e w2 ⟨rfl,l2,b2⟩;have L2:Hid (_/\_):=⟨l2,b2⟩;go_wp2_with fail;go_end0
 rw[eX.o];exact⟨rfl,L2.o⟩
theorem znc(c:Nat)(x:Sm)(hop:x.op=108):Bp c x:=by
 intro k w ok q hx hok hl hw h1 h2 hc;obtain⟨hq,ve,v1,v2,q1,q2,hv,e3,e4,e5,e6,e7⟩:=hx;obtain⟨d0,d1,d2,d3,d4,d5,d6,d7,d8,d9,kJ,df⟩:=jy hv;rw[hop]at d0;have hqc:=hok q hq;obtain⟨ex,hex⟩:∃ex,x.ex=some ex:=by
  obtain h|h|h|h|h|h:=hw.2;·cases hx:x.ex with| none=>exact absurd hx h.2| some e=>exact⟨e,rfl⟩
  all_goals omega
 rw[hex]at e3;obtain⟨qe,rfl,hxe⟩:=e3;have xk:nU ex:=hw.1 ex hex;have eX:Hid (qF x k=oQ x.eH x.pl (jr ex k).1 (jr ex k).2):=by unfold Hid qF;simp[hop,hex]
 have HV:Hid ((jr ex k).2.vars=k.vars):=Aq ex k;have HL:Hid (jk w c k/\(∀i,ok i->i<c)/\ji w ex ok qe/\w.heap[q]?=some (.cells (p9 x (ptr qe) v1 v2) 172)):=⟨hl,hok,hxe,hv⟩;unfold ptr at d3;generalize hr:jr ex k=r at *;have HR:Hid _:=hr;go_enter func40,ntmps40;go_wp2_with fail;refine(vY c ex xk k _ ok qe HL.o.2.2.1 HL.o.2.1 HL.o.1).mono ?_;rw[HR.o];rintro e w1 ⟨rfl,l1,b1⟩;have Bt:w1.heap[q]?=_:=(b1.block q hqc).trans HL.o.2.2.2;obtain⟨f0,f1,f2,f3,f4,f5,f6,f7,f8,f9,f10,ff⟩:=jy Bt;have L1:Hid (jk w1 c r.2/\Below c w w1):=⟨l1,b1⟩;go_wp2_with fail;go_region_with (go_at_call 76;refine(Js c x.eH x.pl r.1 r.2 _ L1.o.1.drew (by rw[HV.o];omega)).mono ?_;rintro e w2 ⟨rfl,l2,b2⟩;have L2:Hid (_/\_):=⟨l2,b2⟩;clear l2 b2)
 all_goals
  go_wp2_with fail;go_end0
  rw[eX.o];exact⟨rfl,L2.o.1,L1.o.2.drew.trans L2.o.2⟩
theorem zte(c:Nat)(x:Sm)(hop:x.op=105)(i1:Br c x.one)(i2:Br c x.two):Bp c x:=by
 intro k w ok q hx hok hl hw h1 h2 hc;obtain⟨hq,ve,v1,v2,q1,q2,hv,e3,e4,e5,e6,e7⟩:=hx;obtain⟨d0,d1,d2,d3,d4,d5,d6,d7,d8,d9,kJ,df⟩:=jy hv;rw[hop]at d0;have hqc:=hok q hq;obtain⟨ex,hex⟩:∃ex,x.ex=some ex:=by
  obtain h|h|h|h|h|h:=hw.2;·omega
  ·omega
  ·cases hx:x.ex with| none=>exact absurd hx h.2| some e=>exact⟨e,rfl⟩
  all_goals omega
 rw[hex]at e3;obtain⟨qe,rfl,hxe⟩:=e3;have xk:nU ex:=hw.1 ex hex;obtain⟨hqe,vk,Q8⟩:=hxe.root;have EF:=hok qe hqe;have eX:Hid (qF x k=jv x.two (jv x.one (nD (some ex) 98 k))):=by unfold Hid qF;simp[hop,hex]
 have HV:Hid ((nD (some ex) 98 k).vars=k.vars):=D9 _ _ _;have eM:Hid (nD (some ex) 98 k=if jL (jr ex k).1 98 then(jr ex k).2 else Px.say 6 ex.pl (jr ex k).2):=rfl;have HL:Hid (jk w c k/\(∀i,ok i->i<c)/\ji w ex ok qe/\(jc w v1 q1 ok/\gF w x.one ok q1)/\(jc w v2 q2 ok/\gF w x.two ok q2)/\jZ x.one/\jZ x.two/\w.heap[q]?=some (.cells (p9 x (ptr qe) v1 v2) 172)/\w.heap[qe]?=some (.cells #[.int .u8 (ex.op:Int),eF (ex.n:Int),.string ex.eH,eF (ex.pl:Int),eF (ex.own:Int),vk] 184)):=⟨hl,hok,hxe,⟨e4,e5⟩,⟨e6,e7⟩,h1,h2,hv,Q8⟩;unfold ptr at d3;have hv1:=zh x.one (nD (some ex) 98 k);rw[HV.o]at hv1;obtain⟨a1,n1,c1,rfl⟩:∃a n c,v1=.slice a n c:=by obtain⟨a,c',h,_⟩:=HL.o.2.2.2.1.1.len;exact⟨_,_,_,h⟩
 obtain⟨a2,n2,c2,rfl⟩:∃a n c,v2=.slice a n c:=by obtain⟨a,c',h,_⟩:=HL.o.2.2.2.2.1.1.len;exact⟨_,_,_,h⟩
 generalize hM:nD (some ex) 98 k=M at *;generalize hr:jr ex k=r at *;have HR:Hid _:=hr;go_enter func40,ntmps40;go_wp2_with fail;refine(vY c ex xk k _ ok qe HL.o.2.2.1 HL.o.2.1 HL.o.1).mono ?_;rw[HR.o];rintro e w1 ⟨rfl,l1,b1⟩;have Bt:w1.heap[q]?=_:=(b1.block q hqc).trans HL.o.2.2.2.2.2.2.2.1;have hg1:w1.heap[qe]?=_:=(b1.block qe EF).trans HL.o.2.2.2.2.2.2.2.2;obtain⟨f0,f1,f2,f3,f4,f5,f6,f7,f8,f9,f10,ff⟩:=jy Bt;obtain⟨g0,g1,g2,g3,g4,g5,gf⟩:=oD hg1;unfold ptr at f3;have L1:Hid (jk w1 c r.2/\Below c w w1):=⟨l1,b1⟩;go_wp2_with fail;refine(qJ r.1 98 _).mono ?_;rintro e w' ⟨rfl,rfl⟩;go_upto_if 98 with fail
 go_cut [] (fun wc=>Hid (jk wc c M/\Below c w wc))
 case first=>
  cases hi:jL r.1 98
  ·go_wp2_with fail;refine(wQ c 6 ex.pl r.2 _ L1.o.1).mono ?_;rintro e w2 ⟨rfl,l2,b2⟩;have L2:Hid (_/\_):=⟨l2,b2⟩;go_wp2_with fail;go_meet
   case rel=>
    refine⟨?_,L1.o.2.trans L2.o.2⟩;rw[eM.o,hi];exact L2.o.1
  go_wp2_with fail;go_meet
  case rel=>
   refine⟨?_,L1.o.2⟩;rw[eM.o,hi];exact L1.o.1
 case rest=>
 have C1:Hid _:=hcut;have EH:wc.heap[q]?=_:=(C1.o.2.block q hqc).trans HL.o.2.2.2.2.2.2.2.1;obtain⟨j0,j1,j2,j3,j4,j5,j6,j7,j8,j9,j10,jf⟩:=jy EH;have hk2:∀i,ok i->wc.heap[i]?=w.heap[i]?:=fun i hi=>C1.o.2.block i (HL.o.2.1 i hi);have S1:Hid ((jc wc _ q1 ok/\gF wc x.one ok q1)):=⟨HL.o.2.2.2.1.1.keep hk2,HL.o.2.2.2.1.2.keep hk2⟩;go_wp2_with fail;refine(i1 M _ ok _ q1 S1.o.1 S1.o.2 HL.o.2.1 C1.o.1 HL.o.2.2.2.2.2.1 (by rw[HV.o];omega)).mono ?_;rintro e w3 ⟨rfl,l3,b3⟩;have bb:Below c w w3:=C1.o.2.trans b3;have hh3:w3.heap[q]?=_:=(bb.block q hqc).trans HL.o.2.2.2.2.2.2.2.1;obtain⟨m0,m1,m2,m3,m4,m5,m6,m7,m8,m9,m10,mf⟩:=jy hh3;have hk3:∀i,ok i->w3.heap[i]?=w.heap[i]?:=fun i hi=>bb.block i (HL.o.2.1 i hi);have S2:Hid (jk w3 c (jv x.one M)/\Below c w w3/\(jc w3 _ q2 ok/\gF w3 x.two ok q2)):=⟨l3,bb,HL.o.2.2.2.2.1.1.keep hk3,HL.o.2.2.2.2.1.2.keep hk3⟩;go_wp2_with fail;refine(i2 _ _ ok _ q2 S2.o.2.2.1 S2.o.2.2.2 HL.o.2.1 S2.o.1 HL.o.2.2.2.2.2.2.1 (by omega)).mono ?_;rintro e w4 ⟨rfl,l4,b4⟩;have L4:Hid (_/\_):=⟨l4,b4⟩;go_wp2_with fail;go_end0
 rw[eX.o];exact⟨rfl,L4.o.1,S2.o.2.1.trans L4.o.2⟩
theorem zhg(c:Nat)(x:Sm)(hop:x.op=99):Bp c x:=by
 intro k w ok q hx hok hl hw h1 h2 hc;obtain⟨hq,ve,v1,v2,q1,q2,hv,e3,e4,e5,e6,e7⟩:=hx;obtain⟨d0,d1,d2,d3,d4,d5,d6,d7,d8,d9,kJ,df⟩:=jy hv;rw[hop]at d0;have hqc:=hok q hq;have HW:Hid _:=hw.1;generalize hM1:nD x.ex 105 k=M1;generalize hM2:(if x.gH.toList.isEmpty then M1 else oQ x.gH x.gG 105 M1)=M2;have eX:Hid (qF x k=if x.n<1\/5<x.n then Px.say 4 x.gZ M2 else M2):=by unfold Hid qF;rw[ah (by omega),aA hop];simp only[hM1,hM2]
 have Xj:Hid _:=hM1;have Xk:Hid _:=hM2;have HV:Hid (M1.vars=k.vars):=by unfold Hid;rw[<- hM1];exact D9 _ _ _
 have HL:Hid (jk w c k/\(∀i,ok i->i<c)/\yx w x.ex ok ve/\w.heap[q]?=some (.cells (p9 x ve v1 v2) 172)):=⟨hl,hok,e3,hv⟩;obtain⟨pe,rfl⟩:∃pe,ve=.pointer pe:=by have:=HL.o.2.2.1;cases hx:x.ex with| none=>rw[hx]at this;exact⟨_,this⟩| some e=>rw[hx]at this;obtain⟨qe,h,_⟩:=this;exact⟨_,h⟩
 go_enter func40,ntmps40;go_upto_if 36 with fail
 go_cut [5] (fun _ wc=>Hid (jk wc c M1/\Below c w wc))
 case first=>
  cases hex:x.ex with
  |none=>
   have hpe:(Value.pointer pe)=.pointer none:=by have:=HL.o.2.2.1;rw[hex]at this;exact this
   cases hpe;have hm:Hid (k=M1):=by unfold Hid;rw[<- Xj.o,hex];rfl
   go_wp2_with fail;go_meet
   case rel=>
    refine⟨?_,aF _ _⟩;rw[<- hm.o];exact HL.o.1
  |some ex=>
  obtain⟨qe,hpe,hxe⟩:∃qe,Value.pointer pe=ptr qe/\ji w ex ok qe:=by have:=HL.o.2.2.1;rw[hex]at this;exact this
  unfold ptr at hpe;cases hpe;have xk:nU ex:=HW.o ex hex;obtain⟨hqe,vk,Q8⟩:=hxe.root;have EF:=HL.o.2.1 qe hqe;have hm:Hid (M1=if jL (jr ex k).1 105 then(jr ex k).2 else Px.say 6 ex.pl (jr ex k).2):=by unfold Hid;rw[<- Xj.o,hex];rfl
  have XE:Hid (ji w ex ok qe/\w.heap[qe]?=some (.cells #[.int .u8 (ex.op:Int),eF (ex.n:Int),.string ex.eH,eF (ex.pl:Int),eF (ex.own:Int),vk] 184)):=⟨hxe,Q8⟩;generalize hr:jr ex k=r at *;have HR:Hid _:=hr;go_wp2_with fail;refine(vY c ex xk k _ ok qe XE.o.1 HL.o.2.1 HL.o.1).mono ?_;rw[HR.o];rintro e w1 ⟨rfl,l1,b1⟩;have Bt:w1.heap[q]?=_:=(b1.block q hqc).trans HL.o.2.2.2;have hg1:w1.heap[qe]?=_:=(b1.block qe EF).trans XE.o.2;obtain⟨f0,f1,f2,f3,f4,f5,f6,f7,f8,f9,f10,ff⟩:=jy Bt;obtain⟨g0,g1,g2,g3,g4,g5,gf⟩:=oD hg1;have L1:Hid (jk w1 c r.2/\Below c w w1):=⟨l1,b1⟩;cases hi:jL r.1 105
  ·go_wp2_with fail;refine(qJ r.1 105 _).mono ?_;rintro e w' ⟨rfl,rfl⟩;go_wp2_with fail;refine(wQ c 6 ex.pl r.2 _ L1.o.1).mono ?_;rintro e w2 ⟨rfl,l2,b2⟩;have L2:Hid (_/\_):=⟨l2,b2⟩;go_wp2_with fail;go_meet
   case rel=>
    refine⟨?_,L1.o.2.trans L2.o.2⟩;rw[hm.o,hi];exact L2.o.1
  go_wp2_with fail;refine(qJ r.1 105 _).mono ?_;rintro e w' ⟨rfl,rfl⟩;go_wp2_with fail;go_meet
  case rel=>
   refine⟨?_,L1.o.2⟩;rw[hm.o,hi];exact L1.o.1
 case rest=>
 have C1:Hid _:=hcut;have EH:wc.heap[q]?=_:=(C1.o.2.block q hqc).trans HL.o.2.2.2;obtain⟨j0,j1,j2,j3,j4,j5,j6,j7,j8,j9,j10,jf⟩:=jy EH;go_upto_if 59 with fail
 go_cut [] (fun wd=>Hid (jk wd c M2/\Below c w wd))
 case first=>
  cases ha:x.gH.toList.isEmpty
  ·go_wp2_with fail;go_region_with (go_at_call 76;refine(Js c x.gH x.gG 105 M1 _ C1.o.1.drew (by rw[HV.o];omega)).mono ?_;rintro e w2 ⟨rfl,l2,b2⟩;have L2:Hid (_/\_):=⟨l2,b2⟩;clear l2 b2)
   all_goals
    go_wp2_with fail;go_meet
    case rel=>
     refine⟨?_,C1.o.2.drew.trans L2.o.2⟩;rw[<- Xk.o,ha];exact L2.o.1
  go_wp2_with fail;go_meet
  case rel=>
   refine⟨?_,C1.o.2⟩;rw[<- Xk.o,ha];exact C1.o.1
 case rest=>
 have C2:Hid _:=hcut;have hh3:wc.heap[q]?=_:=(C2.o.2.block q hqc).trans HL.o.2.2.2;obtain⟨m0,m1,m2,m3,m4,m5,m6,m7,m8,m9,m10,mf⟩:=jy hh3;by_cases hn1:x.n<1
 ·have t1:(x.n:Int)<1:=by omega
  go_wp2_with fail;refine(wQ c 4 x.gZ M2 _ C2.o.1).mono ?_;rintro e w2 ⟨rfl,l2,b2⟩;have L2:Hid (_/\_):=⟨l2,b2⟩;go_wp2_with fail;go_end0
  rw[eX.o,aA (by omega)];exact⟨rfl,L2.o.1,C2.o.2.trans L2.o.2⟩
 have t1:¬(x.n:Int)<1:=by omega
 by_cases hn2:5<x.n
 ·have t2:(5:Int)<x.n:=by omega
  go_wp2_with fail;refine(wQ c 4 x.gZ M2 _ C2.o.1).mono ?_;rintro e w2 ⟨rfl,l2,b2⟩;have L2:Hid (_/\_):=⟨l2,b2⟩;go_wp2_with fail;go_end0
  rw[eX.o,aA (by omega)];exact⟨rfl,L2.o.1,C2.o.2.trans L2.o.2⟩
 have t2:¬(5:Int)<x.n:=by omega
 go_wp2_with fail;go_end0
 rw[eX.o,ah (by omega)];exact⟨rfl,C2.o.1,C2.o.2⟩
theorem znb(c:Nat)(x:Sm)(i1:Br c x.one)(i2:Br c x.two):Bp c x:=by
 intro k w ok q hx hok hl hw h1 h2 hc;obtain h|h|h|h|h|h:=hw.2;·exact znc c x h.1 k w ok q hx hok hl hw h1 h2 hc
 ·exact zhg c x h k w ok q hx hok hl hw h1 h2 hc
 ·exact zte c x h.1 i1 i2 k w ok q hx hok hl hw h1 h2 hc
 ·exact zm9 c x h i1 i2 k w ok q hx hok hl hw h1 h2 hc
 ·exact zna c x h i1 k w ok q hx hok hl hw h1 h2 hc
 exact zhf c x h k w ok q hx hok hl hw h1 h2 hc
theorem Nw(c:Nat)(l:List Sm):∀i(hi:i<l.length),Bp c l[i]:=by
 match l with
 |[]=>intro i hi;simp at hi
 |⟨op,eH,pl,ex,gH,gG,undo,n,gZ,one,two⟩::rest=>
 intro i hi;cases i with| zero=>exact znb c _ (JC c one (Nw c one)) (JC c two (Nw c two))| succ i=>exact Nw c rest i (by simpa using hi)
theorem Xl(c:Nat)(l:List Sm):Br c l:=JC c l (Nw c l)
theorem Xm(s:dX)(w:dY)(hs:s.size<=maxLen):fI 18 #[.string s] w (QN s w):=by
 by_cases h:300<s.size;·exact Wg s w h hs
 exact Wk s w (by omega)
def zyk(s:dX)(w:dY)(e:Ending)(w':dY):Prop:=
 gU w w'/\∃a n c a' n' c',e=fM (.tuple #[.slice a n c,.slice a' n' c',eF ((gI s).1:Int),eF ((gI s).2:Int)]) /\
  ((gI s).1=0->∃l qs,Px.read s=.ok l/\jc w' (.slice a n c) qs (gD w w')/\gF w' l (gD w w') qs)
theorem qrh(s:dX)(w:dY)(hs:s.size<=maxLen):fI 7 #[.string s] w (zyk s w):=by
 go_enter func7,ntmps7;go_wp2_with fail;refine(Xm s _ hs).mono ?_;rintro e w1 ⟨hb,a,n,c,x,p,rfl,hr⟩;cases hrd:Px.read s with
 |error r=>
  obtain⟨c',p'⟩:=r;rw[hrd]at hr;obtain⟨rfl,rfl,rfl,rfl,rfl⟩:=hr;have hx0:x≠0:=by
   unfold Px.read at hrd;split at hrd;·cases hrd;omega
   split at hrd;·cases hrd;omega
   split at hrd;·cases hrd;omega
   cases hrd
  have t1:((x:Int) != 0)=true:=by rw[bne_iff_ne];omega
  have ck:Hid (gI s=(x,p)):=by unfold Hid gI;rw[hrd]
  have B:Hid _:=hb;go_wp2_with fail;refine bodyPost_ret (v:=.tuple #[iE,iE,eF (x:Int),eF (p:Int)]) (by simp[results,results7,go_sem]) rfl ?_;refine⟨B.o,none,0,0,none,0,0,by rw[ck.o],fun h=>?_⟩;rw[ck.o]at h;exact absurd h hx0
 |ok l=>
 rw[hrd]at hr;obtain⟨rfl,rfl,qs,h1,h2⟩:=hr;obtain⟨wf,hcnt⟩:=Ao hrd;generalize hK:jv l ⟨[],0,0⟩=K;have ck:Hid (gI s=if K.e=0 then(0,0)else(K.e,K.pl)):=by unfold Hid gI;rw[hrd];simp only[hK]
 have HH:Hid (gU w w1/\jc w1 (.slice a n c) qs (gD w w1)/\gF w1 l (gD w w1) qs/\jZ l/\Px.read s=.ok l/\jv l ⟨[],0,0⟩=K):=⟨hb,h1,h2,wf,hrd,hK⟩;have HL:Hid (jk (w1.alloc (.cells #[iE,eF 0,eF 0] 58)) w1.heap.size ⟨[],0,0⟩):=by refine⟨none,0,0,?_,aX _ _ _ _⟩;show(w1.heap.push _)[w1.heap.size]?=_;rw[aD,aA rfl];rfl
 go_wp2_with fail;refine(Xl w1.heap.size l ⟨[],0,0⟩ _ (gD w w1) _ qs (HH.o.2.1.keep fun i hi=>aI _ _ _ hi.2) (HH.o.2.2.1.keep fun i hi=>aI _ _ _ hi.2) (fun i hi=>hi.2) HL.o HH.o.2.2.2.1 (by simp;omega)).mono ?_;rw[HH.o.2.2.2.2.2];rintro e w2 ⟨rfl,l2,b2⟩;obtain⟨va,vn,vc,g1,g2⟩:=l2.ex;obtain⟨c0,c1,c2,cf⟩:=cells3 g1;have bW:gU w w2:=(HH.o.1.alloc HH.o.1.size _).trans (b2.mono HH.o.1.size);have hkeep:∀i,gD w w1 i->w2.heap[i]?=w1.heap[i]?:=fun i hi=>by rw[b2.block i hi.2,aI _ _ _ hi.2]
 have hz2:w1.heap.size<w2.heap.size:=lt_of_cell c0;have H2:Hid (gU w w2/\jc w2 (.slice a n c) qs (gD w w2)/\gF w2 l (gD w w2) qs):=⟨bW,(HH.o.2.1.keep hkeep).mono fun i hi=>⟨hi.1,by have:=hi.2;omega⟩,(HH.o.2.2.1.keep hkeep).mono fun i hi=>⟨hi.1,by have:=hi.2;omega⟩⟩;by_cases hE:K.e=0
 ·have t1:((K.e:Int) != 0)=false:=by rw[hE];rfl
  have HE:Hid _:=hE;go_wp2_with fail;go_region
  go_wp2_with fail;refine bodyPost_ret (v:=.tuple #[.slice a n c,.slice va vn vc,eF 0,eF 0]) (by simp[results,results7,go_sem]) rfl ?_;refine⟨H2.o.1.drew,a,n,c,va,vn,vc,by rw[ck.o,aA HE.o];rfl,fun h=>⟨l,qs,HH.o.2.2.2.2.1,H2.o.2.1,H2.o.2.2.keep fun _ _=>rfl⟩⟩
 have t1:((K.e:Int) != 0)=true:=by rw[bne_iff_ne];omega
 have HE:Hid _:=hE;go_wp2_with fail;go_region
 go_wp2_with fail;refine bodyPost_ret (v:=.tuple #[iE,iE,eF (K.e:Int),eF (K.pl:Int)]) (by simp[results,results7,go_sem]) rfl ?_;refine⟨H2.o.1.drew,none,0,0,none,0,0,by rw[ck.o,ah HE.o],fun h=>?_⟩;rw[ck.o,ah HE.o]at h;exact absurd h HE.o
def iB(B c:Nat)(V:Vs)(s':Rs)(vv:dZ)(w:dY)(e:Ending)(w':dY):Prop:=e=fM (.tuple #[])/\Below B w w'/\∃vh vl va vp pv,St w' B c V s' vv vh vl va vp pv []
def pU(B c:Nat)(V:Vs)(f:Nat)(x:Sm):Prop:=∀(s:Rs)(w:dY)(ok:Nat->Prop)(q:Nat)(vv vh vl va vp:dZ)(pv:List dZ),nM w x ok q->(∀i,ok i->i<B)->St w B c V s vv vh vl va vp pv []->s.held.length=V.length->s.going=true->s.eU≠[]->s.eU.flatten.length<=s.eY.length->s.eU.length+1+iJ x.one+iJ x.two<=1000000->(iQ V x s).eY.length<=1000000000 ->
 Calls prog f #[fq c,fq q] w (iB B c V (iQ V x s) vv w)
theorem Ny{s:Rs}(h:s.going=true):s.over=0/\s.stop=false/\s.failed=false:=by unfold Rs.going at h;rw[bH,bH,beq_iff_eq,dD,dD]at h;exact⟨h.1.1,h.1.2,h.2⟩
theorem Xn:(prog.info? 244).map (fun i=>(i.zero,i.size,i.bytes))=some (some (.agg #[.string ⟨#[]⟩,eF 0]),2,24):=by kernel_rfl
theorem Nz{W:dY}{b:Nat}{p q:dZ}{t:TypeId}(h:W.heap[b]?=some (.cells #[p,q] t)):∀j u,[p,q][j]?=some u->W.cell? ((⟨b,0,none⟩:Addr).add j)=some u:=by intro j u hj;match j,hj with| 0,hj=>simp at hj;subst hj;simp[Addr.add,World.cell?,h]| 1,hj=>simp at hj;subst hj;simp[Addr.add,World.cell?,h]
def JD(B c:Nat)(V:Vs)(l:List Sm):Prop:=∀(s:Rs)(w:dY)(ok:Nat->Prop)(v:dZ)(qs:List Nat)(vv vh vl va vp:dZ)(pv:List dZ),jc w v qs ok->gF w l ok qs->(∀i,ok i->i<B)->St w B c V s vv vh vl va vp pv []->s.held.length=V.length->s.eU≠[]->s.eU.flatten.length<=s.eY.length->s.eU.length+iJ l<=1000000->(ig V l s).eY.length<=1000000000 ->
 fI 60 #[fq c,v] w (iB B c V (ig V l s) vv w)
