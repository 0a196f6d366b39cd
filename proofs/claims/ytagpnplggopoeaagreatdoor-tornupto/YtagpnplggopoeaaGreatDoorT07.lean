import Derived.Test.YtagpnplggopoeaaGreatDoorT06
import Derived.Deep.QuietTactic
import Derived.BigQuiet
import Derived.Test.YtagpnplggopoeaaGreatDoorT00
import Derived.Deep.DeepCutAuto
set_option maxRecDepth 100000
set_option maxHeartbeats 2000000
namespace Go.Proofs.YtagpnplggopoeaaGreatDoor
open Go.RowKit
namespace Ref
theorem LkAt.cells {w:World} {c:Nat} {k:Px.Lk} (h:LkAt w c k):∃ va vn vc,w.cell? ⟨c,0,none⟩=some (.slice va vn vc)∧w.ownsRow (c+1) 330 2 (.slice va vn vc) k.vars.length (qbr k.vars)∧c < w.heap.size:=by
 obtain ⟨va,vn,vc,h1,h2⟩:=h.ex;obtain ⟨c0,_⟩:=cells3 h1;exact ⟨va,vn,vc,c0,h2,lt_of_cell c0⟩
theorem LkAt.drew {w:World} {c:Nat} {k:Px.Lk} (h:LkAt w c k):LkAt w.drew c k:=by
 obtain ⟨va,vn,vc,h1,h2⟩:=h.ex;exact ⟨va,vn,vc,h1,h2.1,h2.2⟩
theorem LkAt.drewN {w:World} {c:Nat} {k:Px.Lk} (n:Nat) (h:LkAt w c k):LkAt (w.drewN n) c k:=by
 obtain ⟨va,vn,vc,h1,h2⟩:=h.ex;exact ⟨va,vn,vc,h1,h2.1,h2.2⟩
def qco (c:Nat) (x:Px.Ex):Prop:=∀ (k:Px.Lk) (w:World) (ok:Nat→Prop) (q:Nat),ExAt w x ok q→(∀ i,ok i→i < c)→LkAt w c k →
 Calls Tryz.prog 166 #[.pointer (some ⟨c,0,none⟩),.pointer (some ⟨q,0,none⟩)] w fun e w'=>e=.returned (.int .u8 ((Px.qao x k).1:Int))∧LkAt w' c (Px.qao x k).2∧Below c w w'
theorem qwf (l:List (ByteArray×Nat)) (x:ByteArray) (w:World) (base:Nat) (va:Option Addr) (vn vc:Nat) (h:w.ownsRow base 330 2 (.slice va vn vc) l.length (qbr l)) :
  Calls Tryz.prog 204 #[.slice va vn vc,.string x] w fun e w'=>e=.returned (.int .i64 (qku l x))∧w'=w :=
 (qie l x w base va vn vc h).mono fun _ _ h=>⟨h.1,h.2.symm⟩
theorem zbf (c:Nat) (w:World) (n:Nat):Below c w (w.drewN n):=⟨rfl,rfl,rfl,Nat.le_refl _,fun _ _=>rfl⟩
theorem zhr (c:Nat) (op n:Nat) (word:ByteArray) (pl own:Nat) (hop:op=110∨op=116):qco c ⟨op,n,word,pl,own,none,none⟩:=by
 intro k w ok q hx hok hl;obtain ⟨hq,v,hv⟩:=hx.root;obtain ⟨c0,c1,c2,c3,c4,c5,f⟩:=qb9 hv;have HL:Hid (_):=hl;clear hx hl hv;rcases hop with rfl | rfl
 ·go_enter Tryz.func166,Tryz.ntmps166
  go_wp2_with fail;go_ret;exact ⟨rfl,HL.out,Below.refl _ _⟩
 ·go_enter Tryz.func166,Tryz.ntmps166
  go_wp2_with fail;go_ret;exact ⟨rfl,HL.out,Below.refl _ _⟩
theorem zhq (c:Nat) (n:Nat) (word:ByteArray) (pl own:Nat):qco c ⟨119,n,word,pl,own,none,none⟩:=by
 intro k w ok q hx hok hl;obtain ⟨hq,v,hv⟩:=hx.root;obtain ⟨c0,c1,c2,c3,c4,c5,f⟩:=qb9 hv;obtain ⟨va,vn,vc,l0,hown,hcz⟩:=hl.cells;have HL:Hid (LkAt w c k∧_):=⟨hl,hown⟩;clear hx hl hv;obtain ⟨rfl,_⟩:=qnw hown;clear hown;cases hf:Px.qa3 k.vars word with
 | none =>
  have e2:Hid (qku k.vars word=-1):=by unfold Hid qku;rw[hf]
  have e1:Hid (Px.qao ⟨119,n,word,pl,own,none,none⟩ k=(63,Px.say 5 own k)):=by unfold Hid;simp[Px.qao,Px.qpq,hf]
  clear hf;go_enter Tryz.func166,Tryz.ntmps166
  go_wp2_with fail;go_quiet ((go_at_call 204;exact Calls.quiet_of_same (qwf k.vars word _ (c+1) _ _ _ HL.out.2)))
  rw[e2.out];go_wp2_with fail;refine (qey c 5 own k _ (HL.out.1.drewN nq)).mono ?_;rintro e w1 ⟨rfl,l1,b1⟩;have L1:Hid (_∧_):=⟨l1,b1⟩;clear l1 b1;go_wp2_with fail;go_ret;rw[e1.out];exact ⟨rfl,L1.out.1,(zbf _ _ _).trans L1.out.2⟩
 | some i =>
  have hlt:=qds hf;obtain ⟨g,rfl,hg,_,hc,hc'⟩:=qor HL.out.2 i hlt;have e2:Hid (qku k.vars word=(i:Int)):=by unfold Hid qku;rw[hf]
  have e1:Hid (Px.qao ⟨119,n,word,pl,own,none,none⟩ k=(k.vars[i].2,k)):=by unfold Hid;simp[Px.qao,Px.qpq,hf,Px.qcn,hlt]
  clear hf;go_enter Tryz.func166,Tryz.ntmps166
  go_wp2_with fail;go_quiet ((go_at_call 204;exact Calls.quiet_of_same (qwf k.vars word _ (c+1) _ _ _ HL.out.2)))
  rw[e2.out];go_wp2_with fail;go_ret;rw[e1.out];exact ⟨rfl,HL.out.1.drewN nq,zbf _ _ _⟩
theorem znt (c:Nat) (n:Nat) (word:ByteArray) (pl own:Nat) (l:Px.Ex) (ih:qco c l):qco c ⟨33,n,word,pl,own,some l,none⟩:=by
 intro k w ok q hx hok hl;obtain ⟨hq,kb,lq,hkb,hne,hv,hkc,hxl⟩:=hx;obtain ⟨c0,c1,c2,c3,c4,c5,f⟩:=qb9 hv;have k0:w.cell? ⟨kb,0,none⟩=some (.pointer (some ⟨lq,0,none⟩)):=by simp[World.cell?,hkc]
 have hqc:=hok q hq;have HL:Hid (LkAt w c k∧_∧_):=⟨hl,hxl,hv⟩;have HK:Hid (∀ i,(ok i∧i≠q∧i≠kb)→i < c):=fun i hi=>hok i hi.1
 have e1:Hid (Px.qao ⟨33,n,word,pl,own,some l,none⟩ k=Px.notK own (Px.qao l k)):=rfl;clear hl hv hkc hxl hok;generalize hr:Px.qao l k=r at e1;have HR:Hid (_):=hr;clear hr;cases hi:Px.isK r.1 98
 all_goals
  go_enter Tryz.func166,Tryz.ntmps166
  go_wp2_with fail;refine (ih k _ _ lq HL.out.2.1 HK.out HL.out.1).mono ?_;rw[HR.out];rintro e w1 ⟨rfl,l1,b1⟩;have hv1:w1.heap[q]?=_:=(b1.block q hqc).trans HL.out.2.2;obtain ⟨d0,d1,d2,d3,d4,d5,df⟩:=qb9 hv1;have L1:Hid (_∧_):=⟨l1,b1⟩;clear l1 b1 hv1;go_wp2_with fail;refine (qdc r.1 98 _).mono ?_;rintro e w' ⟨rfl,rfl⟩;go_wp2_with fail
 ·refine (qey c 6 own r.2 _ L1.out.1).mono ?_;rintro e w2 ⟨rfl,l2,b2⟩;have L2:Hid (_∧_):=⟨l2,b2⟩;clear l2 b2;go_wp2_with fail;go_ret;rw[e1.out,Px.notK,hi];exact ⟨rfl,L2.out.1,L1.out.2.trans L2.out.2⟩
 ·go_ret;rw[e1.out,Px.notK,hi];exact ⟨rfl,L1.out.1,L1.out.2⟩
open Go.RowKit
theorem znu (c op:Nat) (hop:op=61∨op=35) (n:Nat) (word:ByteArray) (pl own:Nat) (l r:Px.Ex) (ihl:qco c l) (ihr:qco c r):qco c ⟨op,n,word,pl,own,some l,some r⟩:=by
 intro k w ok q hx hok hl;obtain ⟨hq,kb,lq,rq,hkb,hne,hv,hkc,hxl,hxr⟩:=hx;obtain ⟨c0,c1,c2,c3,c4,c5,f⟩:=qb9 hv;have k0:w.cell? ⟨kb,0,none⟩=some (.pointer (some ⟨lq,0,none⟩)):=by simp[World.cell?,hkc]
 have hqc:=hok q hq;have hkbc:=hok kb hkb;have HL:Hid (LkAt w c k∧(ExAt w l _ lq∧ExAt w r _ rq)∧_∧_):=⟨hl,⟨hxl,hxr⟩,hv,hkc⟩;have HK:Hid (∀ i,(ok i∧i≠q∧i≠kb)→i < c):=fun i hi=>hok i hi.1
 have e1:Hid (Px.qao ⟨op,n,word,pl,own,some l,some r⟩ k=Px.binK op own (Px.qao l k).1 (Px.qao r (Px.qao l k).2)):=rfl;clear hl hv hkc hxl hxr hok;generalize hr1:Px.qao l k=ra at e1;have HR1:Hid (_):=hr1;clear hr1;generalize hr2:Px.qao r ra.2=rb at e1;have HR2:Hid (_):=hr2;clear hr2;have e2:Hid (Px.binK op own ra.1 rb=(98,if Px.qft ra.1 rb.1 then Px.say 6 own rb.2 else rb.2)):=by unfold Hid Px.binK;rw[if_pos hop]
 have e4:Hid (Px.qft ra.1 rb.1=(((ra.1:Int) != rb.1) && ((ra.1:Int) != 63) && ((rb.1:Int) != 63))):=by
  unfold Hid Px.qft;rw[Bool.eq_iff_iff];simp;omega
 have o1:((op:Int) == 110)=false:=by rw[beq_eq_false_iff_ne];omega
 have o2:((op:Int) == 116)=false:=by rw[beq_eq_false_iff_ne];omega
 have o3:((op:Int) == 119)=false:=by rw[beq_eq_false_iff_ne];omega
 have o4:((op:Int) == 33)=false:=by rw[beq_eq_false_iff_ne];omega
 have OR:Hid (_):=hop;clear hop;go_enter Tryz.func166,Tryz.ntmps166
 go_wp2_with fail;refine (ihl k _ _ lq HL.out.2.1.1 HK.out HL.out.1).mono ?_;rw[HR1.out];rintro e w1 ⟨rfl,l1,b1⟩;have hv1:w1.heap[q]?=_:=(b1.block q hqc).trans HL.out.2.2.1;have hk1:w1.heap[kb]?=_:=(b1.block kb hkbc).trans HL.out.2.2.2;have hx1:ExAt w1 r _ rq:=HL.out.2.1.2.keep fun i hi=>b1.block i (HK.out i hi)
 obtain ⟨d0,d1,d2,d3,d4,d5,df⟩:=qb9 hv1;have kk1:w1.cell? ⟨kb,1,none⟩=some (.pointer (some ⟨rq,0,none⟩)):=by simp[World.cell?,hk1]
 have L1:Hid (LkAt w1 c ra.2∧Below c w w1∧ExAt w1 r _ rq∧_):=⟨l1,b1,hx1,hv1⟩;clear l1 b1 hv1 hk1 hx1 c0 c1 c2 c3 c4 c5 f;go_wp2_with fail;refine (ihr ra.2 _ _ rq L1.out.2.2.1 HK.out L1.out.1).mono ?_;rw[HR2.out];rintro e w2 ⟨rfl,l2,b2⟩;have hv2:w2.heap[q]?=_:=(b2.block q hqc).trans L1.out.2.2.2;obtain ⟨f0,f1,f2,f3,f4,f5,ff⟩:=qb9 hv2;have L2:Hid (LkAt w2 c rb.2∧Below c w1 w2):=⟨l2,b2⟩;clear l2 b2 hv2 d0 d1 d2 d3 d4 d5 df;have fin1:∀ e w3,e=Ending.returned (.int .u8 98)→LkAt w3 c (if Px.qft ra.1 rb.1 then Px.say 6 own rb.2 else rb.2)→Below c w2 w3→e=.returned (.int .u8 ((Px.qao ⟨op,n,word,pl,own,some l,some r⟩ k).1:Int))∧LkAt w3 c (Px.qao ⟨op,n,word,pl,own,some l,some r⟩ k).2∧Below c w w3:=by
  intro e w3 he hl3 hb3;rw[e1.out,e2.out];exact ⟨he,hl3,(L1.out.2.1.trans L2.out.2).trans hb3⟩
 have FIN:Hid (_):=fin1;clear fin1;cases g1:((ra.1:Int) != rb.1)
 ·rcases OR.out with ho | ho
  ·have o5:((op:Int) == 61)=true:=by rw[ho];rfl
   go_wp2_with fail;go_ret;exact FIN.out _ _ rfl (by rw[e4.out,g1];exact L2.out.1) (Below.refl _ _)
  ·have o5:((op:Int) == 61)=false:=by rw[ho];rfl
   have o6:((op:Int) == 35)=true:=by rw[ho];rfl
   go_wp2_with fail;go_ret;exact FIN.out _ _ rfl (by rw[e4.out,g1];exact L2.out.1) (Below.refl _ _)
 ·cases g2:((ra.1:Int) != 63)
  ·rcases OR.out with ho | ho
   ·have o5:((op:Int) == 61)=true:=by rw[ho];rfl
    go_wp2_with fail;go_ret;exact FIN.out _ _ rfl (by rw[e4.out,g1,g2];exact L2.out.1) (Below.refl _ _)
   ·have o5:((op:Int) == 61)=false:=by rw[ho];rfl
    have o6:((op:Int) == 35)=true:=by rw[ho];rfl
    go_wp2_with fail;go_ret;exact FIN.out _ _ rfl (by rw[e4.out,g1,g2];exact L2.out.1) (Below.refl _ _)
  ·cases g3:((rb.1:Int) != 63)
   ·rcases OR.out with ho | ho
    ·have o5:((op:Int) == 61)=true:=by rw[ho];rfl
     go_wp2_with fail;go_ret;exact FIN.out _ _ rfl (by rw[e4.out,g1,g2,g3];exact L2.out.1) (Below.refl _ _)
    ·have o5:((op:Int) == 61)=false:=by rw[ho];rfl
     have o6:((op:Int) == 35)=true:=by rw[ho];rfl
     go_wp2_with fail;go_ret;exact FIN.out _ _ rfl (by rw[e4.out,g1,g2,g3];exact L2.out.1) (Below.refl _ _)
   ·rcases OR.out with ho | ho
    ·have o5:((op:Int) == 61)=true:=by rw[ho];rfl
     go_wp2_with fail;refine (qey c 6 own rb.2 _ L2.out.1).mono ?_;rintro e w3 ⟨rfl,l3,b3⟩;have L3:Hid (_∧_):=⟨l3,b3⟩;clear l3 b3;go_wp2_with fail;go_ret;exact FIN.out _ _ rfl (by rw[e4.out,g1,g2,g3];exact L3.out.1) L3.out.2
    ·have o5:((op:Int) == 61)=false:=by rw[ho];rfl
     have o6:((op:Int) == 35)=true:=by rw[ho];rfl
     go_wp2_with fail;refine (qey c 6 own rb.2 _ L2.out.1).mono ?_;rintro e w3 ⟨rfl,l3,b3⟩;have L3:Hid (_∧_):=⟨l3,b3⟩;clear l3 b3;go_wp2_with fail;go_ret;exact FIN.out _ _ rfl (by rw[e4.out,g1,g2,g3];exact L3.out.1) L3.out.2
theorem znw (c op:Nat) (hop:op=42∨op=47∨op=43∨op=45∨op=60) (n:Nat) (word:ByteArray) (pl own:Nat) (l r:Px.Ex) (ihl:qco c l) (ihr:qco c r):qco c ⟨op,n,word,pl,own,some l,some r⟩:=by
 intro k w ok q hx hok hl;obtain ⟨hq,kb,lq,rq,hkb,hne,hv,hkc,hxl,hxr⟩:=hx;obtain ⟨c0,c1,c2,c3,c4,c5,f⟩:=qb9 hv;have k0:w.cell? ⟨kb,0,none⟩=some (.pointer (some ⟨lq,0,none⟩)):=by simp[World.cell?,hkc]
 have hqc:=hok q hq;have hkbc:=hok kb hkb;have HL:Hid (LkAt w c k∧(ExAt w l _ lq∧ExAt w r _ rq)∧_∧_):=⟨hl,⟨hxl,hxr⟩,hv,hkc⟩;have HK:Hid (∀ i,(ok i∧i≠q∧i≠kb)→i < c):=fun i hi=>hok i hi.1
 have e1:Hid (Px.qao ⟨op,n,word,pl,own,some l,some r⟩ k=Px.binK op own (Px.qao l k).1 (Px.qao r (Px.qao l k).2)):=rfl;clear hl hv hkc hxl hxr hok;generalize hr1:Px.qao l k=ra at e1;have HR1:Hid (_):=hr1;clear hr1;generalize hr2:Px.qao r ra.2=rb at e1;have HR2:Hid (_):=hr2;clear hr2;have e2:Hid (Px.binK op own ra.1 rb=(if op=60 then 98 else 105,if Px.isK ra.1 105 && Px.isK rb.1 105 then rb.2 else Px.say 6 own rb.2)):=by unfold Hid Px.binK;rw[if_neg (by omega)]
 have o1:((op:Int) == 110)=false:=by rw[beq_eq_false_iff_ne];omega
 have o2:((op:Int) == 116)=false:=by rw[beq_eq_false_iff_ne];omega
 have o3:((op:Int) == 119)=false:=by rw[beq_eq_false_iff_ne];omega
 have o4:((op:Int) == 33)=false:=by rw[beq_eq_false_iff_ne];omega
 have o5:((op:Int) == 61)=false:=by rw[beq_eq_false_iff_ne];omega
 have o6:((op:Int) == 35)=false:=by rw[beq_eq_false_iff_ne];omega
 clear hop;go_enter Tryz.func166,Tryz.ntmps166
 go_wp2_with fail;refine (ihl k _ _ lq HL.out.2.1.1 HK.out HL.out.1).mono ?_;rw[HR1.out];rintro e w1 ⟨rfl,l1,b1⟩;have hv1:w1.heap[q]?=_:=(b1.block q hqc).trans HL.out.2.2.1;have hk1:w1.heap[kb]?=_:=(b1.block kb hkbc).trans HL.out.2.2.2;have hx1:ExAt w1 r _ rq:=HL.out.2.1.2.keep fun i hi=>b1.block i (HK.out i hi)
 obtain ⟨d0,d1,d2,d3,d4,d5,df⟩:=qb9 hv1;have kk1:w1.cell? ⟨kb,1,none⟩=some (.pointer (some ⟨rq,0,none⟩)):=by simp[World.cell?,hk1]
 have L1:Hid (LkAt w1 c ra.2∧Below c w w1∧ExAt w1 r _ rq∧_):=⟨l1,b1,hx1,hv1⟩;clear l1 b1 hv1 hk1 hx1 c0 c1 c2 c3 c4 c5 f;go_wp2_with fail;refine (ihr ra.2 _ _ rq L1.out.2.2.1 HK.out L1.out.1).mono ?_;rw[HR2.out];rintro e w2 ⟨rfl,l2,b2⟩;have hv2:w2.heap[q]?=_:=(b2.block q hqc).trans L1.out.2.2.2;obtain ⟨f0,f1,f2,f3,f4,f5,ff⟩:=qb9 hv2;have L2:Hid (LkAt w2 c rb.2∧Below c w1 w2∧_):=⟨l2,b2,hv2⟩;clear l2 b2 hv2 d0 d1 d2 d3 d4 d5 df;have fin1:∀ (e:Ending) (w3:World) (z:Nat),e=Ending.returned (.int .u8 (z:Int))→z=(if op=60 then 98 else 105)→LkAt w3 c (if Px.isK ra.1 105 && Px.isK rb.1 105 then rb.2 else Px.say 6 own rb.2)→Below c w2 w3→e=.returned (.int .u8 ((Px.qao ⟨op,n,word,pl,own,some l,some r⟩ k).1:Int))∧LkAt w3 c (Px.qao ⟨op,n,word,pl,own,some l,some r⟩ k).2∧Below c w w3:=by
  intro e w3 z he hz hl3 hb3;rw[e1.out,e2.out];subst hz;exact ⟨he,hl3,(L1.out.2.1.trans L2.out.2.1).trans hb3⟩
 have FIN:Hid (_):=fin1;clear fin1;cases g1:Px.isK ra.1 105
 ·by_cases ho:op=60
  ·have o7:((op:Int) == 60)=true:=by rw[ho];rfl
   have HO:Hid (_):=ho;clear ho;go_wp2_with (first | (go_at_call 168;refine (qdc _ 105 _).mono ?_;rintro e w' ⟨rfl,rfl⟩))
   refine (qey c 6 own rb.2 _ L2.out.1).mono ?_;rintro e w3 ⟨rfl,l3,b3⟩;have hv3:w3.heap[q]?=_:=(b3.block q hqc).trans L2.out.2.2;obtain ⟨x0,x1,x2,x3,x4,x5,xf⟩:=qb9 hv3;have L3:Hid (_∧_):=⟨l3,b3⟩;clear l3 b3 hv3;go_wp2_with fail;go_ret;exact FIN.out _ _ 98 rfl (by rw[if_pos HO.out]) (by rw[g1];exact L3.out.1) L3.out.2
  ·have o7:((op:Int) == 60)=false:=by rw[beq_eq_false_iff_ne];omega
   have HO:Hid (_):=ho;clear ho;go_wp2_with (first | (go_at_call 168;refine (qdc _ 105 _).mono ?_;rintro e w' ⟨rfl,rfl⟩))
   refine (qey c 6 own rb.2 _ L2.out.1).mono ?_;rintro e w3 ⟨rfl,l3,b3⟩;have hv3:w3.heap[q]?=_:=(b3.block q hqc).trans L2.out.2.2;obtain ⟨x0,x1,x2,x3,x4,x5,xf⟩:=qb9 hv3;have L3:Hid (_∧_):=⟨l3,b3⟩;clear l3 b3 hv3;go_wp2_with fail;go_ret;exact FIN.out _ _ 105 rfl (by rw[if_neg HO.out]) (by rw[g1];exact L3.out.1) L3.out.2
 ·cases g2:Px.isK rb.1 105
  ·by_cases ho:op=60
   ·have o7:((op:Int) == 60)=true:=by rw[ho];rfl
    have HO:Hid (_):=ho;clear ho;go_wp2_with (first | (go_at_call 168;refine (qdc _ 105 _).mono ?_;rintro e w' ⟨rfl,rfl⟩))
    refine (qey c 6 own rb.2 _ L2.out.1).mono ?_;rintro e w3 ⟨rfl,l3,b3⟩;have hv3:w3.heap[q]?=_:=(b3.block q hqc).trans L2.out.2.2;obtain ⟨x0,x1,x2,x3,x4,x5,xf⟩:=qb9 hv3;have L3:Hid (_∧_):=⟨l3,b3⟩;clear l3 b3 hv3;go_wp2_with fail;go_ret;exact FIN.out _ _ 98 rfl (by rw[if_pos HO.out]) (by rw[g1,g2];exact L3.out.1) L3.out.2
   ·have o7:((op:Int) == 60)=false:=by rw[beq_eq_false_iff_ne];omega
    have HO:Hid (_):=ho;clear ho;go_wp2_with (first | (go_at_call 168;refine (qdc _ 105 _).mono ?_;rintro e w' ⟨rfl,rfl⟩))
    refine (qey c 6 own rb.2 _ L2.out.1).mono ?_;rintro e w3 ⟨rfl,l3,b3⟩;have hv3:w3.heap[q]?=_:=(b3.block q hqc).trans L2.out.2.2;obtain ⟨x0,x1,x2,x3,x4,x5,xf⟩:=qb9 hv3;have L3:Hid (_∧_):=⟨l3,b3⟩;clear l3 b3 hv3;go_wp2_with fail;go_ret;exact FIN.out _ _ 105 rfl (by rw[if_neg HO.out]) (by rw[g1,g2];exact L3.out.1) L3.out.2
  ·by_cases ho:op=60
   ·have o7:((op:Int) == 60)=true:=by rw[ho];rfl
    have HO:Hid (_):=ho;clear ho;go_wp2_with (first | (go_at_call 168;refine (qdc _ 105 _).mono ?_;rintro e w' ⟨rfl,rfl⟩))
    go_ret;exact FIN.out _ _ 98 rfl (by rw[if_pos HO.out]) (by rw[g1,g2];exact L2.out.1) (Below.refl _ _)
   ·have o7:((op:Int) == 60)=false:=by rw[beq_eq_false_iff_ne];omega
    have HO:Hid (_):=ho;clear ho;go_wp2_with (first | (go_at_call 168;refine (qdc _ 105 _).mono ?_;rintro e w' ⟨rfl,rfl⟩))
    go_ret;exact FIN.out _ _ 105 rfl (by rw[if_neg HO.out]) (by rw[g1,g2];exact L2.out.1) (Below.refl _ _)
theorem qcr (c:Nat) (x:Px.Ex) (h:Px.WfE x):qco c x:=by
 match x,h with
 | ⟨op,n,word,pl,own,none,none⟩,h =>
  by_cases h1:op=119
  ·subst h1;exact zhq c n word pl own
  ·have h':op=110∨op=116∨op=119:=h;exact zhr c op n word pl own (by omega)
 | ⟨op,n,word,pl,own,some l,none⟩,h =>
  obtain ⟨h1,h2⟩:=(show op=33∧Px.WfE l from h);subst h1;exact znt c n word pl own l (qcr c l h2)
 | ⟨op,n,word,pl,own,some l,some r⟩,h =>
  obtain ⟨h1,h2,h3⟩:=(show (op=42∨op=47∨op=43∨op=45∨op=60∨op=61∨op=35)∧Px.WfE l∧Px.WfE r from h);by_cases h4:op=61∨op=35
  ·exact znu c op h4 n word pl own l r (qcr c l h2) (qcr c r h3)
  ·exact znw c op (by omega) n word pl own l r (qcr c l h2) (qcr c r h3)
open Go.RowKit
theorem SmsAt.get {w:World} {l:List Px.Sm} {ok:Nat→Prop} {qs:List Nat} (h:SmsAt w l ok qs) (k:Nat) (hk:k < l.length):∃ q,qs[k]?=some q∧SmAt w l[k] ok q:=by
 induction l generalizing qs k with
 | nil=>simp at hk
 | cons x l ih =>
  obtain ⟨q,qs',rfl,h1,h2⟩:=h.zem;cases k with
  | zero=>exact ⟨q,rfl,h1⟩
  | succ k =>
   obtain ⟨q',g1,g2⟩:=ih h2 k (by simpa using hk)
   exact ⟨q',g1,g2⟩
theorem SlAt.cell {w:World} {v:Value} {qs:List Nat} {ok:Nat→Prop} (h:SlAt w v qs ok) {k q:Nat} (hk:qs[k]?=some q):∃ g cap,v=.slice (some ⟨g,0,none⟩) qs.length cap∧ok g∧w.cell? ⟨g,k,none⟩=some (.pointer (some ⟨q,0,none⟩)):=by
 rcases h with ⟨h1,h2⟩ | ⟨g,cap,cur,h1,h2,h3,h4,h5,h6,h7⟩
 ·subst h2;simp at hk
 ·refine ⟨g,cap,h1,h2,?_⟩;have hl:k < qs.length:=(List.getElem?_eq_some_iff.1 hk).1;have e1:cur[k]?=(qs.map ptr)[k]?:=by
   rw[← h7,List.getElem?_take_of_lt hl];simp
  simp only[World.cell?,h3];rw[e1];simp[hk,ptr]
theorem SlAt.len {w:World} {v:Value} {qs:List Nat} {ok:Nat→Prop} (h:SlAt w v qs ok):∃ a c,v=.slice a qs.length c∧qs.length≤maxLen:=by
 rcases h with ⟨h1,h2⟩ | ⟨g,cap,cur,h1,h2,h3,h4,h5,h6,h7⟩
 ·subst h2;exact ⟨none,0,h1,by simp⟩
 ·exact ⟨_,cap,h1,by omega⟩
def qkj (c:Nat) (x:Px.Sm):Prop:=∀ (k:Px.Lk) (w:World) (ok:Nat→Prop) (q:Nat),SmAt w x ok q→(∀ i,ok i→i < c)→LkAt w c k→Px.WfH x→Px.WfS x.one→Px.WfS x.two→k.vars.length+1+Px.cnt x.one+Px.cnt x.two≤1000000 →
 Calls Tryz.prog 126 #[.pointer (some ⟨c,0,none⟩),.pointer (some ⟨q,0,none⟩)] w fun e w'=>e=.returned (.tuple #[])∧LkAt w' c (Px.qcc x k)∧Below c w w'
def qio (c:Nat) (l:List Px.Sm):Prop:=∀ (k:Px.Lk) (w:World) (ok:Nat→Prop) (v:Value) (qs:List Nat),SlAt w v qs ok→SmsAt w l ok qs→(∀ i,ok i→i < c)→LkAt w c k→Px.WfS l→k.vars.length+Px.cnt l≤1000000 →
 Calls Tryz.prog 47 #[.pointer (some ⟨c,0,none⟩),v] w fun e w'=>e=.returned (.tuple #[])∧LkAt w' c (Px.qap l k)∧Below c w w'
theorem qyx {l:List Px.Sm} (h:Px.WfS l) (k:Nat) (hk:k < l.length):Px.WfH l[k]∧Px.WfS l[k].one∧Px.WfS l[k].two:=by
 induction l generalizing k with
 | nil=>simp at hk
 | cons x l ih =>
  obtain ⟨h1,h2,h3,h4⟩:=Px.qd7.1 h;cases k with
  | zero=>exact ⟨h1,h2,h3⟩
  | succ k=>exact ih h4 k (by simpa using hk)
theorem qlk (c:Nat) (l:List Px.Sm) (hx:∀ i (hi:i < l.length),qkj c l[i]):qio c l:=by
 intro k w ok v qs hs hm hok hl hw hc;obtain ⟨va,vc,rfl,hml⟩:=hs.len;unfold maxLen at hml;have hlen:=hm.len;have H:Hid (SlAt w (.slice va qs.length vc) qs ok∧SmsAt w l ok qs∧(∀ i,ok i→i < c)∧LkAt w c k∧Px.WfS l):=⟨hs,hm,hok,hl,hw⟩;have HX:Hid (_):=hx;have HLen:Hid (_):=hlen;clear hs hm hok hl hw hx hlen;go_enter Tryz.func47,Tryz.ntmps47
 go_wp2_with fail;go_loopw [4] (fun i wr=>∃ n:Nat,n≤qs.length∧i=.int .i64 n∧Hid (Below c w wr∧∃ k',LkAt wr c k'∧Px.qap (l.drop n) k'=Px.qap l k∧k'.vars.length+Px.cnt (l.drop n)≤1000000)) (fun i _=>qs.length - (intOf i).toNat)
 case atStart=>exact ⟨0,by omega,rfl,Below.refl _ _,k,H.out.2.2.2.1,rfl,hc⟩
 case round =>
  obtain ⟨n,hn,rfl,hr⟩:=hrel;obtain ⟨hb,k',hk',he,hv⟩:=hr.out;clear hr;by_cases hlt:n < qs.length
  ·have hnl:n < l.length:=by have:=HLen.out;omega
   obtain ⟨q,hq1,hq2⟩:=H.out.2.1.get n hnl;obtain ⟨g,cap,hgv,hg,hcell⟩:=H.out.1.cell hq1;cases hgv;have hcr:wr.cell? ⟨g,n,none⟩=some (.pointer (some ⟨q,0,none⟩)):=by rw[hb.cell (p:=⟨g,n,none⟩) (H.out.2.2.1 g hg)];exact hcell
   have hq3:SmAt wr l[n] ok q:=hq2.keep fun i hi=>hb.block i (H.out.2.2.1 i hi)
   have hdrop:l.drop n=l[n]::l.drop (n+1):=List.drop_eq_getElem_cons hnl;rw[hdrop,Px.qdi] at he;rw[hdrop,Px.qik] at hv;have HH:Hid (Below c w wr∧LkAt wr c k'∧Px.qap (l.drop (n+1)) (Px.qcc l[n] k')=Px.qap l k∧SmAt wr l[n] ok q∧k'.vars.length+(1+Px.cnt l[n].one+Px.cnt l[n].two+Px.cnt (l.drop (n+1)))≤1000000):=⟨hb,hk',he,hq3,hv⟩;clear hb hk' he hq3 hcell hq2 hdrop hv;go_wp2_with fail;refine (HX.out n hnl k' _ ok q HH.out.2.2.2.1 H.out.2.2.1 HH.out.2.1 (qyx H.out.2.2.2.2 n hnl).1 (qyx H.out.2.2.2.2 n hnl).2.1 (qyx H.out.2.2.2.2 n hnl).2.2 ?hcnt).mono ?_
   case hcnt=>have:=HH.out.2.2.2.2;omega
   rintro e w1 ⟨rfl,l1,b1⟩;have L1:Hid (_∧_):=⟨l1,b1⟩;clear l1 b1;go_wp2_with fail;refine ⟨⟨n+1,by omega,by go_num,HH.out.1.trans L1.out.2,Px.qcc l[n] k',L1.out.1,HH.out.2.2.1,?_⟩,by simp[intOf];omega⟩
   have hvx:=Px.qdh [l[n]] k';rw[Px.qdi,Px.qhu,Px.qik,Px.qho] at hvx
   have:=HH.out.2.2.2.2
   omega
  ·have hnl:l.drop n=[]:=List.drop_of_length_le (by have:=HLen.out;omega)
   rw[hnl,Px.qhu] at he;have HH:Hid (Below c w wr∧LkAt wr c (Px.qap l k)):=⟨hb,by rw[← he];exact hk'⟩
   clear hb hk' he hnl hv;go_wp2_with fail;go_end0
   exact ⟨rfl,HH.out.2,HH.out.1⟩
open Go.RowKit
theorem zhf (c:Nat) (x:Px.Sm) (hop:x.op=102):qkj c x:=by
 intro k w ok q hx hok hl hw h1 h2 hc;obtain ⟨hq,ve,v1,v2,q1,q2,hv,_⟩:=hx;obtain ⟨d0,d1,d2,d3,d4,d5,d6,d7,d8,d9,d10,df⟩:=qaa hv;rw[hop] at d0;have HL:Hid (_):=hl;have e1:Hid (Px.qcc x k=k):=by unfold Hid Px.qcc;simp[hop]
 clear hl hv hok hw h1 h2;go_enter Tryz.func126,Tryz.ntmps126
 go_wp2_with fail;go_end0
 rw[e1.out];exact ⟨rfl,HL.out,Below.refl _ _⟩
theorem zm9 (c:Nat) (x:Px.Sm) (hop:x.op=116) (i1:qio c x.one) (i2:qio c x.two):qkj c x:=by
 intro k w ok q hx hok hl hw h1 h2 hc;obtain ⟨hq,ve,v1,v2,q1,q2,hv,e3,e4,e5,e6,e7⟩:=hx;obtain ⟨d0,d1,d2,d3,d4,d5,d6,d7,d8,d9,d10,df⟩:=qaa hv;rw[hop] at d0;have hqc:=hok q hq;have HL:Hid (LkAt w c k∧(∀ i,ok i→i < c)∧(SlAt w v1 q1 ok∧SmsAt w x.one ok q1)∧(SlAt w v2 q2 ok∧SmsAt w x.two ok q2)∧Px.WfS x.one∧Px.WfS x.two∧w.heap[q]?=some (.cells (qay x ve v1 v2) 270)):=⟨hl,hok,⟨e4,e5⟩,⟨e6,e7⟩,h1,h2,hv⟩;have hv1:=Px.qdh x.one k;have eX:Hid (Px.qcc x k=Px.qap x.two (Px.qap x.one k)):=by unfold Hid Px.qcc;simp[hop]
 clear hl hv hok hw h1 h2 e3 e4 e5 e6 e7;obtain ⟨a1,n1,c1,rfl⟩:∃ a n c,v1=.slice a n c:=by obtain ⟨a,c',h,_⟩:=HL.out.2.2.1.1.len;exact ⟨_,_,_,h⟩
 obtain ⟨a2,n2,c2,rfl⟩:∃ a n c,v2=.slice a n c:=by obtain ⟨a,c',h,_⟩:=HL.out.2.2.2.1.1.len;exact ⟨_,_,_,h⟩
 go_enter Tryz.func126,Tryz.ntmps126
 go_wp2_with fail;refine (i1 k _ ok _ q1 HL.out.2.2.1.1 HL.out.2.2.1.2 HL.out.2.1 HL.out.1 HL.out.2.2.2.2.1 (by omega)).mono ?_
 rintro e w1 ⟨rfl,l1,b1⟩;have hh1:w1.heap[q]?=_:=(b1.block q hqc).trans HL.out.2.2.2.2.2.2;obtain ⟨f0,f1,f2,f3,f4,f5,f6,f7,f8,f9,f10,ff⟩:=qaa hh1;have hk:∀ i,ok i→w1.heap[i]?=w.heap[i]?:=fun i hi=>b1.block i (HL.out.2.1 i hi)
 have L1:Hid (LkAt w1 c (Px.qap x.one k)∧Below c w w1∧SlAt w1 _ q2 ok∧SmsAt w1 x.two ok q2):=⟨l1,b1,HL.out.2.2.2.1.1.keep hk,HL.out.2.2.2.1.2.keep hk⟩;clear l1 b1 hh1 hk d0 d1 d2 d3 d4 d5 d6 d7 d8 d9 d10 df;go_wp2_with fail;refine (i2 _ _ ok _ q2 L1.out.2.2.1 L1.out.2.2.2 HL.out.2.1 L1.out.1 HL.out.2.2.2.2.2.1 (by omega)).mono ?_
 rintro e w2 ⟨rfl,l2,b2⟩;have L2:Hid (_∧_):=⟨l2,b2⟩;clear l2 b2;go_wp2_with fail;go_end0
 rw[eX.out];exact ⟨rfl,L2.out.1,L1.out.2.1.trans L2.out.2⟩
theorem zna (c:Nat) (x:Px.Sm) (hop:x.op=114) (i1:qio c x.one):qkj c x:=by
 intro k w ok q hx hok hl hw h1 h2 hc;obtain ⟨hq,ve,v1,v2,q1,q2,hv,e3,e4,e5,e6,e7⟩:=hx;obtain ⟨d0,d1,d2,d3,d4,d5,d6,d7,d8,d9,d10,df⟩:=qaa hv;rw[hop] at d0;have hqc:=hok q hq;have HL:Hid (LkAt w c k∧(∀ i,ok i→i < c)∧(SlAt w v1 q1 ok∧SmsAt w x.one ok q1)∧Px.WfS x.one∧w.heap[q]?=some (.cells (qay x ve v1 v2) 270)):=⟨hl,hok,⟨e4,e5⟩,h1,hv⟩;clear hl hv hok hw h1 h2 e3 e4 e5 e6 e7;obtain ⟨a1,n1,c1,rfl⟩:∃ a n c,v1=.slice a n c:=by obtain ⟨a,c',h,_⟩:=HL.out.2.2.1.1.len;exact ⟨_,_,_,h⟩
 by_cases h9:9 < x.n
 ·have eX:Hid (Px.qcc x k=Px.qap x.one (Px.say 4 x.nPl k)):=by unfold Hid Px.qcc;simp[hop,h9]
  have hv1:=Px.qgc 4 x.nPl k;have HV:Hid (_):=hv1;clear hv1;go_enter Tryz.func126,Tryz.ntmps126
  go_wp2_with fail;refine (qey c 4 x.nPl k _ HL.out.1).mono ?_;rintro e w1 ⟨rfl,l1,b1⟩;have hh1:w1.heap[q]?=_:=(b1.block q hqc).trans HL.out.2.2.2.2;obtain ⟨f0,f1,f2,f3,f4,f5,f6,f7,f8,f9,f10,ff⟩:=qaa hh1;have hk:∀ i,ok i→w1.heap[i]?=w.heap[i]?:=fun i hi=>b1.block i (HL.out.2.1 i hi)
  have L1:Hid (LkAt w1 c (Px.say 4 x.nPl k)∧Below c w w1∧SlAt w1 _ q1 ok∧SmsAt w1 x.one ok q1):=⟨l1,b1,HL.out.2.2.1.1.keep hk,HL.out.2.2.1.2.keep hk⟩;clear l1 b1 hh1 hk d0 d1 d2 d3 d4 d5 d6 d7 d8 d9 d10 df;go_wp2_with fail;refine (i1 _ _ ok _ q1 L1.out.2.2.1 L1.out.2.2.2 HL.out.2.1 L1.out.1 HL.out.2.2.2.1 (by rw[HV.out];omega)).mono ?_
  rintro e w2 ⟨rfl,l2,b2⟩;have L2:Hid (_∧_):=⟨l2,b2⟩;clear l2 b2;go_wp2_with fail;go_end0
  rw[eX.out];exact ⟨rfl,L2.out.1,L1.out.2.1.trans L2.out.2⟩
 ·have eX:Hid (Px.qcc x k=Px.qap x.one k):=by unfold Hid Px.qcc;simp[hop,h9]
  go_enter Tryz.func126,Tryz.ntmps126
  go_wp2_with fail;refine (i1 k _ ok _ q1 HL.out.2.2.1.1 HL.out.2.2.1.2 HL.out.2.1 HL.out.1 HL.out.2.2.2.1 (by omega)).mono ?_
  rintro e w2 ⟨rfl,l2,b2⟩;have L2:Hid (_∧_):=⟨l2,b2⟩;clear l2 b2;go_wp2_with fail;go_end0
  rw[eX.out];exact ⟨rfl,L2.out⟩
theorem znc (c:Nat) (x:Px.Sm) (hop:x.op=108):qkj c x:=by
 intro k w ok q hx hok hl hw h1 h2 hc;obtain ⟨hq,ve,v1,v2,q1,q2,hv,e3,e4,e5,e6,e7⟩:=hx;obtain ⟨d0,d1,d2,d3,d4,d5,d6,d7,d8,d9,d10,df⟩:=qaa hv;rw[hop] at d0;have hqc:=hok q hq;obtain ⟨ex,hex⟩:∃ ex,x.ex=some ex:=by
  rcases hw.2 with h | h | h | h | h | h
  ·cases hx:x.ex with
   | none=>exact absurd hx h.2
   | some e=>exact ⟨e,rfl⟩
  all_goals omega
 rw[hex] at e3;obtain ⟨qe,rfl,hxe⟩:=e3;have hwe:Px.WfE ex:=hw.1 ex hex;have eX:Hid (Px.qcc x k=Px.qc7 x.word x.pl (Px.qao ex k).1 (Px.qao ex k).2):=by unfold Hid Px.qcc;simp[hop,hex]
 have HV:Hid ((Px.qao ex k).2.vars=k.vars):=Px.qdj ex k;have HL:Hid (LkAt w c k∧(∀ i,ok i→i < c)∧ExAt w ex ok qe∧w.heap[q]?=some (.cells (qay x (ptr qe) v1 v2) 270)):=⟨hl,hok,hxe,hv⟩;unfold ptr at d3;clear hl hv hok hw h1 h2 e4 e5 e6 e7 hxe hex;generalize hr:Px.qao ex k=r at *;have HR:Hid (_):=hr;clear hr;go_enter Tryz.func126,Tryz.ntmps126
 go_wp2_with fail;refine (qcr c ex hwe k _ ok qe HL.out.2.2.1 HL.out.2.1 HL.out.1).mono ?_;rw[HR.out];rintro e w1 ⟨rfl,l1,b1⟩;have hh1:w1.heap[q]?=_:=(b1.block q hqc).trans HL.out.2.2.2;obtain ⟨f0,f1,f2,f3,f4,f5,f6,f7,f8,f9,f10,ff⟩:=qaa hh1;have L1:Hid (LkAt w1 c r.2∧Below c w w1):=⟨l1,b1⟩;clear l1 b1 hh1 d0 d1 d2 d3 d4 d5 d6 d7 d8 d9 d10 df;go_wp2_with fail;go_region_with (go_at_call 167;refine (qlx c x.word x.pl r.1 r.2 _ L1.out.1.drew (by rw[HV.out];omega)).mono ?_;rintro e w2 ⟨rfl,l2,b2⟩;have L2:Hid (_∧_):=⟨l2,b2⟩;clear l2 b2)
 all_goals
  go_wp2_with fail;go_end0
  rw[eX.out];exact ⟨rfl,L2.out.1,L1.out.2.drew.trans L2.out.2⟩
open Go.RowKit
theorem zte (c:Nat) (x:Px.Sm) (hop:x.op=105) (i1:qio c x.one) (i2:qio c x.two):qkj c x:=by
 intro k w ok q hx hok hl hw h1 h2 hc;obtain ⟨hq,ve,v1,v2,q1,q2,hv,e3,e4,e5,e6,e7⟩:=hx;obtain ⟨d0,d1,d2,d3,d4,d5,d6,d7,d8,d9,d10,df⟩:=qaa hv;rw[hop] at d0;have hqc:=hok q hq;obtain ⟨ex,hex⟩:∃ ex,x.ex=some ex:=by
  rcases hw.2 with h | h | h | h | h | h
  ·omega
  ·omega
  ·cases hx:x.ex with
   | none=>exact absurd hx h.2
   | some e=>exact ⟨e,rfl⟩
  all_goals omega
 rw[hex] at e3;obtain ⟨qe,rfl,hxe⟩:=e3;have hwe:Px.WfE ex:=hw.1 ex hex;obtain ⟨hqe,vk,hve⟩:=hxe.root;have hqec:=hok qe hqe;have eX:Hid (Px.qcc x k=Px.qap x.two (Px.qap x.one (Px.qbq (some ex) 98 k))):=by unfold Hid Px.qcc;simp[hop,hex]
 have HV:Hid ((Px.qbq (some ex) 98 k).vars=k.vars):=Px.qfk _ _ _;have eM:Hid (Px.qbq (some ex) 98 k=if Px.isK (Px.qao ex k).1 98 then (Px.qao ex k).2 else Px.say 6 ex.pl (Px.qao ex k).2):=rfl
 have HL:Hid (LkAt w c k∧(∀ i,ok i→i < c)∧ExAt w ex ok qe∧(SlAt w v1 q1 ok∧SmsAt w x.one ok q1)∧(SlAt w v2 q2 ok∧SmsAt w x.two ok q2)∧Px.WfS x.one∧Px.WfS x.two∧w.heap[q]?=some (.cells (qay x (ptr qe) v1 v2) 270)∧w.heap[qe]?=some (.cells #[.int .u8 (ex.op:Int),.int .i64 (ex.n:Int),.string ex.word,.int .i64 (ex.pl:Int),.int .i64 (ex.own:Int),vk] 280)):=⟨hl,hok,hxe,⟨e4,e5⟩,⟨e6,e7⟩,h1,h2,hv,hve⟩;unfold ptr at d3;clear hl hv hok hw h1 h2 e4 e5 e6 e7 hxe hex hve;have hv1:=Px.qdh x.one (Px.qbq (some ex) 98 k);rw[HV.out] at hv1;obtain ⟨a1,n1,c1,rfl⟩:∃ a n c,v1=.slice a n c:=by obtain ⟨a,c',h,_⟩:=HL.out.2.2.2.1.1.len;exact ⟨_,_,_,h⟩
 obtain ⟨a2,n2,c2,rfl⟩:∃ a n c,v2=.slice a n c:=by obtain ⟨a,c',h,_⟩:=HL.out.2.2.2.2.1.1.len;exact ⟨_,_,_,h⟩
 generalize hM:Px.qbq (some ex) 98 k=M at *;clear hM;generalize hr:Px.qao ex k=r at *;have HR:Hid (_):=hr;clear hr;go_enter Tryz.func126,Tryz.ntmps126
 go_wp2_with fail;refine (qcr c ex hwe k _ ok qe HL.out.2.2.1 HL.out.2.1 HL.out.1).mono ?_;rw[HR.out];rintro e w1 ⟨rfl,l1,b1⟩;have hh1:w1.heap[q]?=_:=(b1.block q hqc).trans HL.out.2.2.2.2.2.2.2.1;have hg1:w1.heap[qe]?=_:=(b1.block qe hqec).trans HL.out.2.2.2.2.2.2.2.2;obtain ⟨f0,f1,f2,f3,f4,f5,f6,f7,f8,f9,f10,ff⟩:=qaa hh1;obtain ⟨g0,g1,g2,g3,g4,g5,gf⟩:=qb9 hg1;unfold ptr at f3;have L1:Hid (LkAt w1 c r.2∧Below c w w1):=⟨l1,b1⟩;clear l1 b1 hh1 hg1 d0 d1 d2 d3 d4 d5 d6 d7 d8 d9 d10 df;go_wp2_with fail;refine (qdc r.1 98 _).mono ?_;rintro e w' ⟨rfl,rfl⟩;go_upto_if 98 with fail
 go_cut [] (fun wc=>Hid (LkAt wc c M∧Below c w wc))
 case first =>
  cases hi:Px.isK r.1 98
  ·go_wp2_with fail;refine (qey c 6 ex.pl r.2 _ L1.out.1).mono ?_;rintro e w2 ⟨rfl,l2,b2⟩;have L2:Hid (_∧_):=⟨l2,b2⟩;clear l2 b2;go_wp2_with fail;go_meet
   case rel =>
    refine ⟨?_,L1.out.2.trans L2.out.2⟩;rw[eM.out,hi];exact L2.out.1
  ·go_wp2_with fail;go_meet
   case rel =>
    refine ⟨?_,L1.out.2⟩;rw[eM.out,hi];exact L1.out.1
 case rest =>
 have C1:Hid (_):=hcut;have hh2:wc.heap[q]?=_:=(C1.out.2.block q hqc).trans HL.out.2.2.2.2.2.2.2.1;obtain ⟨j0,j1,j2,j3,j4,j5,j6,j7,j8,j9,j10,jf⟩:=qaa hh2;have hk2:∀ i,ok i→wc.heap[i]?=w.heap[i]?:=fun i hi=>C1.out.2.block i (HL.out.2.1 i hi)
 have S1:Hid ((SlAt wc _ q1 ok∧SmsAt wc x.one ok q1)):=⟨HL.out.2.2.2.1.1.keep hk2,HL.out.2.2.2.1.2.keep hk2⟩;clear hcut hh2 hk2 f0 f1 f2 f3 f4 f5 f6 f7 f8 f9 f10 ff g0 g1 g2 g3 g4 g5 gf;go_wp2_with fail;refine (i1 M _ ok _ q1 S1.out.1 S1.out.2 HL.out.2.1 C1.out.1 HL.out.2.2.2.2.2.1 (by rw[HV.out];omega)).mono ?_
 rintro e w3 ⟨rfl,l3,b3⟩;have bb:Below c w w3:=C1.out.2.trans b3;have hh3:w3.heap[q]?=_:=(bb.block q hqc).trans HL.out.2.2.2.2.2.2.2.1;obtain ⟨m0,m1,m2,m3,m4,m5,m6,m7,m8,m9,m10,mf⟩:=qaa hh3;have hk3:∀ i,ok i→w3.heap[i]?=w.heap[i]?:=fun i hi=>bb.block i (HL.out.2.1 i hi)
 have S2:Hid (LkAt w3 c (Px.qap x.one M)∧Below c w w3∧(SlAt w3 _ q2 ok∧SmsAt w3 x.two ok q2)):=⟨l3,bb,HL.out.2.2.2.2.1.1.keep hk3,HL.out.2.2.2.2.1.2.keep hk3⟩;clear l3 b3 bb hh3 hk3 j0 j1 j2 j3 j4 j5 j6 j7 j8 j9 j10 jf;go_wp2_with fail;refine (i2 _ _ ok _ q2 S2.out.2.2.1 S2.out.2.2.2 HL.out.2.1 S2.out.1 HL.out.2.2.2.2.2.2.1 (by omega)).mono ?_
 rintro e w4 ⟨rfl,l4,b4⟩;have L4:Hid (_∧_):=⟨l4,b4⟩;clear l4 b4;go_wp2_with fail;go_end0
 rw[eX.out];exact ⟨rfl,L4.out.1,S2.out.2.1.trans L4.out.2⟩
open Go.RowKit
theorem zhg (c:Nat) (x:Px.Sm) (hop:x.op=99):qkj c x:=by
 intro k w ok q hx hok hl hw h1 h2 hc;obtain ⟨hq,ve,v1,v2,q1,q2,hv,e3,e4,e5,e6,e7⟩:=hx;obtain ⟨d0,d1,d2,d3,d4,d5,d6,d7,d8,d9,d10,df⟩:=qaa hv;rw[hop] at d0;have hqc:=hok q hq;have HW:Hid (_):=hw.1;generalize hM1:Px.qbq x.ex 105 k=M1;generalize hM2:(if x.asw.toList.isEmpty then M1 else Px.qc7 x.asw x.asPl 105 M1)=M2
 have eX:Hid (Px.qcc x k=if x.n < 1∨5 < x.n then Px.say 4 x.nPl M2 else M2):=by unfold Hid Px.qcc;rw[if_neg (by omega),if_pos hop];simp only[hM1,hM2]
 have EM1:Hid (_):=hM1;have EM2:Hid (_):=hM2;have HV:Hid (M1.vars=k.vars):=by unfold Hid;rw[← hM1];exact Px.qfk _ _ _
 clear hM1 hM2;have HL:Hid (LkAt w c k∧(∀ i,ok i→i < c)∧ExO w x.ex ok ve∧w.heap[q]?=some (.cells (qay x ve v1 v2) 270)):=⟨hl,hok,e3,hv⟩;clear hl hv hok hw h1 h2 e4 e5 e6 e7 e3;obtain ⟨pe,rfl⟩:∃ pe,ve=.pointer pe:=by
  have:=HL.out.2.2.1
  cases hx:x.ex with
  | none=>rw[hx] at this;exact ⟨_,this⟩
  | some e=>rw[hx] at this;obtain ⟨qe,h,_⟩:=this;exact ⟨_,h⟩
 go_enter Tryz.func126,Tryz.ntmps126
 go_upto_if 36 with fail
 go_cut [5] (fun _ wc=>Hid (LkAt wc c M1∧Below c w wc))
 case first =>
  cases hex:x.ex with
  | none =>
   have hpe:(Value.pointer pe)=.pointer none:=by have:=HL.out.2.2.1;rw[hex] at this;exact this
   cases hpe;have hm:Hid (k=M1):=by unfold Hid;rw[← EM1.out,hex];rfl
   clear hex;go_wp2_with fail;go_meet
   case rel =>
    refine ⟨?_,Below.refl _ _⟩;rw[← hm.out];exact HL.out.1
  | some ex =>
   obtain ⟨qe,hpe,hxe⟩:∃ qe,Value.pointer pe=ptr qe∧ExAt w ex ok qe:=by have:=HL.out.2.2.1;rw[hex] at this;exact this
   unfold ptr at hpe;cases hpe;have hwe:Px.WfE ex:=HW.out ex hex;obtain ⟨hqe,vk,hve⟩:=hxe.root;have hqec:=HL.out.2.1 qe hqe;have hm:Hid (M1=if Px.isK (Px.qao ex k).1 105 then (Px.qao ex k).2 else Px.say 6 ex.pl (Px.qao ex k).2):=by unfold Hid;rw[← EM1.out,hex];rfl
   have XE:Hid (ExAt w ex ok qe∧w.heap[qe]?=some (.cells #[.int .u8 (ex.op:Int),.int .i64 (ex.n:Int),.string ex.word,.int .i64 (ex.pl:Int),.int .i64 (ex.own:Int),vk] 280)):=⟨hxe,hve⟩;clear hex hxe hve;generalize hr:Px.qao ex k=r at *;have HR:Hid (_):=hr;clear hr;go_wp2_with fail;refine (qcr c ex hwe k _ ok qe XE.out.1 HL.out.2.1 HL.out.1).mono ?_;rw[HR.out];rintro e w1 ⟨rfl,l1,b1⟩;have hh1:w1.heap[q]?=_:=(b1.block q hqc).trans HL.out.2.2.2;have hg1:w1.heap[qe]?=_:=(b1.block qe hqec).trans XE.out.2;obtain ⟨f0,f1,f2,f3,f4,f5,f6,f7,f8,f9,f10,ff⟩:=qaa hh1;obtain ⟨g0,g1,g2,g3,g4,g5,gf⟩:=qb9 hg1
   have L1:Hid (LkAt w1 c r.2∧Below c w w1):=⟨l1,b1⟩;clear l1 b1 hh1 hg1 d0 d1 d2 d3 d4 d5 d6 d7 d8 d9 d10 df;cases hi:Px.isK r.1 105
   ·go_wp2_with fail;refine (qdc r.1 105 _).mono ?_;rintro e w' ⟨rfl,rfl⟩;go_wp2_with fail;refine (qey c 6 ex.pl r.2 _ L1.out.1).mono ?_;rintro e w2 ⟨rfl,l2,b2⟩;have L2:Hid (_∧_):=⟨l2,b2⟩;clear l2 b2;go_wp2_with fail;go_meet
    case rel =>
     refine ⟨?_,L1.out.2.trans L2.out.2⟩;rw[hm.out,hi];exact L2.out.1
   ·go_wp2_with fail;refine (qdc r.1 105 _).mono ?_;rintro e w' ⟨rfl,rfl⟩;go_wp2_with fail;go_meet
    case rel =>
     refine ⟨?_,L1.out.2⟩;rw[hm.out,hi];exact L1.out.1
 case rest =>
 have C1:Hid (_):=hcut;have hh2:wc.heap[q]?=_:=(C1.out.2.block q hqc).trans HL.out.2.2.2;obtain ⟨j0,j1,j2,j3,j4,j5,j6,j7,j8,j9,j10,jf⟩:=qaa hh2;clear hcut hh2 d0 d1 d2 d3 d4 d5 d6 d7 d8 d9 d10 df;go_upto_if 59 with fail
 go_cut [] (fun wd=>Hid (LkAt wd c M2∧Below c w wd))
 case first =>
  cases ha:x.asw.toList.isEmpty
  ·go_wp2_with fail;go_region_with (go_at_call 167;refine (qlx c x.asw x.asPl 105 M1 _ C1.out.1.drew (by rw[HV.out];omega)).mono ?_;rintro e w2 ⟨rfl,l2,b2⟩;have L2:Hid (_∧_):=⟨l2,b2⟩;clear l2 b2)
   all_goals
    go_wp2_with fail;go_meet
    case rel =>
     refine ⟨?_,C1.out.2.drew.trans L2.out.2⟩;rw[← EM2.out,ha];exact L2.out.1
  ·go_wp2_with fail;go_meet
   case rel =>
    refine ⟨?_,C1.out.2⟩;rw[← EM2.out,ha];exact C1.out.1
 case rest =>
 have C2:Hid (_):=hcut;have hh3:wc.heap[q]?=_:=(C2.out.2.block q hqc).trans HL.out.2.2.2;obtain ⟨m0,m1,m2,m3,m4,m5,m6,m7,m8,m9,m10,mf⟩:=qaa hh3;clear hcut hh3 j0 j1 j2 j3 j4 j5 j6 j7 j8 j9 j10 jf;by_cases hn1:x.n < 1
 ·have t1:(x.n:Int) < 1:=by omega
  go_wp2_with fail;refine (qey c 4 x.nPl M2 _ C2.out.1).mono ?_;rintro e w2 ⟨rfl,l2,b2⟩;have L2:Hid (_∧_):=⟨l2,b2⟩;clear l2 b2;go_wp2_with fail;go_end0
  rw[eX.out,if_pos (by omega)]
  exact ⟨rfl,L2.out.1,C2.out.2.trans L2.out.2⟩
 ·have t1:¬ (x.n:Int) < 1:=by omega
  by_cases hn2:5 < x.n
  ·have t2:(5:Int) < x.n:=by omega
   go_wp2_with fail;refine (qey c 4 x.nPl M2 _ C2.out.1).mono ?_;rintro e w2 ⟨rfl,l2,b2⟩;have L2:Hid (_∧_):=⟨l2,b2⟩;clear l2 b2;go_wp2_with fail;go_end0
   rw[eX.out,if_pos (by omega)]
   exact ⟨rfl,L2.out.1,C2.out.2.trans L2.out.2⟩
  ·have t2:¬ (5:Int) < x.n:=by omega
   go_wp2_with fail;go_end0
   rw[eX.out,if_neg (by omega)]
   exact ⟨rfl,C2.out.1,C2.out.2⟩
theorem znb (c:Nat) (x:Px.Sm) (i1:qio c x.one) (i2:qio c x.two):qkj c x:=by
 intro k w ok q hx hok hl hw h1 h2 hc;rcases hw.2 with h | h | h | h | h | h
 ·exact znc c x h.1 k w ok q hx hok hl hw h1 h2 hc
 ·exact zhg c x h k w ok q hx hok hl hw h1 h2 hc
 ·exact zte c x h.1 i1 i2 k w ok q hx hok hl hw h1 h2 hc
 ·exact zm9 c x h i1 i2 k w ok q hx hok hl hw h1 h2 hc
 ·exact zna c x h i1 k w ok q hx hok hl hw h1 h2 hc
 ·exact zhf c x h k w ok q hx hok hl hw h1 h2 hc
theorem qll (c:Nat) (l:List Px.Sm):∀ i (hi:i < l.length),qkj c l[i]:=by
 match l with
 | []=>intro i hi;simp at hi
 | ⟨op,word,pl,ex,asw,asPl,undo,n,nPl,one,two⟩::rest =>
  intro i hi;cases i with
  | zero=>exact znb c _ (qlk c one (qll c one)) (qlk c two (qll c two))
  | succ i=>exact qll c rest i (by simpa using hi)
theorem zae (c:Nat) (l:List Px.Sm):qio c l:=qlk c l (qll c l)
open Go.RowKit
theorem qj0 (s:ByteArray) (w:World) (hs:s.size≤maxLen):Calls Tryz.prog 46 #[.string s] w (zkf s w):=by
 by_cases h:300 < s.size
 ·exact zfu s w h hs
 ·exact zcs s w (by omega)
def zyk (s:ByteArray) (w:World) (e:Ending) (w':World):Prop :=
 Below w.heap.size w w'∧∃ a n c a' n' c',e=.returned (.tuple #[.slice a n c,.slice a' n' c',.int .i64 ((Px.check s).1:Int),.int .i64 ((Px.check s).2:Int)]) ∧
  ((Px.check s).1=0→∃ l qs,Px.read s=.ok l∧SlAt w' (.slice a n c) qs (In w w')∧SmsAt w' l (In w w') qs)
theorem qrh (s:ByteArray) (w:World) (hs:s.size≤maxLen):Calls Tryz.prog 24 #[.string s] w (zyk s w):=by
 go_enter Tryz.func24,Tryz.ntmps24
 go_wp2_with fail;refine (qj0 s _ hs).mono ?_;rintro e w1 ⟨hb,a,n,c,x,p,rfl,hr⟩;cases hrd:Px.read s with
 | error r =>
  obtain ⟨c',p'⟩:=r;rw[hrd] at hr;obtain ⟨rfl,rfl,rfl,rfl,rfl⟩:=hr;have hx0:x≠0:=by
   unfold Px.read at hrd;split at hrd
   ·cases hrd;omega
   ·split at hrd
    ·cases hrd;omega
    ·split at hrd
     ·cases hrd;omega
     ·cases hrd
  have t1:((x:Int) != 0)=true:=by rw[bne_iff_ne];omega
  have ck:Hid (Px.check s=(x,p)):=by unfold Hid Px.check;rw[hrd]
  have B:Hid (_):=hb;clear hrd hb;go_wp2_with fail;refine bodyPost_ret (v:=.tuple #[.slice none 0 0,.slice none 0 0,.int .i64 (x:Int),.int .i64 (p:Int)]) (by simp[results,Tryz.results24,go_sem]) rfl ?_
  refine ⟨B.out,none,0,0,none,0,0,by rw[ck.out],fun h=>?_⟩
  rw[ck.out] at h;exact absurd h hx0
 | ok l =>
  rw[hrd] at hr;obtain ⟨rfl,rfl,qs,h1,h2⟩:=hr;obtain ⟨wf,hcnt⟩:=Px.qd0 hrd;generalize hK:Px.qap l ⟨[],0,0⟩=K;have ck:Hid (Px.check s=if K.e=0 then (0,0) else (K.e,K.pl)):=by unfold Hid Px.check;rw[hrd];simp only[hK]
  have HH:Hid (Below w.heap.size w w1∧SlAt w1 (.slice a n c) qs (In w w1)∧SmsAt w1 l (In w w1) qs∧Px.WfS l∧Px.read s=.ok l∧Px.qap l ⟨[],0,0⟩=K):=⟨hb,h1,h2,wf,hrd,hK⟩;have HL:Hid (LkAt (w1.alloc (.cells #[.slice none 0 0,.int .i64 0,.int .i64 0] 140)) w1.heap.size ⟨[],0,0⟩):=by
   refine ⟨none,0,0,?_,World.ownsRow_nil _ _ _ _⟩;show (w1.heap.push _)[w1.heap.size]?=_
   rw[Array.getElem?_push,if_pos rfl];rfl
  clear hb h1 h2 wf hrd hK;go_wp2_with fail;refine (zae w1.heap.size l ⟨[],0,0⟩ _ (In w w1) _ qs (HH.out.2.1.keep fun i hi=>Below.heap_alloc _ _ _ hi.2) (HH.out.2.2.1.keep fun i hi=>Below.heap_alloc _ _ _ hi.2) (fun i hi=>hi.2) HL.out HH.out.2.2.2.1 (by simp;omega)).mono ?_
  rw[HH.out.2.2.2.2.2];rintro e w2 ⟨rfl,l2,b2⟩;obtain ⟨va,vn,vc,g1,g2⟩:=l2.ex;obtain ⟨c0,c1,c2,cf⟩:=cells3 g1;have bW:Below w.heap.size w w2:=(HH.out.1.alloc HH.out.1.size _).trans (b2.mono HH.out.1.size);have hkeep:∀ i,In w w1 i→w2.heap[i]?=w1.heap[i]?:=fun i hi=>by rw[b2.block i hi.2,Below.heap_alloc _ _ _ hi.2]
  have hz2:w1.heap.size < w2.heap.size:=lt_of_cell c0;have H2:Hid (Below w.heap.size w w2∧SlAt w2 (.slice a n c) qs (In w w2)∧SmsAt w2 l (In w w2) qs):=⟨bW,(HH.out.2.1.keep hkeep).mono fun i hi=>⟨hi.1,by have:=hi.2;omega⟩,(HH.out.2.2.1.keep hkeep).mono fun i hi=>⟨hi.1,by have:=hi.2;omega⟩⟩
  clear l2 b2 g1 g2 bW hkeep;by_cases hE:K.e=0
  ·have t1:((K.e:Int) != 0)=false:=by rw[hE];rfl
   have HE:Hid (_):=hE;clear hE;go_wp2_with fail;go_region
   go_wp2_with fail;refine bodyPost_ret (v:=.tuple #[.slice a n c,.slice va vn vc,.int .i64 0,.int .i64 0]) (by simp[results,Tryz.results24,go_sem]) rfl ?_
   refine ⟨H2.out.1.drew,a,n,c,va,vn,vc,by rw[ck.out,if_pos HE.out];rfl,fun h=>⟨l,qs,HH.out.2.2.2.2.1,H2.out.2.1,H2.out.2.2.keep fun _ _=>rfl⟩⟩
  ·have t1:((K.e:Int) != 0)=true:=by rw[bne_iff_ne];omega
   have HE:Hid (_):=hE;clear hE;go_wp2_with fail;go_region
   go_wp2_with fail;refine bodyPost_ret (v:=.tuple #[.slice none 0 0,.slice none 0 0,.int .i64 (K.e:Int),.int .i64 (K.pl:Int)]) (by simp[results,Tryz.results24,go_sem]) rfl ?_
   refine ⟨H2.out.1.drew,none,0,0,none,0,0,by rw[ck.out,if_neg HE.out],fun h=>?_⟩
   rw[ck.out,if_neg HE.out] at h;exact absurd h HE.out
open Go.RowKit
theorem qhx (s:ByteArray) (w:World) (hs:s.size≤maxLen):Calls Tryz.prog 9 #[.string s] w fun e w'=>e=.returned (.tuple #[.int .i64 ((Px.check s).1:Int),.int .i64 ((Px.check s).2:Int)])∧Below w.heap.size w w':=by
 go_enter Tryz.func9,Tryz.ntmps9
 go_wp2_with fail;refine (qrh s _ hs).mono ?_;rintro e w1 ⟨hb,a,n,c,a',n',c',rfl,hr⟩;have HB:Hid (_):=hb;clear hb hr;go_wp2_with fail;go_ret2;exact ⟨rfl,HB.out⟩
end Ref
end Go.Proofs.YtagpnplggopoeaaGreatDoor
