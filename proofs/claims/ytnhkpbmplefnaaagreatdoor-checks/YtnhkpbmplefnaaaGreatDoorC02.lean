import Derived.Test.YtnhkpbmplefnaaaGreatDoorC01
namespace Go.Proofs.YtnhkpbmplefnaaaGreatDoor
open Go.RowKit
namespace Ref
set_option maxRecDepth 100000 in
set_option maxHeartbeats 2000000 in
theorem look_call (c:Nat) (x:Px.Sm) (hop:x.op=99):LookOk c x:=by
 intro k w ok q hx hok hl hw h1 h2 hc
 obtain ⟨hq,ve,v1,v2,q1,q2,hv,e3,e4,e5,e6,e7⟩:=hx
 obtain ⟨d0,d1,d2,d3,d4,d5,d6,d7,d8,d9,d10,df⟩:=cells11 hv
 rw[hop] at d0
 have hqc:=hok q hq
 have HW:Hid (Px.WfO x.ex):=hw.1
 generalize hM1:Px.mustE x.ex 105 k=M1
 generalize hM2:(if x.asw.toList.isEmpty then M1 else Px.giveV x.asw x.asPl 105 M1)=M2
 have eX:Hid (Px.lookX x k=if x.n < 1∨5 < x.n then Px.say 4 x.nPl M2 else M2):=by unfold Hid Px.lookX;rw[if_neg (by omega),if_pos hop];simp only[hM1,hM2]
 have EM1:Hid (Px.mustE x.ex 105 k=M1):=hM1
 have EM2:Hid ((if x.asw.toList.isEmpty then M1 else Px.giveV x.asw x.asPl 105 M1)=M2):=hM2
 have HV:Hid (M1.vars=k.vars):=by unfold Hid;rw[← hM1];exact Px.mustE_vars _ _ _
 clear hM1 hM2
 have HL:Hid (LkAt w c k∧(∀ i,ok i→i < c)∧ExO w x.ex ok ve∧w.heap[q]?=some (.cells (smCells x ve v1 v2) 181)):=⟨hl,hok,e3,hv⟩
 clear hl hv hok hw h1 h2 e4 e5 e6 e7 e3
 obtain ⟨pe,rfl⟩:∃ pe,ve=.pointer pe:=by
  have:=HL.out.2.2.1
  cases hx:x.ex with
  | none=>rw[hx] at this;exact ⟨_,this⟩
  | some e=>rw[hx] at this;obtain ⟨qe,h,_⟩:=this;exact ⟨_,h⟩
 go_enter Tryz.func69,Tryz.ntmps69
 go_upto_if 36 with fail
 go_cut [5] (fun _ wc=>Hid (LkAt wc c M1∧Below c w wc))
 case first =>
  cases hex:x.ex with
  | none =>
   have hpe:(Value.pointer pe)=.pointer none:=by have:=HL.out.2.2.1;rw[hex] at this;exact this
   cases hpe
   have hm:Hid (k=M1):=by unfold Hid;rw[← EM1.out,hex];rfl
   clear hex
   go_wp2_with fail
   go_meet
   case rel =>
    refine ⟨?_,Below.refl _ _⟩
    rw[← hm.out];exact HL.out.1
  | some ex =>
   obtain ⟨qe,hpe,hxe⟩:∃ qe,Value.pointer pe=ptr qe∧ExAt w ex ok qe:=by have:=HL.out.2.2.1;rw[hex] at this;exact this
   unfold ptr at hpe
   cases hpe
   have hwe:Px.WfE ex:=HW.out ex hex
   obtain ⟨hqe,vk,hve⟩:=hxe.root
   have hqec:=HL.out.2.1 qe hqe
   have hm:Hid (M1=if Px.isK (Px.kindE ex k).1 105 then (Px.kindE ex k).2 else Px.say 6 ex.pl (Px.kindE ex k).2):=by unfold Hid;rw[← EM1.out,hex];rfl
   have XE:Hid (ExAt w ex ok qe∧w.heap[qe]?=some (.cells #[.int .u8 (ex.op:Int),.int .i64 (ex.n:Int),.string ex.word,.int .i64 (ex.pl:Int),.int .i64 (ex.own:Int),vk] 255)):=⟨hxe,hve⟩
   clear hex hxe hve
   generalize hr:Px.kindE ex k=r at *
   have HR:Hid (Px.kindE ex k=r):=hr
   clear hr
   go_wp2_with fail
   refine (kind_ok c ex hwe k _ ok qe XE.out.1 HL.out.2.1 HL.out.1).mono ?_
   rw[HR.out]
   rintro e w1 ⟨rfl,l1,b1⟩
   have hh1:w1.heap[q]?=_:=(b1.block q hqc).trans HL.out.2.2.2
   have hg1:w1.heap[qe]?=_:=(b1.block qe hqec).trans XE.out.2
   obtain ⟨f0,f1,f2,f3,f4,f5,f6,f7,f8,f9,f10,ff⟩:=cells11 hh1
   obtain ⟨g0,g1,g2,g3,g4,g5,gf⟩:=cells6 hg1
   have L1:Hid (LkAt w1 c r.2∧Below c w w1):=⟨l1,b1⟩
   clear l1 b1 hh1 hg1 d0 d1 d2 d3 d4 d5 d6 d7 d8 d9 d10 df
   cases hi:Px.isK r.1 105
   ·go_wp2_with fail
    refine (is_any r.1 105 _).mono ?_
    rintro e w' ⟨rfl,rfl⟩
    go_wp2_with fail
    refine (say_any c 6 ex.pl r.2 _ L1.out.1).mono ?_
    rintro e w2 ⟨rfl,l2,b2⟩
    have L2:Hid (_∧_):=⟨l2,b2⟩
    clear l2 b2
    go_wp2_with fail
    go_meet
    case rel =>
     refine ⟨?_,L1.out.2.trans L2.out.2⟩
     rw[hm.out,hi]
     exact L2.out.1
   ·go_wp2_with fail
    refine (is_any r.1 105 _).mono ?_
    rintro e w' ⟨rfl,rfl⟩
    go_wp2_with fail
    go_meet
    case rel =>
     refine ⟨?_,L1.out.2⟩
     rw[hm.out,hi]
     exact L1.out.1
 case rest =>
 have C1:Hid (LkAt wc c M1∧Below c w wc):=hcut
 have hh2:wc.heap[q]?=_:=(C1.out.2.block q hqc).trans HL.out.2.2.2
 obtain ⟨j0,j1,j2,j3,j4,j5,j6,j7,j8,j9,j10,jf⟩:=cells11 hh2
 clear hcut hh2 d0 d1 d2 d3 d4 d5 d6 d7 d8 d9 d10 df
 go_upto_if 59 with fail
 go_cut [] (fun wd=>Hid (LkAt wd c M2∧Below c w wd))
 case first =>
  cases ha:x.asw.toList.isEmpty
  ·go_wp2_with fail
   go_region_with (go_at_call 135;refine (give_any c x.asw x.asPl 105 M1 _ C1.out.1.drew (by rw[HV.out];omega)).mono ?_;rintro e w2 ⟨rfl,l2,b2⟩;have L2:Hid (_∧_):=⟨l2,b2⟩;clear l2 b2)
   all_goals
    go_wp2_with fail
    go_meet
    case rel =>
     refine ⟨?_,C1.out.2.drew.trans L2.out.2⟩
     rw[← EM2.out,ha]
     exact L2.out.1
  ·go_wp2_with fail
   go_meet
   case rel =>
    refine ⟨?_,C1.out.2⟩
    rw[← EM2.out,ha]
    exact C1.out.1
 case rest =>
 have C2:Hid (LkAt wc c M2∧Below c w wc):=hcut
 have hh3:wc.heap[q]?=_:=(C2.out.2.block q hqc).trans HL.out.2.2.2
 obtain ⟨m0,m1,m2,m3,m4,m5,m6,m7,m8,m9,m10,mf⟩:=cells11 hh3
 clear hcut hh3 j0 j1 j2 j3 j4 j5 j6 j7 j8 j9 j10 jf
 by_cases hn1:x.n < 1
 ·have t1:(x.n:Int) < 1:=by omega
  go_wp2_with fail
  refine (say_any c 4 x.nPl M2 _ C2.out.1).mono ?_
  rintro e w2 ⟨rfl,l2,b2⟩
  have L2:Hid (_∧_):=⟨l2,b2⟩
  clear l2 b2
  go_wp2_with fail
  go_end0
  rw[eX.out,if_pos (by omega)]
  exact ⟨rfl,L2.out.1,C2.out.2.trans L2.out.2⟩
 ·have t1:¬ (x.n:Int) < 1:=by omega
  by_cases hn2:5 < x.n
  ·have t2:(5:Int) < x.n:=by omega
   go_wp2_with fail
   refine (say_any c 4 x.nPl M2 _ C2.out.1).mono ?_
   rintro e w2 ⟨rfl,l2,b2⟩
   have L2:Hid (_∧_):=⟨l2,b2⟩
   clear l2 b2
   go_wp2_with fail
   go_end0
   rw[eX.out,if_pos (by omega)]
   exact ⟨rfl,L2.out.1,C2.out.2.trans L2.out.2⟩
  ·have t2:¬ (5:Int) < x.n:=by omega
   go_wp2_with fail
   go_end0
   rw[eX.out,if_neg (by omega)]
   exact ⟨rfl,C2.out.1,C2.out.2⟩
theorem look_one (c:Nat) (x:Px.Sm) (i1:LooksOk c x.one) (i2:LooksOk c x.two):LookOk c x:=by
 intro k w ok q hx hok hl hw h1 h2 hc
 rcases hw.2 with h | h | h | h | h | h
 ·exact look_let c x h.1 k w ok q hx hok hl hw h1 h2 hc
 ·exact look_call c x h k w ok q hx hok hl hw h1 h2 hc
 ·exact look_if c x h.1 i1 i2 k w ok q hx hok hl hw h1 h2 hc
 ·exact look_try c x h i1 i2 k w ok q hx hok hl hw h1 h2 hc
 ·exact look_rep c x h i1 k w ok q hx hok hl hw h1 h2 hc
 ·exact look_fail c x h k w ok q hx hok hl hw h1 h2 hc
theorem look_each (c:Nat) (l:List Px.Sm):∀ i (hi:i < l.length),LookOk c l[i]:=by
 match l with
 | []=>intro i hi;simp at hi
 | ⟨op,word,pl,ex,asw,asPl,undo,n,nPl,one,two⟩::rest =>
  intro i hi
  cases i with
  | zero=>exact look_one c _ (looks_ok c one (look_each c one)) (looks_ok c two (look_each c two))
  | succ i=>exact look_each c rest i (by simpa using hi)
theorem look_all (c:Nat) (l:List Px.Sm):LooksOk c l:=looks_ok c l (look_each c l)
open Go.RowKit
theorem read_any (s:ByteArray) (w:World) (hs:s.size≤maxLen):Calls Tryz.prog 41 #[.string s] w (RdPost s w):=by
 by_cases h:300 < s.size
 ·exact read_long s w h hs
 ·exact read_short s w (by omega)
def LdPost (s:ByteArray) (w:World) (e:Ending) (w':World):Prop :=
 Below w.heap.size w w'∧∃ a n c a' n' c',e=.returned (.tuple #[.slice a n c,.slice a' n' c',.int .i64 ((Px.check s).1:Int),.int .i64 ((Px.check s).2:Int)]) ∧
  ((Px.check s).1=0→∃ l qs,Px.read s=.ok l∧SlAt w' (.slice a n c) qs (In w w')∧SmsAt w' l (In w w') qs)
set_option maxHeartbeats 1000000 in
theorem looked_any (s:ByteArray) (w:World) (hs:s.size≤maxLen):Calls Tryz.prog 27 #[.string s] w (LdPost s w):=by
 go_enter Tryz.func27,Tryz.ntmps27
 go_wp2_with fail
 refine (read_any s _ hs).mono ?_
 rintro e w1 ⟨hb,a,n,c,x,p,rfl,hr⟩
 cases hrd:Px.read s with
 | error r =>
  obtain ⟨c',p'⟩:=r
  rw[hrd] at hr
  obtain ⟨rfl,rfl,rfl,rfl,rfl⟩:=hr
  have hx0:x≠0:=by
   unfold Px.read at hrd
   split at hrd
   ·cases hrd;omega
   ·split at hrd
    ·cases hrd;omega
    ·split at hrd
     ·cases hrd;omega
     ·cases hrd
  have t1:((x:Int) != 0)=true:=by rw[bne_iff_ne];omega
  have ck:Hid (Px.check s=(x,p)):=by unfold Hid Px.check;rw[hrd]
  have B:Hid (_):=hb
  clear hrd hb
  go_wp2_with fail
  refine bodyPost_ret (v:=.tuple #[.slice none 0 0,.slice none 0 0,.int .i64 (x:Int),.int .i64 (p:Int)]) (by simp[results,Tryz.results27,go_sem]) rfl ?_
  refine ⟨B.out,none,0,0,none,0,0,by rw[ck.out],fun h=>?_⟩
  rw[ck.out] at h
  exact absurd h hx0
 | ok l =>
  rw[hrd] at hr
  obtain ⟨rfl,rfl,qs,h1,h2⟩:=hr
  obtain ⟨wf,hcnt⟩:=Px.read_makes hrd
  generalize hK:Px.lookS l ⟨[],0,0⟩=K
  have ck:Hid (Px.check s=if K.e=0 then (0,0) else (K.e,K.pl)):=by unfold Hid Px.check;rw[hrd];simp only[hK]
  have HH:Hid (Below w.heap.size w w1∧SlAt w1 (.slice a n c) qs (In w w1)∧SmsAt w1 l (In w w1) qs∧Px.WfS l∧Px.read s=.ok l∧Px.lookS l ⟨[],0,0⟩=K):=⟨hb,h1,h2,wf,hrd,hK⟩
  have HL:Hid (LkAt (w1.alloc (.cells #[.slice none 0 0,.int .i64 0,.int .i64 0] 97)) w1.heap.size ⟨[],0,0⟩):=by
   refine ⟨none,0,0,?_,World.ownsRow_nil _ _ _ _⟩
   show (w1.heap.push _)[w1.heap.size]?=_
   rw[Array.getElem?_push,if_pos rfl]
   rfl
  clear hb h1 h2 wf hrd hK
  go_wp2_with fail
  refine (look_all w1.heap.size l ⟨[],0,0⟩ _ (In w w1) _ qs (HH.out.2.1.keep fun i hi=>Below.heap_alloc _ _ _ hi.2) (HH.out.2.2.1.keep fun i hi=>Below.heap_alloc _ _ _ hi.2) (fun i hi=>hi.2) HL.out HH.out.2.2.2.1 (by simp;omega)).mono ?_
  rw[HH.out.2.2.2.2.2]
  rintro e w2 ⟨rfl,l2,b2⟩
  obtain ⟨va,vn,vc,g1,g2⟩:=l2.ex
  obtain ⟨c0,c1,c2,cf⟩:=cells3 g1
  have bW:Below w.heap.size w w2:=(HH.out.1.alloc HH.out.1.size _).trans (b2.mono HH.out.1.size)
  have hkeep:∀ i,In w w1 i→w2.heap[i]?=w1.heap[i]?:=fun i hi=>by rw[b2.block i hi.2,Below.heap_alloc _ _ _ hi.2]
  have hz2:w1.heap.size < w2.heap.size:=lt_of_cell c0
  have H2:Hid (Below w.heap.size w w2∧SlAt w2 (.slice a n c) qs (In w w2)∧SmsAt w2 l (In w w2) qs):=⟨bW,(HH.out.2.1.keep hkeep).mono fun i hi=>⟨hi.1,by have:=hi.2;omega⟩,(HH.out.2.2.1.keep hkeep).mono fun i hi=>⟨hi.1,by have:=hi.2;omega⟩⟩
  clear l2 b2 g1 g2 bW hkeep
  by_cases hE:K.e=0
  ·have t1:((K.e:Int) != 0)=false:=by rw[hE];rfl
   have HE:Hid (K.e=0):=hE
   clear hE
   go_wp2_with fail
   go_region
   go_wp2_with fail
   refine bodyPost_ret (v:=.tuple #[.slice a n c,.slice va vn vc,.int .i64 0,.int .i64 0]) (by simp[results,Tryz.results27,go_sem]) rfl ?_
   refine ⟨H2.out.1.drew,a,n,c,va,vn,vc,by rw[ck.out,if_pos HE.out];rfl,fun h=>⟨l,qs,HH.out.2.2.2.2.1,H2.out.2.1,H2.out.2.2.keep fun _ _=>rfl⟩⟩
  ·have t1:((K.e:Int) != 0)=true:=by rw[bne_iff_ne];omega
   have HE:Hid (¬ K.e=0):=hE
   clear hE
   go_wp2_with fail
   go_region
   go_wp2_with fail
   refine bodyPost_ret (v:=.tuple #[.slice none 0 0,.slice none 0 0,.int .i64 (K.e:Int),.int .i64 (K.pl:Int)]) (by simp[results,Tryz.results27,go_sem]) rfl ?_
   refine ⟨H2.out.1.drew,none,0,0,none,0,0,by rw[ck.out,if_neg HE.out],fun h=>?_⟩
   rw[ck.out,if_neg HE.out] at h
   exact absurd h HE.out
theorem check_any (s:ByteArray) (w:World) (hs:s.size≤maxLen):Calls Tryz.prog 13 #[.string s] w fun e w'=>e=.returned (.tuple #[.int .i64 ((Px.check s).1:Int),.int .i64 ((Px.check s).2:Int)])∧Below w.heap.size w w':=by
 go_enter Tryz.func13,Tryz.ntmps13
 go_wp2_with fail
 refine (looked_any s _ hs).mono ?_
 rintro e w1 ⟨hb,a,n,c,a',n',c',rfl,hr⟩
 have HB:Hid (_):=hb
 clear hb hr
 go_wp2_with fail
 go_ret2
 exact ⟨rfl,HB.out⟩
end Ref
end Go.Proofs.YtnhkpbmplefnaaaGreatDoor
