import Derived.Test.YthanmfbakpcigaaGreatDoorR04
import Derived.Test.YthanmfbakpcigaaGreatDoorR01
import Derived.Deep.QuietTactic
import Derived.BigQuiet
import Derived.Test.YthanmfbakpcigaaGreatDoorR00
import Derived.Deep.OwnRows
set_option maxRecDepth 100000
set_option maxHeartbeats 4000000
namespace Go.Proofs.YthanmfbakpcigaaGreatDoor
open Go.RowKit
namespace Ref
theorem St.drewN {w:World} {B c:Nat} {V:Px.Vs} {s:Px.Rs} {vv vh vl va vp:Value} {pv ex:List Value} (h:St w B c V s vv vh vl va vp pv ex) (n:Nat):St (w.drewN n) B c V s vv vh vl va vp pv ex :=
 h.own ⟨rfl,rfl,rfl,Nat.le_refl _,fun _ _ _=>rfl⟩ h.at_ rfl rfl rfl rfl
theorem St.drew {w:World} {B c:Nat} {V:Px.Vs} {s:Px.Rs} {vv vh vl va vp:Value} {pv ex:List Value} (h:St w B c V s vv vh vl va vp pv ex):St w.drew B c V s vv vh vl va vp pv ex :=
 h.own ⟨rfl,rfl,rfl,Nat.le_refl _,fun _ _ _=>rfl⟩ h.at_ rfl rfl rfl rfl
theorem zwc (T:Nat→Prop) (w:World) (n:Nat):Tch T w (w.drewN n):=⟨rfl,rfl,rfl,Nat.le_refl _,fun _ _ _=>rfl⟩
theorem St.fails {w:World} {B c:Nat} {V:Px.Vs} {s:Px.Rs} {vv vh vl va vp:Value} {pv ex:List Value} (h:St w B c V s vv vh vl va vp pv ex):St (w.setCell ⟨c,7,none⟩ (.bool true)) B c V { s with failed:=true } vv vh vl va vp pv ex :=
 h.own (qcp (Tch.refl _ _) rfl) (by rw[heap_set _ h.at_];simp) rfl rfl rfl rfl
def zkg (B c:Nat) (V:Px.Vs) (s:Px.Rs) (r:Option Int) (vv vh vl va vp:Value) (pv ex:List Value) (w:World) (e:Ending) (w':World):Prop :=
 ∃ n,e=.returned (.int .i64 n)∧Tch (·=c) w w'∧(∀ v,r=some v→n=v∧St w' B c V s vv vh vl va vp pv ex)∧(r=none→St w' B c V { s with failed:=true } vv vh vl va vp pv ex)
def EvOk (B c:Nat) (V:Px.Vs) (x:Px.Ex):Prop:=∀ (s:Px.Rs) (w:World) (ok:Nat→Prop) (q:Nat) (vv vh vl va vp:Value) (pv ex:List Value),ExAt w x ok q→(∀ i,ok i→i < B)→St w B c V s vv vh vl va vp pv ex→s.held.length=V.length→s.failed=false→(∃ k,Px.okE V x k) →
 Calls Tryz.prog 115 #[.pointer (some ⟨c,0,none⟩),.pointer (some ⟨q,0,none⟩)] w (zkg B c V s (Px.evE V s.held x) vv vh vl va vp pv ex w)
theorem zix (B c:Nat) (V:Px.Vs) (op n:Nat) (word:ByteArray) (pl own:Nat) (hop:op=110∨op=116):EvOk B c V ⟨op,n,word,pl,own,none,none⟩:=by
 intro s w ok q vv vh vl va vp pv ex hx hok hs hlen hf hk;obtain ⟨hq,v,hv⟩:=hx.root;obtain ⟨c0,c1,c2,c3,c4,c5,f⟩:=qb9 hv;have HS:Hid (_):=hs;clear hx hs hv hk;rcases hop with rfl | rfl
 ·go_enter Tryz.func115,Tryz.ntmps115
  go_wp2_with fail;go_ret;refine ⟨_,rfl,Tch.refl _ _,fun v h=>?_,fun h=>?_⟩
  ·rw[Px.evE] at h;simp at h;exact ⟨h,HS.out⟩
  ·rw[Px.evE] at h;simp at h
 ·go_enter Tryz.func115,Tryz.ntmps115
  go_wp2_with fail;go_ret;refine ⟨_,rfl,Tch.refl _ _,fun v h=>?_,fun h=>?_⟩
  ·rw[Px.evE] at h;simp at h;exact ⟨h,HS.out⟩
  ·rw[Px.evE] at h;simp at h
theorem St.zid {w:World} {B c:Nat} {V:Px.Vs} {s:Px.Rs} {vv vh vl va vp:Value} {pv ex:List Value} (h:St w B c V s vv vh vl va vp pv ex) {i:Nat} (hi:i < s.held.length):∃ g cap,vh=.slice (some ⟨g,0,none⟩) s.held.length cap∧s.held.length≤maxLen∧w.cell? ⟨g,i,none⟩=some (.int .i64 (s.held.getD i 0))∧∀ o,w.frozen? ⟨g,o,none⟩=false:=by
 obtain ⟨h1,h2⟩:=h.held;rcases h2 with ⟨_,h2⟩ | ⟨g,cap,cur,hv,hg,hh,hn,hm,hz,ht⟩
 ·omega
 ·refine ⟨g,cap,hv,by omega,?_,fun o=>by simp[World.frozen?,hh]⟩
  have e:cur[i]?=(intCells s.held)[i]?:=by
   rw[← ht,List.getElem?_take_of_lt (by omega)];simp
  simp only[World.cell?,hh];rw[e];simp[intCells,hi]
theorem qyf {l:List (ByteArray×Nat)} {x:ByteArray} {i:Nat} (hi:Px.qa3 l x=some i) (w:World) (base:Nat) (va:Option Addr) (vn vc:Nat) (h:w.ownsRow base 280 2 (.slice va vn vc) l.length (qbr l)) :
  Calls Tryz.prog 116 #[.slice va vn vc,.string x] w fun e w'=>e=.returned (.int .i64 (i:Int))∧w'=w :=
 (qie l x w base va vn vc h).mono fun _ _ h=>⟨by rw[h.1,qku,hi],h.2.symm⟩
theorem zug (B c:Nat) (V:Px.Vs) (n:Nat) (word:ByteArray) (pl own:Nat):EvOk B c V ⟨119,n,word,pl,own,none,none⟩:=by
 intro s w ok q vv vh vl va vp pv ex hx hok hs hlen hf hk;obtain ⟨hq,v,hv⟩:=hx.root;obtain ⟨c0,c1,c2,c3,c4,c5,f⟩:=qb9 hv;obtain ⟨d0,d1,d2,d3,d4,d5,d6,d7,df⟩:=qb1 hs.at_;obtain ⟨k,hk⟩:=hk;obtain ⟨i,hi,_⟩:∃ i,Px.qa3 V word=some i∧True:=by
  rw[Px.okE] at hk;simp at hk;obtain ⟨i,h,_⟩:=hk;exact ⟨i,h,trivial⟩
 have hlt:=qds hi;obtain ⟨g,cap,rfl,hm,hcell,hfr⟩:=hs.zid (i:=i) (by omega)
 obtain ⟨a1,n1,cc1,rfl⟩:=qad hs.vars;have HI:Hid (_):=hi;have e1:Hid (Px.evE V s.held ⟨119,n,word,pl,own,none,none⟩=some (s.held.getD i 0)):=by unfold Hid;simp[Px.evE,Px.qv9,hi]
 have HS:Hid (_):=hs;unfold maxLen at hm;have hil:i < s.held.length:=by omega
 clear hx hs hv hk hi;go_enter Tryz.func115,Tryz.ntmps115
 go_wp2_with fail;go_quiet ((go_at_call 116;exact Calls.quiet_of_same (qyf HI.out _ 0 _ _ _ HS.out.vars)))
 go_wp2_with fail;go_ret;refine ⟨_,rfl,zwc _ _ _,fun v h=>?_,fun h=>?_⟩
 ·rw[e1.out] at h;cases h;exact ⟨by simp[hil],HS.out.drewN _⟩
 ·rw[e1.out] at h;cases h
theorem zxr (B c:Nat) (V:Px.Vs) (n:Nat) (word:ByteArray) (pl own:Nat) (l:Px.Ex) (ih:EvOk B c V l):EvOk B c V ⟨33,n,word,pl,own,some l,none⟩:=by
 intro s w ok q vv vh vl va vp pv ex hx hok hs hlen hf hk;obtain ⟨hq,kb,lq,hkb,hne,hv,hkc,hxl⟩:=hx;obtain ⟨c0,c1,c2,c3,c4,c5,f⟩:=qb9 hv;have k0:w.cell? ⟨kb,0,none⟩=some (.pointer (some ⟨lq,0,none⟩)):=by simp[World.cell?,hkc]
 obtain ⟨k,hk⟩:=hk;rw[Px.okE] at hk;have HS:Hid (St w B c V s vv vh vl va vp pv ex∧ExAt w l _ lq∧s.held.length=V.length∧s.failed=false∧∃ k,Px.okE V l k):=⟨hs,hxl,hlen,hf,98,hk.2.2⟩;have HK:Hid (∀ i,(ok i∧i≠q∧i≠kb)→i < B):=fun i hi=>hok i hi.1
 have e1:Hid (Px.evE V s.held ⟨33,n,word,pl,own,some l,none⟩=(Px.evE V s.held l).map fun v=>wrap64 (1 - v)):=rfl
 clear hs hv hkc hxl hok hlen hf hk;go_enter Tryz.func115,Tryz.ntmps115
 go_wp2_with fail;refine (ih s _ _ lq vv vh vl va vp pv ex HS.out.2.1 HK.out HS.out.1 HS.out.2.2.1 HS.out.2.2.2.1 HS.out.2.2.2.2).mono ?_;rintro e w1 ⟨m,rfl,h1,h2,h3⟩;have H1:Hid (_∧_∧_):=⟨h1,h2,h3⟩;clear h1 h2 h3;go_wp2_with fail;go_ret;refine ⟨_,rfl,H1.out.1,fun v h=>?_,fun h=>?_⟩
 ·rw[e1.out] at h;cases hl:Px.evE V s.held l with
  | none=>rw[hl] at h;cases h
  | some a =>
   rw[hl] at h;cases h;obtain ⟨rfl,h5⟩:=H1.out.2.1 a hl;exact ⟨by simp[wrap64],h5⟩
 ·rw[e1.out] at h;cases hl:Px.evE V s.held l with
  | none=>exact H1.out.2.2 hl
  | some a=>rw[hl] at h;cases h
open Go.RowKit
theorem zuh (B c:Nat) (V:Px.Vs) (op:Nat) (hop:op=42∨op=47∨op=43∨op=45∨op=60∨op=61∨op=35) (n:Nat) (word:ByteArray) (pl own:Nat) (l r:Px.Ex) (ihl:EvOk B c V l) (ihr:EvOk B c V r):EvOk B c V ⟨op,n,word,pl,own,some l,some r⟩:=by
 intro s w ok q vv vh vl va vp pv ex hx hok hs hlen hf hk;obtain ⟨hq,kb,lq,rq,hkb,hne,hv,hkc,hxl,hxr⟩:=hx;obtain ⟨c0,c1,c2,c3,c4,c5,f⟩:=qb9 hv;have k0:w.cell? ⟨kb,0,none⟩=some (.pointer (some ⟨lq,0,none⟩)):=by simp[World.cell?,hkc]
 have hB:=hs.hB;have hcz:=hs.lt;have hqc:=hok q hq;have hkbc:=hok kb hkb;obtain ⟨k,hk⟩:=hk;have hkk:(∃ k,Px.okE V l k)∧∃ k,Px.okE V r k:=by
  rw[Px.okE] at hk;split at hk
  ·obtain ⟨_,j,h1,h2⟩:=hk;exact ⟨⟨j,h1⟩,j,h2⟩
  ·exact ⟨⟨_,hk.2.2.1⟩,_,hk.2.2.2⟩
 have HS:Hid (St w B c V s vv vh vl va vp pv ex∧(ExAt w l _ lq∧ExAt w r _ rq)∧s.held.length=V.length∧s.failed=false∧((∃ k,Px.okE V l k)∧∃ k,Px.okE V r k)∧_∧_):=⟨hs,⟨hxl,hxr⟩,hlen,hf,hkk,hv,hkc⟩;have HK:Hid (∀ i,(ok i∧i≠q∧i≠kb)→i < B):=fun i hi=>hok i hi.1
 have e1:Hid (Px.evE V s.held ⟨op,n,word,pl,own,some l,some r⟩=match Px.evE V s.held l with
  | none=>none
  | some a=>match Px.evE V s.held r with
   | none=>none
   | some b=>Px.op2 op a b):=rfl
 clear hs hv hkc hxl hxr hok hlen hf hk hkk;have o1:((op:Int) == 110)=false:=by rw[beq_eq_false_iff_ne];omega
 have o2:((op:Int) == 116)=false:=by rw[beq_eq_false_iff_ne];omega
 have o3:((op:Int) == 119)=false:=by rw[beq_eq_false_iff_ne];omega
 have o4:((op:Int) == 33)=false:=by rw[beq_eq_false_iff_ne];omega
 have OP:Hid (_):=hop;clear hop;go_enter Tryz.func115,Tryz.ntmps115
 go_wp2_with fail;refine (ihl s _ _ lq vv vh vl va vp pv ex HS.out.2.1.1 HK.out HS.out.1 HS.out.2.2.1 HS.out.2.2.2.1 HS.out.2.2.2.2.1.1).mono ?_;rintro e w1 ⟨a,rfl,h1,h2,h3⟩;have hv1:w1.heap[q]?=_:=(h1.block q (by omega) (by omega)).trans HS.out.2.2.2.2.2.1
 have hk1:w1.heap[kb]?=_:=(h1.block kb (by omega) (by omega)).trans HS.out.2.2.2.2.2.2
 have hx1:ExAt w1 r _ rq:=HS.out.2.1.2.keep fun i hi=>h1.block i (by have:=HK.out i hi;omega) (by have:=HK.out i hi;omega)
 obtain ⟨d0,d1,d2,d3,d4,d5,df⟩:=qb9 hv1;have kk1:w1.cell? ⟨kb,1,none⟩=some (.pointer (some ⟨rq,0,none⟩)):=by simp[World.cell?,hk1]
 cases hl:Px.evE V s.held l with
 | none =>
  obtain ⟨g0,g1,g2,g3,g4,g5,g6,g7,gf⟩:=qb1 (h3 hl).at_;have H1:Hid (_∧_):=⟨h1,h3 hl⟩;have E2:Hid (Px.evE V s.held ⟨op,n,word,pl,own,some l,some r⟩=none):=by unfold Hid;rw[e1.out,hl]
  clear h1 h2 h3 hv1 hk1 hx1 hl c0 c1 c2 c3 c4 c5 f;go_wp2_with fail;go_ret;refine ⟨_,rfl,H1.out.1,fun v h=>?_,fun _=>H1.out.2⟩
  rw[E2.out] at h;cases h
 | some av =>
  obtain ⟨rfl,h4⟩:=h2 av hl;obtain ⟨g0,g1,g2,g3,g4,g5,g6,g7,gf⟩:=qb1 h4.at_;rw[HS.out.2.2.2.1] at g7;have hz1:=h1.size;have H1:Hid (Tch (·=c) w w1∧St w1 B c V s vv vh vl va vp pv ex∧ExAt w1 r _ rq∧_∧Px.evE V s.held l=some a):=⟨h1,h4,hx1,hv1,hl⟩
  clear h1 h2 h3 h4 hv1 hk1 hx1 hl c0 c1 c2 c3 c4 c5 f;go_wp2_with fail;refine (ihr s _ _ rq vv vh vl va vp pv ex H1.out.2.2.1 HK.out H1.out.2.1 HS.out.2.2.1 HS.out.2.2.2.1 HS.out.2.2.2.2.1.2).mono ?_;rintro e w2 ⟨b,rfl,h1,h2,h3⟩;have hv2:w2.heap[q]?=_:=(h1.block q (by omega) (by omega)).trans H1.out.2.2.2.1
  obtain ⟨j0,j1,j2,j3,j4,j5,jf⟩:=qb9 hv2;cases hr:Px.evE V s.held r with
  | none =>
   obtain ⟨m0,m1,m2,m3,m4,m5,m6,m7,mf⟩:=qb1 (h3 hr).at_;have H2:Hid (_∧_):=⟨h1,h3 hr⟩;have E2:Hid (Px.evE V s.held ⟨op,n,word,pl,own,some l,some r⟩=none):=by unfold Hid;rw[e1.out,H1.out.2.2.2.2,hr]
   clear h1 h2 h3 hv2 hr d0 d1 d2 d3 d4 d5 df g0 g1 g2 g3 g4 g5 g6 g7 gf kk1;go_wp2_with fail;go_ret;refine ⟨_,rfl,H1.out.1.trans H2.out.1,fun v h=>?_,fun _=>H2.out.2⟩
   rw[E2.out] at h;cases h
  | some bv =>
   obtain ⟨rfl,h4⟩:=h2 bv hr;obtain ⟨m0,m1,m2,m3,m4,m5,m6,m7,mf⟩:=qb1 h4.at_;rw[HS.out.2.2.2.1] at m7;have H2:Hid (Tch (·=c) w w2∧St w2 B c V s vv vh vl va vp pv ex):=⟨H1.out.1.trans h1,h4⟩
   have E2:Hid (Px.evE V s.held ⟨op,n,word,pl,own,some l,some r⟩=Px.op2 op a b):=by unfold Hid;rw[e1.out,H1.out.2.2.2.2,hr]
   clear h1 h2 h3 h4 hv2 hr d0 d1 d2 d3 d4 d5 df g0 g1 g2 g3 g4 g5 g6 g7 gf kk1;have FIN:Hid (∀ v,Px.op2 op a b=some v→zkg B c V s (Px.evE V s.held ⟨op,n,word,pl,own,some l,some r⟩) vv vh vl va vp pv ex w (.returned (.int .i64 v)) w2):=fun v hv=>by
    rw[E2.out,hv];exact ⟨v,rfl,H2.out.1,fun v' h=>by cases h;exact ⟨rfl,H2.out.2⟩,fun h=>by cases h⟩
   rcases OP.out with rfl | rfl | rfl | rfl | rfl | rfl | rfl
   case inr.inl =>
    by_cases hb:b=0
    ·go_wp2_with fail;go_ret;rw[zkg,E2.out];refine ⟨_,rfl,qcp H2.out.1 rfl,fun v h=>?_,fun _=>H2.out.2.fails⟩
     simp[Px.op2,hb] at h
    ·go_wp2_with fail;go_ret;refine FIN.out _ ?_;simp[Px.op2,hb,wrap64]
   case inl =>
    go_wp2_with fail;go_ret;exact FIN.out _ rfl
   case inr.inr.inl =>
    go_wp2_with fail;go_ret;exact FIN.out _ rfl
   case inr.inr.inr.inl =>
    go_wp2_with fail;go_ret;exact FIN.out _ rfl
   all_goals
    go_wp2_with fail;refine (qfu _ _).mono ?_;rintro e w' ⟨rfl,rfl⟩;go_wp2_with fail;go_ret;exact FIN.out _ (by first | rfl | (show some (Px.truth (decide (a≠b)))=_;congr 2;rw[Bool.eq_iff_iff];simp))
theorem zdi (B c:Nat) (V:Px.Vs) (x:Px.Ex) (hw:Px.WfE x):EvOk B c V x:=by
 match x with
 | ⟨op,n,word,pl,own,none,none⟩ =>
  rcases hw with h | h | h
  ·exact zix B c V op n word pl own (Or.inl h)
  ·exact zix B c V op n word pl own (Or.inr h)
  ·rw[h];exact zug B c V n word pl own
 | ⟨op,n,word,pl,own,none,some r⟩=>exact hw.elim
 | ⟨op,n,word,pl,own,some l,none⟩=>rw[hw.1];exact zxr B c V n word pl own l (zdi B c V l hw.2)
 | ⟨op,n,word,pl,own,some l,some r⟩=>exact zuh B c V op hw.1 n word pl own l r (zdi B c V l hw.2.1) (zdi B c V r hw.2.2)
open Go.RowKit
theorem St.beside {w:World} {B c:Nat} {V:Px.Vs} {s:Px.Rs} {vv vh vl va vp:Value} {pv ex:List Value} (h:St w B c V s vv vh vl va vp pv ex) {v:Value} (hv:v∈pv++ex):∀ k,v.ownBlock=some k→¬ (k=c∨va.ownBlock=some k):=by
 intro k hk hh;rcases hh with rfl | hh
 ·exact (h.sep.own v (by simp only[List.mem_cons];exact Or.inr (Or.inr (Or.inr (Or.inr hv)))) _ hk).2.1 rfl
 ·obtain ⟨i,hi⟩:=List.mem_iff_getElem?.1 hv;exact h.sep.mem (i:=4+i) (j:=2) (by rw[show 4+i=i+1+1+1+1 by omega];exact hi) (show (vh::vl::va::vp::(pv++ex))[2]?=some va from rfl) (by omega) k hk hh
theorem St.qkd {w w':World} {B c:Nat} {V:Px.Vs} {s:Px.Rs} {vv vh vl va vp:Value} {pv ex:List Value} (h:St w B c V s vv vh vl va vp pv ex) (ht:Tch (fun k=>k=c∨va.ownBlock=some k) w w'):Below B w w':=by
 refine ht.qbg (by have:=h.lt;have:=h.hB;omega) fun k hk=>?_
 rcases hk with rfl | hk
 ·exact h.hB
 ·exact (h.sep.own va (by simp) k hk).1
theorem St.qd1 {w w':World} {B c:Nat} {V:Px.Vs} {s:Px.Rs} {vv vh vl va vp:Value} {pv ex:List Value} (h:St w B c V s vv vh vl va vp pv ex) (ht:Tch (·=c) w w'):Below B w w' :=
 ht.qbg (by have:=h.lt;have:=h.hB;omega) fun k hk=>by rw[hk];exact h.hB
theorem St.popped {w:World} {B c g cap n:Nat} {V:Px.Vs} {s:Px.Rs} {vv vh vl va tv:Value} {qv ex:List Value} {ps:List (List (ByteArray×Int))} {top:List (ByteArray×Int)}
  (h:St w B c V s vv vh vl va (.slice (some ⟨g,0,none⟩) (n+1) cap) (qv++[tv]) ex) (hp:s.piles=ps++[top]) (hn:n=ps.length) :
  St (w.setCell ⟨c,4,none⟩ (.slice (some ⟨g,0,none⟩) n cap)) B c V { s with piles:=ps } vv vh vl va (.slice (some ⟨g,0,none⟩) n cap) qv (tv::ex)∧(w.setCell ⟨c,4,none⟩ (.slice (some ⟨g,0,none⟩) n cap)).ownsRow B 154 2 tv top.length (qbe top):=by
 subst hn;have hT:Tch (·=c) w (w.setCell ⟨c,4,none⟩ (.slice (some ⟨g,0,none⟩) ps.length cap)):=qcp (Tch.refl _ _) rfl
 have hql:qv.length=ps.length:=by
  have:=h.zlw
  rw[hp] at this
  simpa using this
 have hne:∀ v∈vh::vl::va::(.slice (some ⟨g,0,none⟩) (ps.length+1) cap)::((qv++[tv])++ex),∀ k,v.ownBlock=some k→¬ k=c:=fun v hv k hk=>(h.sep.own v hv k hk).2.1
 have hB:=h.hB;refine ⟨⟨hB,by rw[heap_set _ h.at_];simp,qah h.vars hT fun k hk=>by have:=h.varB k hk;omega,h.varB,qah h.held hT (hne _ (by simp)),h.left.tch hT (hne _ (by simp)),qah h.asks hT (hne _ (by simp)),?_,?_,?_⟩,?_⟩
 ·have hh:=h.piles;rw[hp,List.length_append] at hh;have h2:=ownsRow_pop (n:=ps.length) (xs:=qv) (last:=[tv]) (by omega) hh
  exact qah h2 hT (fun k hk=>hne (.slice (some ⟨g,0,none⟩) (ps.length+1) cap) (by simp) k hk)
 ·intro i p v hpi hvi;dsimp only at hpi;have hlt:i < ps.length:=(List.getElem?_eq_some_iff.1 hpi).1;refine qah (h.each i p v ?_ ?_) hT (hne _ (by simp[List.mem_of_getElem? hvi]))
  ·rw[hp,List.getElem?_append_left hlt];exact hpi
  ·rw[List.getElem?_append_left (by omega)];exact hvi
 ·have hs:=Sep.turn (A:=[vh,vl,va]) (v:=.slice (some ⟨g,0,none⟩) (ps.length+1) cap) (v':=.slice (some ⟨g,0,none⟩) ps.length cap) (R:=(qv++[tv])++ex) h.sep hT.size (by have:=h.lt;omega) h.lt (Or.inl rfl)
  simpa using hs
 ·refine qah (h.each ps.length top tv ?_ ?_) hT (hne _ (by simp))
  ·rw[hp];simp
  ·rw[← hql];simp
theorem St.qn9 {w:World} {B c:Nat} {V:Px.Vs} {s:Px.Rs} {vv vh vl va vp:Value} {pv ex:List Value} (h:St w B c V s vv vh vl va vp pv ex) (hp:s.piles≠[]) :
  ∃ g cap n qv tv,vp=.slice (some ⟨g,0,none⟩) (n+1) cap∧n+1≤cap∧cap≤maxLen∧n=s.piles.dropLast.length∧pv=qv++[tv]∧qv.length=n∧s.piles=s.piles.dropLast++[s.piles.getLastD []]∧w.cell? ⟨g,n,none⟩=some tv∧∀ o,w.frozen? ⟨g,o,none⟩=false:=by
 have hpl:=List.length_pos_iff.2 hp;have hpv:=h.zlw;have hpe:s.piles=s.piles.dropLast++[s.piles.getLastD []]:=by
  obtain ⟨qs,q,e⟩:∃ qs q,s.piles=qs++[q]:=⟨_,_,(List.dropLast_concat_getLast hp).symm⟩;rw[e];simp[List.getLastD_eq_getLast?]
 obtain ⟨h1,h2⟩:=h.piles;rcases h2 with ⟨_,h2⟩ | ⟨g,cap,cur,rfl,hg,hh,hn,hm,hz,ht⟩
 ·omega
 ·have hne:pv≠[]:=fun e=>by rw[e] at hpv;simp at hpv;omega
  have hpve:pv=pv.dropLast++[pv.getLast hne]:=(List.dropLast_concat_getLast hne).symm;have hdl:s.piles.dropLast.length=s.piles.length - 1:=List.length_dropLast;refine ⟨g,cap,s.piles.dropLast.length,pv.dropLast,pv.getLast hne,by rw[hdl];congr 1;omega,by omega,hm,rfl,hpve,by rw[List.length_dropLast,hdl];omega,hpe,?_,fun o=>by simp[World.frozen?,hh]⟩
  have e:cur[s.piles.dropLast.length]?=pv[s.piles.dropLast.length]?:=by
   rw[← ht,List.getElem?_take_of_lt (by omega)];simp
  simp only[World.cell?,hh];rw[e,hdl,← hpv,← List.getLast?_eq_getElem?,List.getLast?_eq_some_getLast hne];rfl
theorem qjl {w:World} {B:Nat} {a:Option Addr} {n c:Nat} {top:List (ByteArray×Int)} (h:w.ownsRow B 154 2 (.slice a n c) top.length (qbe top)):n=top.length∧top.length≤maxLen∧∀ j (hj:j < top.length),∃ g,a=some ⟨g,0,none⟩∧w.cell? ⟨g,j * 2,none⟩=some (.string top[j].1)∧w.cell? ⟨g,j * 2+1,none⟩=some (.int .i64 top[j].2):=by
 rcases h.2 with ⟨h1,h2⟩ | ⟨g,cap,cur,h1,h2,h3,h4,h5,h6,h7⟩
 ·cases h1;exact ⟨h2.symm,by rw[h2];exact Nat.zero_le _,fun j hj=>by omega⟩
 ·cases h1;refine ⟨rfl,by omega,fun j hj=>⟨g,rfl,?_,?_⟩⟩
  ·have hc:w.cell? ⟨g,j * 2,none⟩=(qbe top)[j * 2]?:=by
    rw[← h7,List.getElem?_take_of_lt (by omega)];simp[World.cell?,h3]
   rw[hc];exact (qlp top j hj).1
  ·have hc:w.cell? ⟨g,j * 2+1,none⟩=(qbe top)[j * 2+1]?:=by
    rw[← h7,List.getElem?_take_of_lt (by omega)];simp[World.cell?,h3]
   rw[hc];exact (qlp top j hj).2
theorem qw8 (w:ByteArray) (v:Int) (L:List (ByteArray×Int)) (s:Px.Rs):(Px.tries w v true 3 1 s).2.asks <+: (Px.qch ((w,v)::L) s).asks:=by
 rw[Px.qch];cases h:Px.tries w v true 3 1 s with
 | mk o s1 =>
  match o with
  | none=>exact List.prefix_refl _
  | some none=>exact List.prefix_refl _
  | some (some _)=>exact Px.qow L s1
theorem _root_.Go.RowKit.Below.of_drew {B:Nat} {w w':World} (h:Below B w.drew w'):Below B w w':=⟨h.os,h.tape,h.output,h.size,h.block⟩
theorem St.fewer {w:World} {B c:Nat} {V:Px.Vs} {s:Px.Rs} {vv vh vl va vp v:Value} {pv ex:List Value} (h:St w B c V s vv vh vl va vp pv (v::ex)):St w B c V s vv vh vl va vp pv ex :=
 ⟨h.hB,h.at_,h.vars,h.varB,h.held,h.left,h.asks,h.piles,h.each,h.sep.sub (List.Sublist.cons_cons _ (List.Sublist.cons_cons _ (List.Sublist.cons_cons _ (List.Sublist.cons_cons _ (List.Sublist.append (List.Sublist.refl _) (List.sublist_cons_self _ _))))))⟩
theorem St.overs {w:World} {B c:Nat} {V:Px.Vs} {s:Px.Rs} {vv vh vl va vp:Value} {pv ex:List Value} (h:St w B c V s vv vh vl va vp pv ex):St (w.setCell ⟨c,5,none⟩ (.int .i64 3)) B c V { s with over:=3 } vv vh vl va vp pv ex :=
 h.own (qcp (Tch.refl _ _) rfl) (by rw[heap_set _ h.at_];simp) rfl rfl rfl rfl
theorem zbi (B c:Nat) (V:Px.Vs) (a:Px.Ask) (s:Px.Rs) (vv vh vl va vp:Value) (pv ex:List Value) (w:World) (h:St w B c V s vv vh vl va vp pv ex) (hl:s.asks.length≤1000000000) (hn:s.left=[]) :
  Calls Tryz.prog 51 #[.pointer (some ⟨c,0,none⟩),.agg #[.string a.word,.int .i64 a.arg,.int .i64 (a.nth:Int),.bool a.undo]] w fun e w'=>e=.returned (.tuple #[.int .i64 0,.bool false])∧∃ vl' va',St w' B c V { s with asks:=s.asks++[a],stop:=true } vv vh vl' va' vp pv ex∧Tch (fun k=>k=c∨va.ownBlock=some k) w w':=by
 have:=zj1 B c V a s vv vh vl va vp pv ex w h hl
 unfold qed at this;rw[quj a hn] at this;exact this
theorem qoj (B c:Nat) (V:Px.Vs) (a:Px.Ask) (s:Px.Rs) (vv vh vl va vp:Value) (pv ex:List Value) (w:World) (h:St w B c V s vv vh vl va vp pv ex) (hl:s.asks.length≤1000000000) {n:Int} {r:List Int} (hn:s.left=n::r) :
  Calls Tryz.prog 51 #[.pointer (some ⟨c,0,none⟩),.agg #[.string a.word,.int .i64 a.arg,.int .i64 (a.nth:Int),.bool a.undo]] w fun e w'=>e=.returned (.tuple #[.int .i64 n,.bool true])∧∃ vl' va',St w' B c V { s with asks:=s.asks++[a],left:=r } vv vh vl' va' vp pv ex∧Tch (fun k=>k=c∨va.ownBlock=some k) w w':=by
 have:=zj1 B c V a s vv vh vl va vp pv ex w h hl
 unfold qed at this;rw[qkc a hn] at this;exact this
theorem qy6 (B c:Nat) (V:Px.Vs) (s:Px.Rs) (vv vh vl va vp:Value) (pv ex:List Value) (w:World) (h:St w B c V s vv vh vl va vp pv ex) (hp:s.piles≠[]) (hb:(Px.qb5 s).asks.length≤1000000000) (ho:s.over=0) :
  Calls Tryz.prog 32 #[.pointer (some ⟨c,0,none⟩)] w fun e w'=>e=.returned (.tuple #[])∧Below B w w'∧∃ vl' va' vp' pv',St w' B c V (Px.qb5 s) vv vh vl' va' vp' pv' ex:=by
 obtain ⟨c0,c1,c2,c3,c4,c5,c6,c7,cf⟩:=qb1 h.at_;obtain ⟨g,cap,n,qv,tv,rfl,hcap,hcm,hn,rfl,hqn,hpe,hcell,hfz⟩:=h.qn9 hp;generalize hps:s.piles.dropLast=ps at *;generalize htop:s.piles.getLastD []=top at *;obtain ⟨hS,hrow⟩:=h.popped hpe hn;obtain ⟨ta,tn,tc,rfl⟩:=qad hrow;obtain ⟨rfl,htm,hcells⟩:=qjl hrow;have hU:Px.qb5 s=Px.qch top.reverse { s with piles:=ps }:=by unfold Px.qb5;rw[hps,htop]
 have hBw:=h.qd1 (w':=w.setCell ⟨c,4,none⟩ (.slice (some ⟨g,0,none⟩) n cap)) (qcp (Tch.refl _ _) rfl);have H:Hid (_∧_∧_∧_∧_):=⟨hS,hrow,hU,hBw,hb⟩;unfold maxLen at hcm htm;clear hS hrow hU hBw h hpe hps htop hcells hb hn hqn hp;go_enter Tryz.func32,Tryz.ntmps32
 go_wp2_with fail;go_loopw [4] (fun i wr=>∃ j:Nat,j≤top.length∧i=.int .i64 ((j:Int) - 1)∧Hid (Below B w wr∧∃ s' vl' va',St wr B c V s' vv vh vl' va' (.slice (some ⟨g,0,none⟩) n cap) qv (.slice ta top.length tc::ex)∧wr.ownsRow B 154 2 (.slice ta top.length tc) top.length (qbe top)∧Px.qch (top.take j).reverse s'=Px.qb5 s∧s'.over=0)) (fun i _=>((intOf i)+1).toNat)
 case atStart=>exact ⟨top.length,Nat.le_refl _,by go_num,H.out.2.2.2.1,_,_,_,H.out.1,H.out.2.1,by rw[H.out.2.2.1,List.take_length],ho⟩
 case round =>
  obtain ⟨j,hj,rfl,hr⟩:=hrel;by_cases hlt:0 < j
  ·obtain ⟨j,rfl⟩:∃ j',j=j'+1:=⟨j - 1,by omega⟩
   have hjt:j < top.length:=by omega
   obtain ⟨hbr,s',vl',va',hs',hrow,hund,hov⟩:=hr.out;obtain ⟨_,_,hcells⟩:=qjl hrow;obtain ⟨gt,rfl,_,_⟩:=hcells j hjt;have htk:(top.take (j+1)).reverse=(top[j].1,top[j].2)::(top.take j).reverse:=by
    rw[List.take_succ_eq_append_getElem hjt,List.reverse_append];rfl
   rw[htk] at hund;generalize hR:Px.tries top[j].1 top[j].2 true 3 1 s'=R;have hpre:R.2.asks <+: (Px.qb5 s).asks:=by rw[← hund,← hR];exact qw8 _ _ _ _
   have HU:Hid (Px.qch ((top[j].1,top[j].2)::(top.take j).reverse) s'=Px.qb5 s∧Px.tries top[j].1 top[j].2 true 3 1 s'=R∧R.2.asks <+: (Px.qb5 s).asks):=⟨hund,hR,hpre⟩;have H0:Hid (Below B w wr∧St wr B c V s' vv vh vl' va' (.slice (some ⟨g,0,none⟩) n cap) qv (.slice (some ⟨gt,0,none⟩) top.length tc::ex)∧wr.ownsRow B 154 2 (.slice (some ⟨gt,0,none⟩) top.length tc) top.length (qbe top)∧s'.over=0):=⟨hbr,hs',hrow,hov⟩;clear hr hbr hs' hrow hund hov hcells htk hR hpre;go_wp2_with fail;go_loopw [5,6] (fun d t w2=>∃ (dn:Bool) (tt:Nat),d=.bool dn∧t=.int .i64 tt∧1≤tt∧tt≤4∧Hid (Below B w w2∧∃ s2 vl2 va2,St w2 B c V s2 vv vh vl2 va2 (.slice (some ⟨g,0,none⟩) n cap) qv (.slice (some ⟨gt,0,none⟩) top.length tc::ex)∧w2.ownsRow B 154 2 (.slice (some ⟨gt,0,none⟩) top.length tc) top.length (qbe top)∧s2.over=0∧(dn=false→Px.tries top[j].1 top[j].2 true (4 - tt) tt s2=R)∧(dn=true→∃ x,R=(some (some x),s2)))) (fun _ t _=>4 - (intOf t).toNat)
   case atStart=>exact ⟨false,1,rfl,rfl,by omega,by omega,H0.out.1,s',vl',va',H0.out.2.1,H0.out.2.2.1,H0.out.2.2.2,fun _=>HU.out.2.1,fun h=>by cases h⟩
   case round =>
    obtain ⟨dn,tt,rfl,rfl,ht1,ht4,hr2⟩:=hrel;cases dn
    ·by_cases ht3:tt≤3
     ·obtain ⟨hb2,s2,vl2,va2,hs2,hrow2,hov2,htr2,_⟩:=hr2.out;obtain ⟨_,_,hcells2⟩:=qjl hrow2;obtain ⟨g',e',hc1,hc2⟩:=hcells2 j hjt;cases e';have htr2:=htr2 rfl;obtain ⟨k,hk⟩:∃ k,4 - tt=k+1:=⟨3 - tt,by omega⟩
      have hk2:4 - (tt+1)=k:=by omega
      rw[hk] at htr2;have hlen2:s2.asks.length≤1000000000:=by
       have h1:s2.asks.length≤(Px.tries top[j].1 top[j].2 true (k+1) tt s2).2.asks.length:=(Px.qix top[j].1 top[j].2 true (k+1) tt s2).length_le;rw[htr2] at h1;have h2:=HU.out.2.2.length_le;have h3:=H.out.2.2.2.2;omega
      have H2:Hid (Below B w wr∧St wr B c V s2 vv vh vl2 va2 (.slice (some ⟨g,0,none⟩) n cap) qv (.slice (some ⟨gt,0,none⟩) top.length tc::ex)∧wr.ownsRow B 154 2 (.slice (some ⟨gt,0,none⟩) top.length tc) top.length (qbe top)∧s2.over=0∧Px.tries top[j].1 top[j].2 true (k+1) tt s2=R):=⟨hb2,hs2,hrow2,hov2,htr2⟩;clear hr2 hb2 hs2 hrow2 hov2 htr2 hcells2;cases hsl:s2.left with
      | nil =>
       have HE:Hid (_):=hsl;have ER:Hid (R=(none,{ s2 with asks:=s2.asks++[⟨top[j].1,top[j].2,tt,true⟩],stop:=true })):=by
        unfold Hid;rw[← H2.out.2.2.2.2,Px.tries,quj _ HE.out]
       clear hsl;go_wp2_with fail;go_region_with (go_at_call 51;refine (zbi B c V ⟨top[j].1,top[j].2,tt,true⟩ s2 vv vh vl2 va2 _ qv _ _ H2.out.2.1.drew hlen2 HE.out).mono ?_;rintro e w3 ⟨rfl,vl3,va3,h3,t3⟩;have H3:Hid (_∧_):=⟨h3,t3⟩;clear h3 t3)
       all_goals
        go_wp2_with fail;refine bodyPost_ret (results_none rfl _ _ _) rfl ?_;have hfin:Px.qb5 s={ s2 with asks:=s2.asks++[⟨top[j].1,top[j].2,tt,true⟩],stop:=true }:=by rw[← HU.out.1,Px.qch,HU.out.2.1,ER.out]
        rw[hfin];exact ⟨rfl,H2.out.1.trans (H2.out.2.1.drew.qkd H3.out.2).of_drew,_,_,_,_,H3.out.1.fewer⟩
      | cons x r =>
       have HE:Hid (_):=hsl;clear hsl;by_cases hx:0≤x
       ·have ER:Hid (R=(some (some x),{ s2 with asks:=s2.asks++[⟨top[j].1,top[j].2,tt,true⟩],left:=r })):=by
         unfold Hid;rw[← H2.out.2.2.2.2,Px.tries,qkc _ HE.out];simp only;rw[if_pos hx]
        go_wp2_with fail;go_region_with (go_at_call 51;refine (qoj B c V ⟨top[j].1,top[j].2,tt,true⟩ s2 vv vh vl2 va2 _ qv _ _ H2.out.2.1.drew hlen2 HE.out).mono ?_;rintro e w3 ⟨rfl,vl3,va3,h3,t3⟩;have H3:Hid (_∧_):=⟨h3,t3⟩;clear h3 t3)
        all_goals
         go_wp2_with fail;refine ⟨⟨true,tt+1,rfl,by go_num,by omega,by omega,H2.out.1.trans (H2.out.2.1.drew.qkd H3.out.2).of_drew,_,vl3,va3,H3.out.1,qah (World.ownsRow.drew H2.out.2.2.1) H3.out.2 (H2.out.2.1.drew.beside (by simp)),H2.out.2.2.2.1,fun h=>(by cases h),fun _=>⟨x,ER.out⟩⟩,by simp[intOf];omega⟩
       ·have ER:Hid (Px.tries top[j].1 top[j].2 true k (tt+1) { s2 with asks:=s2.asks++[⟨top[j].1,top[j].2,tt,true⟩],left:=r }=R):=by
         unfold Hid;rw[← H2.out.2.2.2.2,Px.tries,qkc _ HE.out];simp only;rw[if_neg hx]
        go_wp2_with fail;go_region_with (go_at_call 51;refine (qoj B c V ⟨top[j].1,top[j].2,tt,true⟩ s2 vv vh vl2 va2 _ qv _ _ H2.out.2.1.drew hlen2 HE.out).mono ?_;rintro e w3 ⟨rfl,vl3,va3,h3,t3⟩;have H3:Hid (_∧_):=⟨h3,t3⟩;clear h3 t3)
        all_goals
         go_wp2_with fail;refine ⟨⟨false,tt+1,by simp[hx],by go_num,by omega,by omega,H2.out.1.trans (H2.out.2.1.drew.qkd H3.out.2).of_drew,_,vl3,va3,H3.out.1,qah (World.ownsRow.drew H2.out.2.2.1) H3.out.2 (H2.out.2.1.drew.beside (by simp)),H2.out.2.2.2.1,fun _=>by rw[hk2];exact ER.out,fun h=>by cases h⟩,by simp[intOf];omega⟩
     ·obtain rfl:tt=4:=by omega
      obtain ⟨hb2,s2,vl2,va2,hs2,hrow2,hov2,htr2,_⟩:=hr2.out;have htr2:=htr2 rfl;obtain ⟨m0,m1,m2,m3,m4,m5,m6,m7,mf⟩:=qb1 hs2.at_;have H2:Hid (_∧_∧_):=⟨hb2,hs2,htr2⟩;clear hr2 hb2 hs2 hrow2 htr2;go_wp2_with fail;refine bodyPost_ret (results_none rfl _ _ _) rfl ?_;have hfin:Px.qb5 s={ s2 with over:=3 }:=by rw[← HU.out.1,Px.qch,HU.out.2.1,← H2.out.2.2];rfl
      rw[hfin];exact ⟨rfl,H2.out.1.trans (H2.out.2.1.qd1 (qcp (Tch.refl _ _) rfl)),_,_,_,_,H2.out.2.1.overs.fewer⟩
    ·obtain ⟨hb2,s2,vl2,va2,hs2,hrow2,hov2,_,htr2⟩:=hr2.out;obtain ⟨x,hRx⟩:=htr2 rfl;have H2:Hid (_∧_∧_∧_∧_):=⟨hb2,hs2,hrow2,hov2,hRx⟩;clear hr2 hb2 hs2 hrow2 htr2 hRx hov2;go_wp2_with fail
     all_goals
      refine ⟨⟨j,by omega,rfl,H2.out.1,s2,vl2,va2,H2.out.2.1,H2.out.2.2.1,?_,H2.out.2.2.2.1⟩,by simp[intOf]⟩
      rw[← HU.out.1,Px.qch,HU.out.2.1,H2.out.2.2.2.2]
  ·obtain rfl:j=0:=by omega
   obtain ⟨hbr,s',vl',va',hs',hrow,hund,hov⟩:=hr.out;have H0:Hid (_∧_∧_):=⟨hbr,hs',hund⟩;clear hr hbr hs' hrow hund hov;go_wp2_with fail;go_end0
   rw[← H0.out.2.2];exact ⟨rfl,H0.out.1,_,_,_,_,H0.out.2.1.fewer⟩
open Go.RowKit
theorem St.idx {w:World} {B c:Nat} {V:Px.Vs} {s:Px.Rs} {vv vh vl va vp:Value} {pv ex:List Value} (h:St w B c V s vv vh vl va vp pv ex) {i j:Nat} {v u:Value} (hi:(vh::vl::va::vp::(pv++ex))[i]?=some v) (hj:(vh::vl::va::vp::(pv++ex))[j]?=some u) (hij:i≠j):∀ k,v.ownBlock=some k→u.ownBlock≠some k:=h.sep.mem hi hj hij
theorem St.inB {w:World} {B c:Nat} {V:Px.Vs} {s:Px.Rs} {vv vh vl va vp:Value} {pv ex:List Value} (h:St w B c V s vv vh vl va vp pv ex) {i:Nat} {v:Value} (hi:(vh::vl::va::vp::(pv++ex))[i]?=some v):∀ k,v.ownBlock=some k→B≤k∧k≠c∧k < w.heap.size:=h.sep.own v (List.mem_of_getElem? hi)
theorem zct {vh vl va vp:Value} {pv ex:List Value} {i:Nat} {v:Value} (h:pv[i]?=some v):(vh::vl::va::vp::(pv++ex))[4+i]?=some v:=by
 rw[show 4+i=i+1+1+1+1 by omega,List.getElem?_cons_succ,List.getElem?_cons_succ,List.getElem?_cons_succ,List.getElem?_cons_succ,List.getElem?_append_left (List.getElem?_eq_some_iff.1 h).1]
 exact h
theorem St.zic {w:World} {B c g m cap:Nat} {V:Px.Vs} {s:Px.Rs} {vv vl va vp:Value} {pv ex:List Value} (h:St w B c V s vv (.slice (some ⟨g,0,none⟩) m cap) vl va vp pv ex) (hm:m=s.held.length) (i:Nat) (v:Int) :
  St (w.setCell ⟨g,i,none⟩ (.int .i64 v)) B c V { s with held:=s.held.set i v } vv (.slice (some ⟨g,0,none⟩) m cap) vl va vp pv ex∧Below B w (w.setCell ⟨g,i,none⟩ (.int .i64 v)):=by
 subst hm;have hT:Tch (·=g) w (w.setCell ⟨g,i,none⟩ (.int .i64 v)):=Tch.setCell (T:=(·=g)) (Tch.refl _ _) (p:=⟨g,i,none⟩) (Or.inl rfl) _
 have hg:=h.inB (i:=0) rfl g rfl;have hne:∀ j u,j≠0→((.slice (some ⟨g,0,none⟩) s.held.length cap)::vl::va::vp::(pv++ex))[j]?=some u→∀ k,u.ownBlock=some k→¬ k=g:=by
  intro j u hj hu k hk e;subst e;exact h.idx hu (show ((.slice (some ⟨k,0,none⟩) s.held.length cap)::vl::va::vp::(pv++ex))[0]?=some _ from rfl) hj k hk rfl
 refine ⟨⟨h.hB,?_,qah h.vars hT fun k hk e=>by have:=h.varB k hk;omega,h.varB,?_,h.left.tch hT (hne 1 _ (by decide) rfl),qah h.asks hT (hne 2 _ (by decide) rfl),qah h.piles hT (hne 3 _ (by decide) rfl),?_,h.sep.world hT.size⟩,hT.qbg (by have:=h.lt;have:=h.hB;omega) fun k hk=>by rw[hk];exact hg.1⟩
 ·rw[hT.block c h.lt (fun e=>hg.2.1 e.symm)];exact h.at_
 ·have:=(h.held.stored i (.int .i64 v)).1
  dsimp only;rw[List.length_set];have e:(intCells s.held).set i (.int .i64 v)=intCells (s.held.set i v):=by unfold intCells;rw[List.map_set]
  rw[e] at this;exact this
 ·intro j p u hp hu;exact qah (h.each j p u hp hu) hT (hne (4+j) u (by omega) (zct hu))
theorem St.qti {w W:World} {B c g n cap:Nat} {V:Px.Vs} {s:Px.Rs} {vv vh vl va tv:Value} {qv ex:List Value} {top:List (ByteArray×Int)} (h:St w B c V s vv vh vl va (.slice (some ⟨g,0,none⟩) (n+1) cap) (qv++[tv]) ex) (hp:s.piles=s.piles.dropLast++[top]) (hn:n=s.piles.dropLast.length) (u:ByteArray) (x:Int) (hW:Tch (fun _=>False) w W) :
  ∀ v' w3,w3.ownsRow B 154 2 v' (top.length+1) (qbe top++[.string u,.int .i64 x])→W.grownBy w3 tv.ownBlock→(v'.ownBlock=tv.ownBlock∨v'.ownBlock=some W.heap.size) →
   ∃ a1 n1 c1,v'=.slice a1 n1 c1∧w3.heap[c]?=w.heap[c]?∧w3.heap[g]?=w.heap[g]?∧Hid (St (w3.setCell ⟨g,n,none⟩ v') B c V { s with piles:=Px.layP s.piles [(u,x)] } vv vh vl va (.slice (some ⟨g,0,none⟩) (n+1) cap) (qv++[v']) ex∧Below B w (w3.setCell ⟨g,n,none⟩ v')):=by
 intro v' w3 hown hg hloc;obtain ⟨a1,n1,c1,rfl⟩:=qad hown;have hql:qv.length=n:=by
  have:=h.zlw
  rw[hp] at this;simp at this;rw[hn]
  simpa using this
 have htv:(vh::vl::va::(.slice (some ⟨g,0,none⟩) (n+1) cap)::((qv++[tv])++ex))[4+n]?=some tv:=zct (by rw[← hql];simp)
 have hvp:(vh::vl::va::(.slice (some ⟨g,0,none⟩) (n+1) cap)::((qv++[tv])++ex))[3]?=some (.slice (some ⟨g,0,none⟩) (n+1) cap):=rfl;have hgB:=h.inB hvp g rfl;have hT3:Tch (fun k=>tv.ownBlock=some k) w w3:=(hW.mono fun _ _ h=>h.elim).grown hg fun k hk=>Or.inl hk
 have hcne:¬ tv.ownBlock=some c:=fun e=>(h.inB htv c e).2.1 rfl
 have hgne:¬ tv.ownBlock=some g:=fun e=>h.idx htv hvp (by omega) g e rfl
 have hT:Tch (fun k=>tv.ownBlock=some k∨k=g) w (w3.setCell ⟨g,n,none⟩ (.slice a1 n1 c1)):=Tch.setCell (T:=fun k=>tv.ownBlock=some k∨k=g) (hT3.mono fun k _ hk=>Or.inl hk) (p:=⟨g,n,none⟩) (Or.inl (Or.inr rfl)) _
 have hloc':(Value.slice a1 n1 c1).ownBlock=tv.ownBlock∨(Value.slice a1 n1 c1).ownBlock=none∨∃ m,(Value.slice a1 n1 c1).ownBlock=some m∧w.heap.size≤m∧m < (w3.setCell ⟨g,n,none⟩ (.slice a1 n1 c1)).heap.size:=by
  rcases hloc with hl | hl
  ·exact Or.inl hl
  ·exact Or.inr (Or.inr ⟨_,hl,hW.size,by simpa [World.setCell] using (hown.lt _ hl).2⟩)
 have hng':(Value.slice a1 n1 c1).ownBlock≠some g:=fun e=>by
  rcases hloc' with hl | hl | ⟨m,hl,h1,_⟩
  ·exact hgne (by rw[← hl];exact e)
  ·rw[hl] at e;cases e
  ·rw[hl] at e;cases e;omega
 have hne:∀ j v,j≠3→j≠4+n→(vh::vl::va::(.slice (some ⟨g,0,none⟩) (n+1) cap)::((qv++[tv])++ex))[j]?=some v→∀ k,v.ownBlock=some k→¬ (tv.ownBlock=some k∨k=g):=by
  intro j v hj hj' hv k hk hh;rcases hh with hh | rfl
  ·exact h.idx hv htv hj' k hk hh
  ·exact h.idx hv hvp hj k hk rfl
 have hB:=h.hB;have hd:(Px.layP s.piles [(u,x)])=s.piles.dropLast++[top++[(u,x)]]:=by
  unfold Px.layP
  conv=>lhs;rw[hp]
  simp[List.getLastD_eq_getLast?]
 refine ⟨a1,n1,c1,rfl,hT3.block c h.lt hcne,hT3.block g hgB.2.2 hgne,⟨hB,?_,qah h.vars hT ?_,h.varB,qah h.held hT (hne 0 _ (by omega) (by omega) rfl),h.left.tch hT (hne 1 _ (by omega) (by omega) rfl),qah h.asks hT (hne 2 _ (by omega) (by omega) rfl),?_,?_,?_⟩,hT.qbg (by have:=h.lt;omega) ?_⟩
 ·rw[hT.block c h.lt (by rintro (e | e);exact hcne e;exact hgB.2.1 e.symm)];exact h.at_
 ·intro k hk hh
  have:=h.varB k hk
  rcases hh with hh | rfl
  ·have:=(h.inB htv k hh).1;omega
  ·omega
 ·have h3:w3.ownsRow B 150 1 (.slice (some ⟨g,0,none⟩) (n+1) cap) s.piles.length (qv++[tv]):=qah h.piles hT3 fun k hk=>by cases hk;exact hgne
  have hlen:s.piles.length=n+1:=by rw[hp];simp[hn]
  rw[hlen] at h3
  have:=(h3.stored n (.slice a1 n1 c1)).1
  have e:(qv++[tv]).set n (.slice a1 n1 c1)=qv++[.slice a1 n1 c1]:=by
   rw[List.set_append_right _ _ (by omega)]
   simp[hql]
  rw[e] at this;dsimp only;rw[hd,List.length_append,← hn];exact this
 ·intro j p v hpj hvj;dsimp only at hpj;rw[hd] at hpj;by_cases hj:j < n
  ·rw[List.getElem?_append_left (by omega)] at hpj
   rw[List.getElem?_append_left (by omega)] at hvj
   have hvj':(qv++[tv])[j]?=some v:=by rw[List.getElem?_append_left (by omega)];exact hvj
   refine qah (h.each j p v ?_ hvj') hT (hne (4+j) v (by omega) (by omega) (zct hvj'))
   rw[hp,List.getElem?_append_left (by omega)];exact hpj
  ·have hj':j=n:=by
    have:=(List.getElem?_eq_some_iff.1 hvj).1
    simp at this;omega
   subst hj';rw[List.getElem?_append_right (by omega),← hn] at hpj
   rw[List.getElem?_append_right (by omega),hql] at hvj
   simp at hpj hvj;subst hpj hvj
   have:=ownsRow_setCell_other hown (a:=⟨g,j,none⟩) hng' (.slice a1 n1 c1)
   rw[qqs,List.length_append];exact this
 ·have:=Sep.turn (A:=vh::vl::va::(.slice (some ⟨g,0,none⟩) (n+1) cap)::qv) (v:=tv) (v':=.slice a1 n1 c1) (R:=ex) (by simpa using h.sep) hT.size (by have:=h.lt;omega) h.lt hloc'
  simpa using this
 ·intro k hk;rcases hk with hk | rfl
  ·exact (h.inB htv k hk).1
  ·exact hgB.1
open Go.RowKit
theorem qoa:(Tryz.prog.info? 150).map (fun i=>(i.zero,i.size,i.bytes))=some (some (.slice none 0 0),1,24):=by kernel_rfl
theorem St.qsz {w W:World} {B c:Nat} {V:Px.Vs} {s:Px.Rs} {vv vh vl va vp:Value} {pv ex:List Value} (h:St w B c V s vv vh vl va vp pv ex) (hW:Tch (fun _=>False) w W) :
  ∀ v' w3,w3.ownsRow B 150 1 v' (s.piles.length+1) (pv++[.slice none 0 0])→W.grownBy w3 vp.ownBlock→(v'.ownBlock=vp.ownBlock∨v'.ownBlock=some W.heap.size) →
   ∃ a1 n1 c1,v'=.slice a1 n1 c1∧w3.heap[c]?=w.heap[c]?∧Hid (St (w3.setCell ⟨c,4,none⟩ v') B c V { s with piles:=s.piles++[[]] } vv vh vl va v' (pv++[.slice none 0 0]) ex∧Below B w (w3.setCell ⟨c,4,none⟩ v')):=by
 intro v' w3 hown hg hloc;obtain ⟨a1,n1,c1,rfl⟩:=qad hown;have hvp:(vh::vl::va::vp::(pv++ex))[3]?=some vp:=rfl;have hT3:Tch (fun k=>vp.ownBlock=some k) w w3:=(hW.mono fun _ _ h=>h.elim).grown hg fun k hk=>Or.inl hk
 have hcne:¬ vp.ownBlock=some c:=fun e=>(h.inB hvp c e).2.1 rfl
 have hT:Tch (fun k=>vp.ownBlock=some k∨k=c) w (w3.setCell ⟨c,4,none⟩ (.slice a1 n1 c1)):=Tch.setCell (T:=fun k=>vp.ownBlock=some k∨k=c) (hT3.mono fun k _ hk=>Or.inl hk) (p:=⟨c,4,none⟩) (Or.inl (Or.inr rfl)) _
 have hloc':(Value.slice a1 n1 c1).ownBlock=vp.ownBlock∨(Value.slice a1 n1 c1).ownBlock=none∨∃ m,(Value.slice a1 n1 c1).ownBlock=some m∧w.heap.size≤m∧m < (w3.setCell ⟨c,4,none⟩ (.slice a1 n1 c1)).heap.size:=by
  rcases hloc with hl | hl
  ·exact Or.inl hl
  ·exact Or.inr (Or.inr ⟨_,hl,hW.size,by simpa [World.setCell] using (hown.lt _ hl).2⟩)
 have hnc':(Value.slice a1 n1 c1).ownBlock≠some c:=fun e=>by
  rcases hloc' with hl | hl | ⟨m,hl,h1,_⟩
  ·exact hcne (by rw[← hl];exact e)
  ·rw[hl] at e;cases e
  ·rw[hl] at e;cases e;have:=h.lt;omega
 have hne:∀ j v,j≠3→(vh::vl::va::vp::(pv++ex))[j]?=some v→∀ k,v.ownBlock=some k→¬ (vp.ownBlock=some k∨k=c):=by
  intro j v hj hv k hk hh;rcases hh with hh | rfl
  ·exact h.idx hv hvp hj k hk hh
  ·exact (h.inB hv _ hk).2.1 rfl
 have hB:=h.hB;have hc3:w3.heap[c]?=w.heap[c]?:=hT3.block c h.lt hcne;refine ⟨a1,n1,c1,rfl,hc3,⟨hB,?_,qah h.vars hT ?_,h.varB,qah h.held hT (hne 0 _ (by omega) rfl),h.left.tch hT (hne 1 _ (by omega) rfl),qah h.asks hT (hne 2 _ (by omega) rfl),?_,?_,?_⟩,hT.qbg (by have:=h.lt;omega) ?_⟩
 ·rw[heap_set _ (hc3.trans h.at_)];simp
 ·intro k hk hh
  have:=h.varB k hk
  rcases hh with hh | rfl
  ·have:=(h.inB hvp k hh).1;omega
  ·omega
 ·dsimp only;rw[List.length_append];exact ownsRow_setCell_other hown (a:=⟨c,4,none⟩) hnc' _
 ·intro j p v hpj hvj;dsimp only at hpj;have hpl:=h.zlw;by_cases hj:j < pv.length
  ·rw[List.getElem?_append_left (by omega)] at hpj
   rw[List.getElem?_append_left hj] at hvj;exact qah (h.each j p v hpj hvj) hT (hne (4+j) v (by omega) (zct hvj))
  ·have hj':j=pv.length:=by
    have:=(List.getElem?_eq_some_iff.1 hvj).1
    simp at this;omega
   subst hj';rw[List.getElem?_append_right (by omega)] at hvj
   rw[hpl,List.getElem?_append_right (by omega)] at hpj
   simp at hpj hvj;subst hpj hvj;exact World.ownsRow_nil _ _ _ _
 ·have h1:=Sep.turn (A:=[vh,vl,va]) (v:=vp) (v':=.slice a1 n1 c1) (R:=pv++ex) h.sep hT.size (by have:=h.lt;omega) h.lt hloc'
  refine (h1.nil (v:=.slice none 0 0) rfl).perm ?_;simp only[List.cons_append,List.nil_append,List.append_assoc];refine List.Perm.trans ?_ (List.Perm.cons _ (List.Perm.cons _ (List.Perm.cons _ (List.Perm.cons _ (List.perm_middle (l₁:=pv) (a:=Value.slice none 0 0) (l₂:=ex)).symm))));exact (List.Perm.swap _ _ _).trans (List.Perm.cons _ ((List.Perm.swap _ _ _).trans (List.Perm.cons _ ((List.Perm.swap _ _ _).trans (List.Perm.cons _ (List.Perm.swap _ _ _))))))
 ·intro k hk;rcases hk with hk | rfl
  ·exact (h.inB hvp k hk).1
  ·exact hB
theorem St.znp {w W:World} {B c g n cap:Nat} {V:Px.Vs} {s:Px.Rs} {vv vh vl va tv:Value} {qv ex:List Value} (h:St w B c V s vv vh vl va (.slice (some ⟨g,0,none⟩) (n+1) cap) (qv++[tv]) ex) (hqn:qv.length=n) (hW:Tch (fun _=>False) w W) {u:Value} (hu:u∈ex) {e:TypeId} {sz m:Nat} {xs:List Value} (hown:w.ownsRow B e sz u m xs) :
  ∀ v' w3,W.grownBy w3 tv.ownBlock→(w3.setCell ⟨g,n,none⟩ v').ownsRow B e sz u m xs:=by
 intro v' w3 hg;obtain ⟨i,hi⟩:=List.mem_iff_getElem?.1 hu;have hue:(vh::vl::va::(.slice (some ⟨g,0,none⟩) (n+1) cap)::((qv++[tv])++ex))[4+(n+1)+i]?=some u:=by
  rw[show 4+(n+1)+i=(n+1+i)+1+1+1+1 by omega,List.getElem?_cons_succ,List.getElem?_cons_succ,List.getElem?_cons_succ,List.getElem?_cons_succ,List.getElem?_append_right (by simp;omega)]
  simp only[List.length_append,List.length_singleton,hqn];rw[show n+1+i - (n+1)=i by omega]
  exact hi
 have htv:(vh::vl::va::(.slice (some ⟨g,0,none⟩) (n+1) cap)::((qv++[tv])++ex))[4+n]?=some tv:=zct (by rw[← hqn];simp)
 have hvp:(vh::vl::va::(.slice (some ⟨g,0,none⟩) (n+1) cap)::((qv++[tv])++ex))[3]?=some (.slice (some ⟨g,0,none⟩) (n+1) cap):=rfl;have hT3:Tch (fun k=>tv.ownBlock=some k) w w3:=(hW.mono fun _ _ h=>h.elim).grown hg fun k hk=>Or.inl hk
 refine ownsRow_setCell_other (qah hown hT3 fun k hk hh=>h.idx hue htv (by omega) k hk hh) (a:=⟨g,n,none⟩) (fun e=>h.idx hue hvp (by omega) g e rfl) _
open Go.RowKit
def AnsAt (w:World) (v:Value) (l:List Int):Prop :=
 ∃ ad cap,v=.slice ad l.length cap∧l.length≤maxLen∧l.length * 8≤140737488355328∧∀ i (hi:i < l.length),∃ a:Addr,ad=some a∧a.block < w.heap.size∧w.cell? (a.add i)=some (.int .i64 l[i])
theorem qya {w:World} {B:Nat} {v:Value} {l:List Int} (h:w.ownsRow B 3 1 v l.length (intCells l)):LeftAt w v l:=by
 rcases h.2 with ⟨rfl,h2⟩ | ⟨g,cap,cur,rfl,hg,hh,hn,hm,hz,ht⟩
 ·exact ⟨none,0,by rw[h2],by rw[h2];exact Nat.zero_le _,by omega,fun h=>by omega⟩
 ·refine ⟨_,_,rfl,by omega,hn,fun _=>⟨g,0,cur,_,rfl,hh,fun i hi=>?_⟩⟩
  have e:cur[i]?=(intCells l)[i]?:=by
   rw[← ht,List.getElem?_take_of_lt (by omega)];simp
  rw[Nat.zero_add,e];simp[intCells,hi]
theorem St.znk {w W:World} {B c:Nat} {V:Px.Vs} {s:Px.Rs} {vv vh vl va vp:Value} {pv ex:List Value} (h:St w B c V s vv vh vl va vp pv ex) (x:Int) (hW:Tch (fun _=>False) w W) :
  ∀ v' w3,w3.ownsRow B 3 1 v' (s.left.length+1) (intCells s.left++[.int .i64 x])→W.grownBy w3 vl.ownBlock→(v'.ownBlock=vl.ownBlock∨v'.ownBlock=some W.heap.size) →
   ∃ a1 n1 c1,v'=.slice a1 n1 c1∧w3.heap[c]?=w.heap[c]?∧Hid (St (w3.setCell ⟨c,2,none⟩ v') B c V { s with left:=s.left++[x] } vv vh v' va vp pv ex∧Below B w (w3.setCell ⟨c,2,none⟩ v')∧(w3.setCell ⟨c,2,none⟩ v').ownsRow B 3 1 v' (s.left++[x]).length (intCells (s.left++[x]))):=by
 intro v' w3 hown hg hloc;obtain ⟨a1,n1,c1,rfl⟩:=qad hown;have hvp:(vh::vl::va::vp::(pv++ex))[1]?=some vl:=rfl;have hT3:Tch (fun k=>vl.ownBlock=some k) w w3:=(hW.mono fun _ _ h=>h.elim).grown hg fun k hk=>Or.inl hk
 have hcne:¬ vl.ownBlock=some c:=fun e=>(h.inB hvp c e).2.1 rfl
 have hT:Tch (fun k=>vl.ownBlock=some k∨k=c) w (w3.setCell ⟨c,2,none⟩ (.slice a1 n1 c1)):=Tch.setCell (T:=fun k=>vl.ownBlock=some k∨k=c) (hT3.mono fun k _ hk=>Or.inl hk) (p:=⟨c,2,none⟩) (Or.inl (Or.inr rfl)) _
 have hloc':(Value.slice a1 n1 c1).ownBlock=vl.ownBlock∨(Value.slice a1 n1 c1).ownBlock=none∨∃ m,(Value.slice a1 n1 c1).ownBlock=some m∧w.heap.size≤m∧m < (w3.setCell ⟨c,2,none⟩ (.slice a1 n1 c1)).heap.size:=by
  rcases hloc with hl | hl
  ·exact Or.inl hl
  ·exact Or.inr (Or.inr ⟨_,hl,hW.size,by simpa [World.setCell] using (hown.lt _ hl).2⟩)
 have hnc':(Value.slice a1 n1 c1).ownBlock≠some c:=fun e=>by
  rcases hloc' with hl | hl | ⟨m,hl,h1,_⟩
  ·exact hcne (by rw[← hl];exact e)
  ·rw[hl] at e;cases e
  ·rw[hl] at e;cases e;have:=h.lt;omega
 have hne:∀ j v,j≠1→(vh::vl::va::vp::(pv++ex))[j]?=some v→∀ k,v.ownBlock=some k→¬ (vl.ownBlock=some k∨k=c):=by
  intro j v hj hv k hk hh;rcases hh with hh | rfl
  ·exact h.idx hv hvp hj k hk hh
  ·exact (h.inB hv _ hk).2.1 rfl
 have hB:=h.hB;have hc3:w3.heap[c]?=w.heap[c]?:=hT3.block c h.lt hcne;have hown2:(w3.setCell ⟨c,2,none⟩ (.slice a1 n1 c1)).ownsRow B 3 1 (.slice a1 n1 c1) (s.left++[x]).length (intCells (s.left++[x])):=by
  have:=ownsRow_setCell_other hown (a:=⟨c,2,none⟩) hnc' (.slice a1 n1 c1)
  rw[List.length_append];have e:intCells (s.left++[x])=intCells s.left++[.int .i64 x]:=by simp[intCells]
  rw[e];exact this
 refine ⟨a1,n1,c1,rfl,hc3,⟨hB,?_,qah h.vars hT ?_,h.varB,qah h.held hT (hne 0 _ (by omega) rfl),qya hown2,qah h.asks hT (hne 2 _ (by omega) rfl),qah h.piles hT (hne 3 _ (by omega) rfl),?_,?_⟩,hT.qbg (by have:=h.lt;omega) ?_,hown2⟩
 ·rw[heap_set _ (hc3.trans h.at_)];simp
 ·intro k hk hh
  have:=h.varB k hk
  rcases hh with hh | rfl
  ·have:=(h.inB hvp k hh).1;omega
  ·omega
 ·intro j p v hpj hvj;exact qah (h.each j p v hpj hvj) hT (hne (4+j) v (by omega) (zct hvj))
 ·exact Sep.turn (A:=[vh]) (v:=vl) (v':=.slice a1 n1 c1) (R:=va::vp::(pv++ex)) h.sep hT.size (by have:=h.lt;omega) h.lt hloc'
 ·intro k hk;rcases hk with hk | rfl
  ·exact (h.inB hvp k hk).1
  ·exact hB
theorem qtp:(Tryz.prog.info? 3).map (fun i=>(i.zero,i.size,i.bytes))=some (some (.int .i64 0),1,8):=by kernel_rfl
theorem St.start {w W:World} {V:Px.Vs} {vv:Value} {a b c:Nat} (hv:w.ownsRow 0 280 2 vv V.length (qbr V)) (hn:V.length≤maxLen) (hT:Tch (fun _=>False) w W) (ha:w.heap.size≤a) (hb:w.heap.size≤b) (hc:w.heap.size≤c) (hab:a≠b) (hac:a≠c) (hbc:b≠c)
  (h0:W.heap[a]?=some (.cells (madeCells #[.int .i64 0] V.length) 3)) (h1:W.heap[b]?=some (.cells (madeCells #[.slice none 0 0] 1) 150))
  (h2:W.heap[c]?=some (.cells #[vv,.slice (some ⟨a,0,none⟩) V.length V.length,.slice none 0 0,.slice none 0 0,.slice (some ⟨b,0,none⟩) 1 1,.int .i64 0,.bool false,.bool false] 64)) :
  St W w.heap.size c V ⟨List.replicate V.length 0,[],[],[[]],0,false,false⟩ vv (.slice (some ⟨a,0,none⟩) V.length V.length) (.slice none 0 0) (.slice none 0 0) (.slice (some ⟨b,0,none⟩) 1 1) [.slice none 0 0] []:=by
 have la:a < W.heap.size:=(Array.getElem?_eq_some_iff.1 h0).1;have lb:b < W.heap.size:=(Array.getElem?_eq_some_iff.1 h1).1;refine ⟨hc,h2,qah hv hT (fun _ _ h=>h),fun k hk=>(hv.lt k hk).2,?_,⟨none,0,rfl,Nat.zero_le _,Nat.le_refl _,fun h=>absurd h (by simp)⟩,World.ownsRow_nil _ _ _ _,?_,?_,?_⟩
 ·refine ⟨by simp[intCells],.inr ⟨a,V.length,madeCells #[.int .i64 0] V.length,by simp,ha,h0,by simp,hn,by simp[madeCells],?_⟩⟩
  rw[toList_madeCells_one];simp[intCells]
 ·exact ⟨rfl,.inr ⟨b,1,madeCells #[.slice none 0 0] 1,rfl,hb,h1,Nat.le_refl _,by unfold maxLen;omega,by simp[madeCells],by rw[toList_madeCells_one];rfl⟩⟩
 ·intro i p v hp hvv;match i,hp,hvv with
  | 0,hp,hvv =>
   simp at hp hvv;subst hp hvv;exact World.ownsRow_nil _ _ _ _
  | i+1,hp,hvv=>simp at hp
 ·refine ⟨fun v hv' k hk=>?_,?_⟩
  ·simp only[List.append_nil,List.mem_cons,List.not_mem_nil,or_false] at hv';rcases hv' with rfl | rfl | rfl | rfl | rfl
   ·have hk':a=k:=by simpa [Value.ownBlock] using hk
    subst hk';exact ⟨ha,hac,la⟩
   ·cases hk
   ·cases hk
   ·have hk':b=k:=by simpa [Value.ownBlock] using hk
    subst hk';exact ⟨hb,hbc,lb⟩
   ·cases hk
  ·simp[Value.ownBlock];omega
theorem newsI {W:World} {b:Nat} {p:Value} {t:TypeId} (h:W.heap[b]?=some (.cells #[p] t)):∀ j u,[p][j]?=some u→W.cell? ((⟨b,0,none⟩:Addr).add j)=some u:=by
 intro j u hj;match j,hj with
 | 0,hj=>simp at hj;subst hj;simp[Addr.add,World.cell?,h]
theorem zcu {h:Array Obj} {o p q:Obj}:(((h.push o).push p).push q)[h.size]?=some o∧(((h.push o).push p).push q)[h.size+1]?=some p∧(((h.push o).push p).push q)[h.size+2]?=some q:=by
 refine ⟨?_,?_,?_⟩
 ·rw[Array.getElem?_push,if_neg (by simp;omega),qi8]
 ·rw[Array.getElem?_push,if_neg (by simp),qdu]
 ·rw[Array.getElem?_push,if_pos (by simp)]
open Go.RowKit
theorem znu (c op:Nat) (hop:op=61∨op=35) (n:Nat) (word:ByteArray) (pl own:Nat) (l r:Px.Ex) (ihl:qco c l) (ihr:qco c r):qco c ⟨op,n,word,pl,own,some l,some r⟩:=by
 intro k w ok q hx hok hl;obtain ⟨hq,kb,lq,rq,hkb,hne,hv,hkc,hxl,hxr⟩:=hx;obtain ⟨c0,c1,c2,c3,c4,c5,f⟩:=qb9 hv;have k0:w.cell? ⟨kb,0,none⟩=some (.pointer (some ⟨lq,0,none⟩)):=by simp[World.cell?,hkc]
 have hqc:=hok q hq;have hkbc:=hok kb hkb;have HL:Hid (LkAt w c k∧(ExAt w l _ lq∧ExAt w r _ rq)∧_∧_):=⟨hl,⟨hxl,hxr⟩,hv,hkc⟩;have HK:Hid (∀ i,(ok i∧i≠q∧i≠kb)→i < c):=fun i hi=>hok i hi.1
 have e1:Hid (Px.qao ⟨op,n,word,pl,own,some l,some r⟩ k=Px.binK op own (Px.qao l k).1 (Px.qao r (Px.qao l k).2)):=rfl;clear hl hv hkc hxl hxr hok;generalize hr1:Px.qao l k=ra at e1;have HR1:Hid (_):=hr1;clear hr1;generalize hr2:Px.qao r ra.2=rb at e1;have HR2:Hid (_):=hr2;clear hr2;have e2:Hid (Px.binK op own ra.1 rb=(98,if Px.qft ra.1 rb.1 then Px.say 6 own rb.2 else rb.2)):=by unfold Hid Px.binK;rw[if_pos hop]
 have e4:Hid (Px.qft ra.1 rb.1=(((ra.1:Int) != rb.1) && ((ra.1:Int) != 63) && ((rb.1:Int) != 63))):=by
  unfold Hid Px.qft;rw[Bool.eq_iff_iff];simp;omega
 have o1:((op:Int) == 110)=false:=by rw[beq_eq_false_iff_ne];omega
 have o2:((op:Int) == 116)=false:=by rw[beq_eq_false_iff_ne];omega
 have o3:((op:Int) == 119)=false:=by rw[beq_eq_false_iff_ne];omega
 have o4:((op:Int) == 33)=false:=by rw[beq_eq_false_iff_ne];omega
 have OR:Hid (_):=hop;clear hop;go_enter Tryz.func111,Tryz.ntmps111
 go_wp2_with fail;refine (ihl k _ _ lq HL.out.2.1.1 HK.out HL.out.1).mono ?_;rw[HR1.out];rintro e w1 ⟨rfl,l1,b1⟩;have hv1:w1.heap[q]?=_:=(b1.block q hqc).trans HL.out.2.2.1;have hk1:w1.heap[kb]?=_:=(b1.block kb hkbc).trans HL.out.2.2.2;have hx1:ExAt w1 r _ rq:=HL.out.2.1.2.keep fun i hi=>b1.block i (HK.out i hi)
 obtain ⟨d0,d1,d2,d3,d4,d5,df⟩:=qb9 hv1;have kk1:w1.cell? ⟨kb,1,none⟩=some (.pointer (some ⟨rq,0,none⟩)):=by simp[World.cell?,hk1]
 have L1:Hid (LkAt w1 c ra.2∧Below c w w1∧ExAt w1 r _ rq∧_):=⟨l1,b1,hx1,hv1⟩;clear l1 b1 hv1 hk1 hx1 c0 c1 c2 c3 c4 c5 f;go_wp2_with fail;refine (ihr ra.2 _ _ rq L1.out.2.2.1 HK.out L1.out.1).mono ?_;rw[HR2.out];rintro e w2 ⟨rfl,l2,b2⟩;have hv2:w2.heap[q]?=_:=(b2.block q hqc).trans L1.out.2.2.2;obtain ⟨f0,f1,f2,f3,f4,f5,ff⟩:=qb9 hv2;have L2:Hid (LkAt w2 c rb.2∧Below c w1 w2):=⟨l2,b2⟩;clear l2 b2 hv2 d0 d1 d2 d3 d4 d5 df;have fin1:∀ e w3,e=Ending.returned (.int .u8 98)→LkAt w3 c (if Px.qft ra.1 rb.1 then Px.say 6 own rb.2 else rb.2)→Below c w2 w3→e=.returned (.int .u8 ((Px.qao ⟨op,n,word,pl,own,some l,some r⟩ k).1:Int))∧LkAt w3 c (Px.qao ⟨op,n,word,pl,own,some l,some r⟩ k).2∧Below c w w3:=by
  intro e w3 he hl3 hb3;rw[e1.out,e2.out];exact ⟨he,hl3,(L1.out.2.1.trans L2.out.2).trans hb3⟩
 have FIN:Hid (_):=fin1;clear fin1;cases g1:((ra.1:Int) != rb.1)
 ·rcases OR.out with ho | ho
  ·have o5:((op:Int) == 61)=true:=by rw[ho];rfl
   go_wp2_with fail;go_ret;exact FIN.out _ _ rfl (by rw[e4.out,g1];exact L2.out.1) (Below.refl _ _)
  ·have o5:((op:Int) == 61)=false:=by rw[ho];rfl
   have o6:((op:Int) == 35)=true:=by rw[ho];rfl
   go_wp2_with fail;go_ret;exact FIN.out _ _ rfl (by rw[e4.out,g1];exact L2.out.1) (Below.refl _ _)
 ·cases g2:((ra.1:Int) != 63)
  ·rcases OR.out with ho | ho
   ·have o5:((op:Int) == 61)=true:=by rw[ho];rfl
    go_wp2_with fail;go_ret;exact FIN.out _ _ rfl (by rw[e4.out,g1,g2];exact L2.out.1) (Below.refl _ _)
   ·have o5:((op:Int) == 61)=false:=by rw[ho];rfl
    have o6:((op:Int) == 35)=true:=by rw[ho];rfl
    go_wp2_with fail;go_ret;exact FIN.out _ _ rfl (by rw[e4.out,g1,g2];exact L2.out.1) (Below.refl _ _)
  ·cases g3:((rb.1:Int) != 63)
   ·rcases OR.out with ho | ho
    ·have o5:((op:Int) == 61)=true:=by rw[ho];rfl
     go_wp2_with fail;go_ret;exact FIN.out _ _ rfl (by rw[e4.out,g1,g2,g3];exact L2.out.1) (Below.refl _ _)
    ·have o5:((op:Int) == 61)=false:=by rw[ho];rfl
     have o6:((op:Int) == 35)=true:=by rw[ho];rfl
     go_wp2_with fail;go_ret;exact FIN.out _ _ rfl (by rw[e4.out,g1,g2,g3];exact L2.out.1) (Below.refl _ _)
   ·rcases OR.out with ho | ho
    ·have o5:((op:Int) == 61)=true:=by rw[ho];rfl
     go_wp2_with fail;refine (qey c 6 own rb.2 _ L2.out.1).mono ?_;rintro e w3 ⟨rfl,l3,b3⟩;have L3:Hid (_∧_):=⟨l3,b3⟩;clear l3 b3;go_wp2_with fail;go_ret;exact FIN.out _ _ rfl (by rw[e4.out,g1,g2,g3];exact L3.out.1) L3.out.2
    ·have o5:((op:Int) == 61)=false:=by rw[ho];rfl
     have o6:((op:Int) == 35)=true:=by rw[ho];rfl
     go_wp2_with fail;refine (qey c 6 own rb.2 _ L2.out.1).mono ?_;rintro e w3 ⟨rfl,l3,b3⟩;have L3:Hid (_∧_):=⟨l3,b3⟩;clear l3 b3;go_wp2_with fail;go_ret;exact FIN.out _ _ rfl (by rw[e4.out,g1,g2,g3];exact L3.out.1) L3.out.2
theorem znw (c op:Nat) (hop:op=42∨op=47∨op=43∨op=45∨op=60) (n:Nat) (word:ByteArray) (pl own:Nat) (l r:Px.Ex) (ihl:qco c l) (ihr:qco c r):qco c ⟨op,n,word,pl,own,some l,some r⟩:=by
 intro k w ok q hx hok hl;obtain ⟨hq,kb,lq,rq,hkb,hne,hv,hkc,hxl,hxr⟩:=hx;obtain ⟨c0,c1,c2,c3,c4,c5,f⟩:=qb9 hv;have k0:w.cell? ⟨kb,0,none⟩=some (.pointer (some ⟨lq,0,none⟩)):=by simp[World.cell?,hkc]
 have hqc:=hok q hq;have hkbc:=hok kb hkb;have HL:Hid (LkAt w c k∧(ExAt w l _ lq∧ExAt w r _ rq)∧_∧_):=⟨hl,⟨hxl,hxr⟩,hv,hkc⟩;have HK:Hid (∀ i,(ok i∧i≠q∧i≠kb)→i < c):=fun i hi=>hok i hi.1
 have e1:Hid (Px.qao ⟨op,n,word,pl,own,some l,some r⟩ k=Px.binK op own (Px.qao l k).1 (Px.qao r (Px.qao l k).2)):=rfl;clear hl hv hkc hxl hxr hok;generalize hr1:Px.qao l k=ra at e1;have HR1:Hid (_):=hr1;clear hr1;generalize hr2:Px.qao r ra.2=rb at e1;have HR2:Hid (_):=hr2;clear hr2;have e2:Hid (Px.binK op own ra.1 rb=(if op=60 then 98 else 105,if Px.isK ra.1 105 && Px.isK rb.1 105 then rb.2 else Px.say 6 own rb.2)):=by unfold Hid Px.binK;rw[if_neg (by omega)]
 have o1:((op:Int) == 110)=false:=by rw[beq_eq_false_iff_ne];omega
 have o2:((op:Int) == 116)=false:=by rw[beq_eq_false_iff_ne];omega
 have o3:((op:Int) == 119)=false:=by rw[beq_eq_false_iff_ne];omega
 have o4:((op:Int) == 33)=false:=by rw[beq_eq_false_iff_ne];omega
 have o5:((op:Int) == 61)=false:=by rw[beq_eq_false_iff_ne];omega
 have o6:((op:Int) == 35)=false:=by rw[beq_eq_false_iff_ne];omega
 clear hop;go_enter Tryz.func111,Tryz.ntmps111
 go_wp2_with fail;refine (ihl k _ _ lq HL.out.2.1.1 HK.out HL.out.1).mono ?_;rw[HR1.out];rintro e w1 ⟨rfl,l1,b1⟩;have hv1:w1.heap[q]?=_:=(b1.block q hqc).trans HL.out.2.2.1;have hk1:w1.heap[kb]?=_:=(b1.block kb hkbc).trans HL.out.2.2.2;have hx1:ExAt w1 r _ rq:=HL.out.2.1.2.keep fun i hi=>b1.block i (HK.out i hi)
 obtain ⟨d0,d1,d2,d3,d4,d5,df⟩:=qb9 hv1;have kk1:w1.cell? ⟨kb,1,none⟩=some (.pointer (some ⟨rq,0,none⟩)):=by simp[World.cell?,hk1]
 have L1:Hid (LkAt w1 c ra.2∧Below c w w1∧ExAt w1 r _ rq∧_):=⟨l1,b1,hx1,hv1⟩;clear l1 b1 hv1 hk1 hx1 c0 c1 c2 c3 c4 c5 f;go_wp2_with fail;refine (ihr ra.2 _ _ rq L1.out.2.2.1 HK.out L1.out.1).mono ?_;rw[HR2.out];rintro e w2 ⟨rfl,l2,b2⟩;have hv2:w2.heap[q]?=_:=(b2.block q hqc).trans L1.out.2.2.2;obtain ⟨f0,f1,f2,f3,f4,f5,ff⟩:=qb9 hv2;have L2:Hid (LkAt w2 c rb.2∧Below c w1 w2∧_):=⟨l2,b2,hv2⟩;clear l2 b2 hv2 d0 d1 d2 d3 d4 d5 df;have fin1:∀ (e:Ending) (w3:World) (z:Nat),e=Ending.returned (.int .u8 (z:Int))→z=(if op=60 then 98 else 105)→LkAt w3 c (if Px.isK ra.1 105 && Px.isK rb.1 105 then rb.2 else Px.say 6 own rb.2)→Below c w2 w3→e=.returned (.int .u8 ((Px.qao ⟨op,n,word,pl,own,some l,some r⟩ k).1:Int))∧LkAt w3 c (Px.qao ⟨op,n,word,pl,own,some l,some r⟩ k).2∧Below c w w3:=by
  intro e w3 z he hz hl3 hb3;rw[e1.out,e2.out];subst hz;exact ⟨he,hl3,(L1.out.2.1.trans L2.out.2.1).trans hb3⟩
 have FIN:Hid (_):=fin1;clear fin1;cases g1:Px.isK ra.1 105
 ·by_cases ho:op=60
  ·have o7:((op:Int) == 60)=true:=by rw[ho];rfl
   have HO:Hid (_):=ho;clear ho;go_wp2_with (first | (go_at_call 113;refine (qdc _ 105 _).mono ?_;rintro e w' ⟨rfl,rfl⟩))
   refine (qey c 6 own rb.2 _ L2.out.1).mono ?_;rintro e w3 ⟨rfl,l3,b3⟩;have hv3:w3.heap[q]?=_:=(b3.block q hqc).trans L2.out.2.2;obtain ⟨x0,x1,x2,x3,x4,x5,xf⟩:=qb9 hv3;have L3:Hid (_∧_):=⟨l3,b3⟩;clear l3 b3 hv3;go_wp2_with fail;go_ret;exact FIN.out _ _ 98 rfl (by rw[if_pos HO.out]) (by rw[g1];exact L3.out.1) L3.out.2
  ·have o7:((op:Int) == 60)=false:=by rw[beq_eq_false_iff_ne];omega
   have HO:Hid (_):=ho;clear ho;go_wp2_with (first | (go_at_call 113;refine (qdc _ 105 _).mono ?_;rintro e w' ⟨rfl,rfl⟩))
   refine (qey c 6 own rb.2 _ L2.out.1).mono ?_;rintro e w3 ⟨rfl,l3,b3⟩;have hv3:w3.heap[q]?=_:=(b3.block q hqc).trans L2.out.2.2;obtain ⟨x0,x1,x2,x3,x4,x5,xf⟩:=qb9 hv3;have L3:Hid (_∧_):=⟨l3,b3⟩;clear l3 b3 hv3;go_wp2_with fail;go_ret;exact FIN.out _ _ 105 rfl (by rw[if_neg HO.out]) (by rw[g1];exact L3.out.1) L3.out.2
 ·cases g2:Px.isK rb.1 105
  ·by_cases ho:op=60
   ·have o7:((op:Int) == 60)=true:=by rw[ho];rfl
    have HO:Hid (_):=ho;clear ho;go_wp2_with (first | (go_at_call 113;refine (qdc _ 105 _).mono ?_;rintro e w' ⟨rfl,rfl⟩))
    refine (qey c 6 own rb.2 _ L2.out.1).mono ?_;rintro e w3 ⟨rfl,l3,b3⟩;have hv3:w3.heap[q]?=_:=(b3.block q hqc).trans L2.out.2.2;obtain ⟨x0,x1,x2,x3,x4,x5,xf⟩:=qb9 hv3;have L3:Hid (_∧_):=⟨l3,b3⟩;clear l3 b3 hv3;go_wp2_with fail;go_ret;exact FIN.out _ _ 98 rfl (by rw[if_pos HO.out]) (by rw[g1,g2];exact L3.out.1) L3.out.2
   ·have o7:((op:Int) == 60)=false:=by rw[beq_eq_false_iff_ne];omega
    have HO:Hid (_):=ho;clear ho;go_wp2_with (first | (go_at_call 113;refine (qdc _ 105 _).mono ?_;rintro e w' ⟨rfl,rfl⟩))
    refine (qey c 6 own rb.2 _ L2.out.1).mono ?_;rintro e w3 ⟨rfl,l3,b3⟩;have hv3:w3.heap[q]?=_:=(b3.block q hqc).trans L2.out.2.2;obtain ⟨x0,x1,x2,x3,x4,x5,xf⟩:=qb9 hv3;have L3:Hid (_∧_):=⟨l3,b3⟩;clear l3 b3 hv3;go_wp2_with fail;go_ret;exact FIN.out _ _ 105 rfl (by rw[if_neg HO.out]) (by rw[g1,g2];exact L3.out.1) L3.out.2
  ·by_cases ho:op=60
   ·have o7:((op:Int) == 60)=true:=by rw[ho];rfl
    have HO:Hid (_):=ho;clear ho;go_wp2_with (first | (go_at_call 113;refine (qdc _ 105 _).mono ?_;rintro e w' ⟨rfl,rfl⟩))
    go_ret;exact FIN.out _ _ 98 rfl (by rw[if_pos HO.out]) (by rw[g1,g2];exact L2.out.1) (Below.refl _ _)
   ·have o7:((op:Int) == 60)=false:=by rw[beq_eq_false_iff_ne];omega
    have HO:Hid (_):=ho;clear ho;go_wp2_with (first | (go_at_call 113;refine (qdc _ 105 _).mono ?_;rintro e w' ⟨rfl,rfl⟩))
    go_ret;exact FIN.out _ _ 105 rfl (by rw[if_neg HO.out]) (by rw[g1,g2];exact L2.out.1) (Below.refl _ _)
theorem qcr (c:Nat) (x:Px.Ex) (h:Px.WfE x):qco c x:=by
 match x,h with
 | ⟨op,n,word,pl,own,none,none⟩,h =>
  by_cases h1:op=119
  ·subst h1;exact zhq c n word pl own
  ·have h':op=110∨op=116∨op=119:=h;exact zhr c op n word pl own (by omega)
 | ⟨op,n,word,pl,own,some l,none⟩,h =>
  obtain ⟨h1,h2⟩:=(show op=33∧Px.WfE l from h);subst h1;exact znt c n word pl own l (qcr c l h2)
 | ⟨op,n,word,pl,own,some l,some r⟩,h =>
  obtain ⟨h1,h2,h3⟩:=(show (op=42∨op=47∨op=43∨op=45∨op=60∨op=61∨op=35)∧Px.WfE l∧Px.WfE r from h);by_cases h4:op=61∨op=35
  ·exact znu c op h4 n word pl own l r (qcr c l h2) (qcr c r h3)
  ·exact znw c op (by omega) n word pl own l r (qcr c l h2) (qcr c r h3)
end Ref
end Go.Proofs.YthanmfbakpcigaaGreatDoor
