import Derived.Test.YtagpnplggopoeaaGreatDoorT15
import Derived.Test.YtagpnplggopoeaaGreatDoorT10
import Derived.Test.YtagpnplggopoeaaGreatDoorT12
import Derived.Test.YtagpnplggopoeaaGreatDoorT16
import Derived.Test.YtagpnplggopoeaaGreatDoorT06
import Derived.Lib.AppendStr
import Derived.Maps.AppendAt
import Derived.Deep.RegionWith
set_option maxRecDepth 100000
set_option maxHeartbeats 4000000
namespace Go.Proofs.YtagpnplggopoeaaGreatDoor
open Go.RowKit
namespace Lg
def qin (c m B:Nat) (E:Nat→Addr) (w:World) (K:Px.Lk) (e:Ending) (w':World):Prop:=e=.returned (.tuple #[])∧Ck w' c m B E K∧Fr c m w w'
def zyn (w:World) (c tl ql:Nat) (Q:Ending→World→Prop):Prop :=
 (tl=247∧Calls Tryz.prog 278 #[.pointer (some ⟨ql,0,none⟩),.pointer (some ⟨c,0,none⟩)] w Q) ∨
 (tl=258∧Calls Tryz.prog 285 #[.pointer (some ⟨ql,0,none⟩),.pointer (some ⟨c,0,none⟩)] w Q) ∨
 (tl=260∧Calls Tryz.prog 289 #[.pointer (some ⟨ql,0,none⟩),.pointer (some ⟨c,0,none⟩)] w Q) ∨
 (tl=262∧Calls Tryz.prog 291 #[.pointer (some ⟨ql,0,none⟩),.pointer (some ⟨c,0,none⟩)] w Q) ∨
 (tl=264∧Calls Tryz.prog 293 #[.pointer (some ⟨ql,0,none⟩),.pointer (some ⟨c,0,none⟩)] w Q) ∨
 (tl=266∧Calls Tryz.prog 295 #[.pointer (some ⟨ql,0,none⟩),.pointer (some ⟨c,0,none⟩)] w Q)
def quu (c m B:Nat) (E:Nat→Addr) (x:Px.Sm):Prop:=∀ (K:Px.Lk) (w:World) (tl ql:Nat),SAt w x (· < B) (.iface tl (Ref.ptr ql))→Ck w c m B E K→Px.V3 K→zyn w c tl ql (qin c m B E w (Px.qef x K))
def qfp (c m B:Nat) (E:Nat→Addr) (l:List Px.Sm):Prop:=∀ (K:Px.Lk) (w:World) (v:Value) (vs:List Value),SlL w v vs (· < B)→LsAt w l (· < B) vs→Ck w c m B E K→Px.V3 K →
 Calls Tryz.prog 76 #[.pointer (some ⟨c,0,none⟩),v] w (qin c m B E w (Px.qbz l K))
theorem sLet (a:Addr) (w:World):(method 500 247 (.pointer (some a)) "errand/lang.check").run Tryz.prog w=.ok (278,.pointer (some a)) w:=by kernel_rfl
theorem sCall (a:Addr) (w:World):(method 500 258 (.pointer (some a)) "errand/lang.check").run Tryz.prog w=.ok (285,.pointer (some a)) w:=by kernel_rfl
theorem sIf (a:Addr) (w:World):(method 500 260 (.pointer (some a)) "errand/lang.check").run Tryz.prog w=.ok (289,.pointer (some a)) w:=by kernel_rfl
theorem sTry (a:Addr) (w:World):(method 500 262 (.pointer (some a)) "errand/lang.check").run Tryz.prog w=.ok (291,.pointer (some a)) w:=by kernel_rfl
theorem zr1 (a:Addr) (w:World):(method 500 264 (.pointer (some a)) "errand/lang.check").run Tryz.prog w=.ok (293,.pointer (some a)) w:=by kernel_rfl
theorem sFail (a:Addr) (w:World):(method 500 266 (.pointer (some a)) "errand/lang.check").run Tryz.prog w=.ok (295,.pointer (some a)) w:=by kernel_rfl
theorem SlL.len {w:World} {v:Value} {vs:List Value} {ok:Nat→Prop} (h:SlL w v vs ok):∃ a cap,v=.slice a vs.length cap∧vs.length≤maxLen:=by
 rcases h with ⟨h1,h2⟩ | ⟨g,cap,cur,h1,h2,h3,h4,h5,h6,h7⟩
 ·subst h2;exact ⟨none,0,h1,by simp⟩
 ·exact ⟨_,cap,h1,by omega⟩
theorem SlL.cell {w:World} {v:Value} {vs:List Value} {ok:Nat→Prop} (h:SlL w v vs ok) {n:Nat} (hn:n < vs.length):∃ g cap,v=.slice (some ⟨g,0,none⟩) vs.length cap∧ok g∧w.cell? ⟨g,n,none⟩=some vs[n]:=by
 rcases h with ⟨h1,h2⟩ | ⟨g,cap,cur,h1,h2,h3,h4,h5,h6,h7⟩
 ·subst h2;simp at hn
 ·refine ⟨g,cap,h1,h2,?_⟩
  have:cur[n]?=some vs[n]:=by
   have h8:(cur.toList.take vs.length)[n]?=some vs[n]:=by rw[h7];exact List.getElem?_eq_getElem hn
   rw[List.getElem?_take_of_lt hn] at h8
   simpa using h8
  simp[World.cell?,h3,this]
theorem LsAt.len {w:World} {l:List Px.Sm} {ok:Nat→Prop} {vs:List Value} (h:LsAt w l ok vs):vs.length=l.length:=by
 induction l generalizing vs with
 | nil=>simp[LsAt.qbl.1 h]
 | cons x l ih =>
  obtain ⟨v,vs',rfl,h1,h2⟩:=LsAt.qcy.1 h;simp[ih h1]
theorem LsAt.get {w:World} {l:List Px.Sm} {ok:Nat→Prop} {vs:List Value} (h:LsAt w l ok vs) (n:Nat) (hn:n < l.length) (hm:n < vs.length):SAt w l[n] ok vs[n]:=by
 induction l generalizing vs n with
 | nil=>simp at hn
 | cons x l ih =>
  obtain ⟨v,vs',rfl,h1,h2⟩:=LsAt.qcy.1 h;cases n with
  | zero=>exact h2
  | succ n=>exact ih h1 n (by simpa using hn) (by simpa using hm)
theorem SAt.below {w w':World} {x:Px.Sm} {B:Nat} {v:Value} (h:SAt w x (· < B) v) (k:Below B w w'):SAt w' x (· < B) v:=h.keep fun i hi=>k.block i hi
theorem qjs (c m B:Nat) (E:Nat→Addr) (l:List Px.Sm) (hx:∀ i (hi:i < l.length),quu c m B E l[i]):qfp c m B E l:=by
 intro K w v vs hs hm h hv;obtain ⟨va,vc,rfl,hml⟩:=hs.len;unfold maxLen at hml;have hlen:=hm.len;have H:Hid (SlL w (.slice va vs.length vc) vs (· < B)∧LsAt w l (· < B) vs∧Ck w c m B E K):=⟨hs,hm,h⟩
 have HX:Hid (∀ i (hi:i < l.length),quu c m B E l[i]):=hx;have HLen:Hid (vs.length=l.length):=hlen;have m1:=sLet;have m2:=sCall;have m3:=sIf;have m4:=sTry;have m5:=zr1;have m6:=sFail;clear hs hm h hx hlen;go_enter Tryz.func76,Tryz.ntmps76
 go_wp2_with fail;go_loopw [8] (fun i wr=>∃ n:Nat,n≤vs.length∧i=.int .i64 n∧Hid (Fr c m w wr∧∃ K',Ck wr c m B E K'∧Px.V3 K'∧Px.qbz (l.drop n) K'=Px.qbz l K)) (fun i _=>vs.length - (intOf i).toNat)
 case atStart=>exact ⟨0,by omega,rfl,Fr.refl _ _ _,K,H.out.2.2,hv,rfl⟩
 case round =>
  obtain ⟨n,hn,rfl,hr⟩:=hrel;obtain ⟨hf,K',hk',hv',he⟩:=hr.out;clear hr;by_cases hlt:n < vs.length
  ·have hnl:n < l.length:=by have:=HLen.out;omega
   have hb:=H.out.2.2.fr hf;have hsat:=(H.out.2.1.get n hnl hlt).below hb;obtain ⟨t,q,hform⟩:=hsat.form;obtain ⟨g,cap,hgv,hg,hcell⟩:=H.out.1.cell hlt;cases hgv;have hcr:wr.cell? ⟨g,n,none⟩=some (.iface t (.pointer (some ⟨q,0,none⟩))):=by rw[hb.cell (p:=⟨g,n,none⟩) hg,hcell,hform];rfl
   have hdrop:l.drop n=l[n]::l.drop (n+1):=List.drop_eq_getElem_cons hnl;rw[hdrop,Px.qhv] at he;rw[hform] at hsat;have HH:Hid (Fr c m w wr∧Px.qbz (l.drop (n+1)) (Px.qef l[n] K')=Px.qbz l K∧Px.V3 (Px.qef l[n] K')):=⟨hf,he,Px.znd _ _ hv'⟩;have hC:=HX.out n hnl K' wr t q hsat hk' hv';clear hf he hsat hcell hform hdrop hb hk';rcases hC with ⟨rfl,hC⟩ | ⟨rfl,hC⟩ | ⟨rfl,hC⟩ | ⟨rfl,hC⟩ | ⟨rfl,hC⟩ | ⟨rfl,hC⟩
   all_goals
    go_wp2_with fail;refine hC.mono ?_;rintro e w1 ⟨rfl,k1,f1⟩;have L1:Hid (_∧_):=⟨k1,f1⟩;clear k1 f1;go_wp2_with fail;exact ⟨⟨n+1,by omega,by go_num,HH.out.1.trans L1.out.2,_,L1.out.1,HH.out.2.2,HH.out.2.1⟩,by simp[intOf];omega⟩
  ·have hnl:l.drop n=[]:=List.drop_of_length_le (by have:=HLen.out;omega)
   rw[hnl,Px.qjh] at he;have HH:Hid (Fr c m w wr∧Ck wr c m B E (Px.qbz l K)):=⟨hf,by rw[← he];exact hk'⟩
   clear hf hk' he hnl;go_wp2_with fail;go_end0
   exact ⟨rfl,HH.out.2,HH.out.1⟩
open Go.RowKit
theorem zdf (c m B q:Nat) (E:Nat→Addr) (K:Px.Lk) (w:World) (h:Ck w c m B E K) :
  Calls Tryz.prog 295 #[.pointer (some ⟨q,0,none⟩),.pointer (some ⟨c,0,none⟩)] w (qin c m B E w K):=by
 have HH:Hid (Ck w c m B E K):=h;clear h;go_enter Tryz.func295,Tryz.ntmps295
 go_wp2_with fail;go_end0
 exact ⟨rfl,HH.out,Fr.refl _ _ _⟩
theorem SlL.below {w w':World} {v:Value} {vs:List Value} {B:Nat} (h:SlL w v vs (· < B)) (k:Below B w w'):SlL w' v vs (· < B):=h.keep fun i hi=>k.block i hi
theorem LsAt.below {w w':World} {l:List Px.Sm} {vs:List Value} {B:Nat} (h:LsAt w l (· < B) vs) (k:Below B w w'):LsAt w' l (· < B) vs:=h.keep fun i hi=>k.block i hi
theorem zeq (c m B q:Nat) (E:Nat→Addr) (one two:List Px.Sm) (i1:qfp c m B E one) (i2:qfp c m B E two) (K:Px.Lk) (w:World) (v1 v2:Value) (u1 u2:List Value) (hq:q < B) (hc:w.heap[q]?=some (.cells #[v1,v2] 322)) (s1:SlL w v1 u1 (· < B)) (l1:LsAt w one (· < B) u1) (s2:SlL w v2 u2 (· < B)) (l2:LsAt w two (· < B) u2) (h:Ck w c m B E K) (hv:Px.V3 K) :
  Calls Tryz.prog 291 #[.pointer (some ⟨q,0,none⟩),.pointer (some ⟨c,0,none⟩)] w (qin c m B E w (Px.qbz two (Px.qbz one K))):=by
 obtain ⟨a1,n1,k1,rfl⟩:=s1.form;obtain ⟨a2,n2,k2,rfl⟩:=s2.form;obtain ⟨c0,c1,fr⟩:=qck hc;have CQ:Hid (∀ W,Fr c m w W→W.heap[q]?=some (.cells #[.slice a1 n1 k1,.slice a2 n2 k2] 322)):=fun W hW=>by rw[(h.fr hW).block q hq];exact hc
 have C1:Hid (Calls Tryz.prog 76 #[.pointer (some ⟨c,0,none⟩),.slice a1 n1 k1] w (qin c m B E w (Px.qbz one K))):=i1 K w _ u1 s1 l1 h hv;have C2:Hid (∀ W,Fr c m w W→Ck W c m B E (Px.qbz one K)→Calls Tryz.prog 76 #[.pointer (some ⟨c,0,none⟩),.slice a2 n2 k2] W (qin c m B E W (Px.qbz two (Px.qbz one K)))):=fun W hW hK=>i2 _ W _ u2 (s2.below (h.fr hW)) (l2.below (h.fr hW)) hK (Px.qgg one K hv)
 clear i1 i2 s1 l1 s2 l2 h hc;go_enter Tryz.func291,Tryz.ntmps291
 go_wp2_with fail;refine C1.out.mono ?_;rintro e w1 ⟨rfl,k1,f1⟩;obtain ⟨d0,d1,fd⟩:=qck (CQ.out w1 f1);have K1:Hid (_∧_):=⟨k1,f1⟩;clear c0 c1 fr k1 f1;go_wp2_with fail;refine (C2.out _ K1.out.2 K1.out.1).mono ?_;rintro e w2 ⟨rfl,k2,f2⟩;have K2:Hid (_∧_):=⟨k2,f2⟩;clear k2 f2;go_wp2_with fail;go_end0
 exact ⟨rfl,K2.out.1,K1.out.2.trans K2.out.2⟩
theorem qvl (c m B q qn n nPl:Nat) (E:Nat→Addr) (one:List Px.Sm) (i1:qfp c m B E one) (K:Px.Lk) (w:World) (v1:Value) (u1:List Value) (hq:q < B) (hc:w.heap[q]?=some (.cells #[Ref.ptr qn,v1] 293)) (hn:NumAt w n nPl (· < B) qn) (s1:SlL w v1 u1 (· < B)) (l1:LsAt w one (· < B) u1) (h:Ck w c m B E K) (hv:Px.V3 K) :
  Calls Tryz.prog 293 #[.pointer (some ⟨q,0,none⟩),.pointer (some ⟨c,0,none⟩)] w (qin c m B E w (Px.qbz one (Px.countP n nPl 0 9 K))):=by
 obtain ⟨a1,n1,k1,rfl⟩:=s1.form;unfold Ref.ptr at hc;obtain ⟨c0,c1,fr⟩:=qck hc;have CQ:Hid (∀ W,Fr c m w W→W.heap[q]?=some (.cells #[.pointer (some ⟨qn,0,none⟩),.slice a1 n1 k1] 293)):=fun W hW=>by rw[(h.fr hW).block q hq];exact hc
 have HH:Hid (Ck w c m B E K∧NumAt w n nPl (· < B) qn):=⟨h,hn⟩
 have C2:Hid (∀ W,Fr c m w W→Ck W c m B E (Px.countP n nPl 0 9 K)→Calls Tryz.prog 76 #[.pointer (some ⟨c,0,none⟩),.slice a1 n1 k1] W (qin c m B E W (Px.qbz one (Px.countP n nPl 0 9 K)))):=fun W hW hK=>i1 _ W _ u1 (s1.below (h.fr hW)) (l1.below (h.fr hW)) hK (Px.qqa hv _ _ _ _)
 clear i1 s1 l1 h hc hn;go_enter Tryz.func293,Tryz.ntmps293
 go_wp2_with fail;refine (qwj c m B qn n nPl 0 9 E K _ HH.out.1 HH.out.2).mono ?_;rintro e w1 ⟨rfl,k1,f1⟩;obtain ⟨d0,d1,fd⟩:=qck (CQ.out w1 f1);have K1:Hid (_∧_):=⟨k1,f1⟩;clear c0 c1 fr k1 f1;go_wp2_with fail;refine (C2.out _ K1.out.2 K1.out.1).mono ?_;rintro e w2 ⟨rfl,k2,f2⟩;have K2:Hid (_∧_):=⟨k2,f2⟩;clear k2 f2;go_wp2_with fail;go_end0
 exact ⟨rfl,K2.out.1,K1.out.2.trans K2.out.2⟩
open Go.RowKit
theorem qgu {w:World} {k:Nat} {a b c:Value} {t:TypeId} (hh:w.heap[k]?=some (.cells #[a,b,c] t)) :
  w.cell? ⟨k,0,none⟩=some a∧w.cell? ⟨k,1,none⟩=some b∧w.cell? ⟨k,2,none⟩=some c∧∀ o,w.frozen? ⟨k,o,none⟩=false:=by
 refine ⟨?_,?_,?_,?_⟩<;>simp[World.cell?,World.frozen?,hh]
theorem zn8 (c m B q qr:Nat) (E:Nat→Addr) (e:Px.Ex) (ie:qco c m B E e) (one two:List Px.Sm) (i1:qfp c m B E one) (i2:qfp c m B E two) (K:Px.Lk) (w:World) (v1 v2:Value) (u1 u2:List Value) (hq:q < B) (hc:w.heap[q]?=some (.cells #[Ref.ptr qr,v1,v2] 319)) (hr:RootAt w e (· < B) qr) (s1:SlL w v1 u1 (· < B)) (l1:LsAt w one (· < B) u1) (s2:SlL w v2 u2 (· < B)) (l2:LsAt w two (· < B) u2) (h:Ck w c m B E K) (hv:Px.V3 K) :
  Calls Tryz.prog 289 #[.pointer (some ⟨q,0,none⟩),.pointer (some ⟨c,0,none⟩)] w (qin c m B E w (Px.qbz two (Px.qbz one (Px.qh4 e 98 K)))):=by
 obtain ⟨a1,n1,k1,rfl⟩:=s1.form;obtain ⟨a2,n2,k2,rfl⟩:=s2.form;unfold Ref.ptr at hc;obtain ⟨c0,c1,c2,fr⟩:=qgu hc;have CQ:Hid (∀ W,Fr c m w W→W.heap[q]?=some (.cells #[.pointer (some ⟨qr,0,none⟩),.slice a1 n1 k1,.slice a2 n2 k2] 319)):=fun W hW=>by rw[(h.fr hW).block q hq];exact hc
 have C0:Hid (Calls Tryz.prog 287 #[.pointer (some ⟨c,0,none⟩),.pointer (some ⟨qr,0,none⟩),.int .i64 2] w (qin c m B E w (Px.qh4 e 98 K))):=qqb c m B E e ie 98 (Or.inr (Or.inl rfl)) K w qr hr h hv;have C1:Hid (∀ W,Fr c m w W→Ck W c m B E (Px.qh4 e 98 K)→Calls Tryz.prog 76 #[.pointer (some ⟨c,0,none⟩),.slice a1 n1 k1] W (qin c m B E W (Px.qbz one (Px.qh4 e 98 K)))):=fun W hW hK=>i1 _ W _ u1 (s1.below (h.fr hW)) (l1.below (h.fr hW)) hK (Px.qn4 hv e 98)
 have C2:Hid (∀ W,Fr c m w W→Ck W c m B E (Px.qbz one (Px.qh4 e 98 K))→Calls Tryz.prog 76 #[.pointer (some ⟨c,0,none⟩),.slice a2 n2 k2] W (qin c m B E W (Px.qbz two (Px.qbz one (Px.qh4 e 98 K))))):=fun W hW hK=>i2 _ W _ u2 (s2.below (h.fr hW)) (l2.below (h.fr hW)) hK (Px.qgg one _ (Px.qn4 hv e 98))
 clear ie i1 i2 s1 l1 s2 l2 h hc hr;go_enter Tryz.func289,Tryz.ntmps289
 go_wp2_with fail;refine C0.out.mono ?_;rintro r w1 ⟨rfl,k1,f1⟩;obtain ⟨d0,d1,d2,fd⟩:=qgu (CQ.out w1 f1);have K1:Hid (_∧_):=⟨k1,f1⟩;clear c0 c1 c2 fr k1 f1;go_wp2_with fail;refine (C1.out _ K1.out.2 K1.out.1).mono ?_;rintro r w2 ⟨rfl,k2,f2⟩;obtain ⟨j0,j1,j2,fj⟩:=qgu (CQ.out w2 (K1.out.2.trans f2));have K2:Hid (_∧_):=⟨k2,f2⟩;clear d0 d1 d2 fd k2 f2;go_wp2_with fail;refine (C2.out _ (K1.out.2.trans K2.out.2) K2.out.1).mono ?_;rintro r w3 ⟨rfl,k3,f3⟩;have K3:Hid (_∧_):=⟨k3,f3⟩;clear k3 f3;go_wp2_with fail;go_end0
 exact ⟨rfl,K3.out.1,(K1.out.2.trans K2.out.2).trans K3.out.2⟩
open Go.RowKit
theorem NumAt.below {w w':World} {n a q B:Nat} (h:NumAt w n a (· < B) q) (k:Below B w w'):NumAt w' n a (· < B) q:=h.keep fun i hi=>k.block i hi
theorem VarAt.below {w w':World} {x:ByteArray} {a q B:Nat} (h:VarAt w x a (· < B) q) (k:Below B w w'):VarAt w' x a (· < B) q:=h.keep fun i hi=>k.block i hi
def CNode (w:World) (q:Nat) (word undo:ByteArray) (pa ps:Option Addr) (qn:Nat):Prop:=w.heap[q]?=some (.cells #[.string word,.pointer pa,.pointer ps,.string undo,.pointer (some ⟨qn,0,none⟩)] 315)
theorem CNode.cells {w:World} {q:Nat} {word undo:ByteArray} {pa ps:Option Addr} {qn:Nat} (h:CNode w q word undo pa ps qn):w.cell? ⟨q,1,none⟩=some (.pointer pa)∧w.cell? ⟨q,2,none⟩=some (.pointer ps)∧w.cell? ⟨q,4,none⟩=some (.pointer (some ⟨qn,0,none⟩))∧∀ o,w.frozen? ⟨q,o,none⟩=false:=by
 unfold CNode at h;refine ⟨?_,?_,?_,?_⟩<;>simp[World.cell?,World.frozen?,h]
theorem zdx (c m B q qn n nPl asPl:Nat) (word undo asw:ByteArray) (pa ps:Option Addr) (E:Nat→Addr) (ex:Option Px.Ex) (ie:∀ e,ex=some e→qco c m B E e) (K:Px.Lk) (w:World) (hq:q < B) (hc:w.heap[q]?=some (.cells #[.string word,.pointer pa,.pointer ps,.string undo,Ref.ptr qn] 315)) (ha:ArgAt w ex (· < B) (.pointer pa)) (hs:AsAt w asw asPl (· < B) (.pointer ps)) (hn:NumAt w n nPl (· < B) qn) (h:Ck w c m B E K) (hv:Px.V3 K) :
  Calls Tryz.prog 285 #[.pointer (some ⟨q,0,none⟩),.pointer (some ⟨c,0,none⟩)] w (qin c m B E w (Px.countP n nPl 1 5 (Px.asP asw asPl (Px.argP ex K)))):=by
 have hc':CNode w q word undo pa ps qn:=hc;have CQ:Hid (∀ W,Fr c m w W→CNode W q word undo pa ps qn):=fun W hW=>by unfold CNode;rw[(h.fr hW).block q hq];exact hc'
 obtain ⟨c1,c2,c4,fr⟩:=hc'.cells;have C2:Hid (∀ W,Fr c m w W→Ck W c m B E (Px.asP asw asPl (Px.argP ex K))→Calls Tryz.prog 288 #[.pointer (some ⟨c,0,none⟩),.pointer (some ⟨qn,0,none⟩),.int .i64 1,.int .i64 5] W (qin c m B E W (Px.countP n nPl 1 5 (Px.asP asw asPl (Px.argP ex K))))):=fun W hW hK=>qwj c m B qn n nPl 1 5 E _ W hK (hn.below (h.fr hW))
 have HH:Hid (Ck w c m B E K):=h;have CA:Hid ((ex=none∧pa=none∧Px.argP ex K=K)∨∃ qa,pa=some ⟨qa,0,none⟩∧Calls Tryz.prog 287 #[.pointer (some ⟨c,0,none⟩),.pointer (some ⟨qa,0,none⟩),.int .i64 1] w (qin c m B E w (Px.argP ex K))):=by
  cases ex with
  | none =>
   have:Value.pointer pa=.pointer none:=ha
   cases this;exact Or.inl ⟨rfl,rfl,rfl⟩
  | some e =>
   obtain ⟨qa,h1,h2⟩:=ha;cases h1;exact Or.inr ⟨qa,rfl,qqb c m B E e (ie e rfl) 105 (Or.inl rfl) K w qa h2 h hv⟩
 have CB:Hid ((ps=none∧Px.asP asw asPl (Px.argP ex K)=Px.argP ex K)∨∃ qs,ps=some ⟨qs,0,none⟩∧∀ W,Fr c m w W→Ck W c m B E (Px.argP ex K)→Calls Tryz.prog 280 #[.pointer (some ⟨c,0,none⟩),.pointer (some ⟨qs,0,none⟩),.int .i64 1] W (qin c m B E W (Px.asP asw asPl (Px.argP ex K)))):=by
  rcases hs with ⟨h1,h2⟩ | ⟨h1,qs,h2,h3⟩
  ·cases h2;exact Or.inl ⟨rfl,by unfold Px.asP;rw[if_pos h1]⟩
  ·cases h2;refine Or.inr ⟨qs,rfl,fun W hW hK=>?_⟩
   unfold Px.asP;rw[if_neg (by omega)]
   exact qlx c m B qs asPl 105 asw E _ W hK (h3.below (h.fr hW)) (Or.inl rfl) (Px.zj4 hv ex)
 clear ie ha hs hn h hc hc';generalize Px.argP ex K=K1 at *;generalize Px.asP asw asPl K1=K2 at *;rcases CA.out with ⟨rfl,rfl,rfl⟩ | ⟨qa,rfl,ca⟩
 ·rcases CB.out with ⟨rfl,rfl⟩ | ⟨qs,rfl,cb⟩
  ·clear CA CB;go_enter Tryz.func285,Tryz.ntmps285
   go_wp2_with fail;refine (C2.out _ (Fr.refl _ _ _) HH.out).mono ?_;rintro r w1 ⟨rfl,k1,f1⟩;go_wp2_with fail;go_end0
   exact ⟨rfl,k1,f1⟩
  ·have CB':Hid (_):=cb;clear CA CB cb;go_enter Tryz.func285,Tryz.ntmps285
   go_wp2_with fail;refine (CB'.out _ (Fr.refl _ _ _) HH.out).mono ?_;rintro r w1 ⟨rfl,k1,f1⟩;obtain ⟨d1,d2,d4,fd⟩:=(CQ.out w1 f1).cells;have L1:Hid (_∧_):=⟨k1,f1⟩;clear c1 c2 c4 fr k1 f1;go_wp2_with fail;refine (C2.out _ L1.out.2 L1.out.1).mono ?_;rintro r w2 ⟨rfl,k2,f2⟩;go_wp2_with fail;go_end0
   exact ⟨rfl,k2,L1.out.2.trans f2⟩
 ·rcases CB.out with ⟨rfl,rfl⟩ | ⟨qs,rfl,cb⟩
  ·clear CA CB;go_enter Tryz.func285,Tryz.ntmps285
   go_wp2_with fail;refine ca.mono ?_;rintro r w1 ⟨rfl,k1,f1⟩;obtain ⟨d1,d2,d4,fd⟩:=(CQ.out w1 f1).cells;have L1:Hid (_∧_):=⟨k1,f1⟩;clear c1 c2 c4 fr k1 f1 ca;go_wp2_with fail;refine (C2.out _ L1.out.2 L1.out.1).mono ?_;rintro r w2 ⟨rfl,k2,f2⟩;go_wp2_with fail;go_end0
   exact ⟨rfl,k2,L1.out.2.trans f2⟩
  ·have CB':Hid (_):=cb;clear CA CB cb;go_enter Tryz.func285,Tryz.ntmps285
   go_wp2_with fail;refine ca.mono ?_;rintro r w1 ⟨rfl,k1,f1⟩;obtain ⟨d1,d2,d4,fd⟩:=(CQ.out w1 f1).cells;have L1:Hid (_∧_):=⟨k1,f1⟩;clear c1 c2 c4 fr k1 f1 ca;go_wp2_with fail;refine (CB'.out _ L1.out.2 L1.out.1).mono ?_;rintro r w2 ⟨rfl,k2,f2⟩;obtain ⟨j1,j2,j4,fj⟩:=(CQ.out w2 (L1.out.2.trans f2)).cells;have L2:Hid (_∧_):=⟨k2,f2⟩;clear d1 d2 d4 fd k2 f2;go_wp2_with fail;refine (C2.out _ (L1.out.2.trans L2.out.2) L2.out.1).mono ?_;rintro r w3 ⟨rfl,k3,f3⟩;go_wp2_with fail;go_end0
   exact ⟨rfl,k3,(L1.out.2.trans L2.out.2).trans f3⟩
open Go.RowKit
def zyo (B:Nat) (E:Nat→Addr) (w:World) (K:Px.Lk) (e:Ending) (w':World):Prop :=
 Below B w w'∧∃ er,e=.returned er∧((K.e=0∧er=.nilIface)∨(K.e≠0∧∃ f,er=.iface 93 (.pointer (some ⟨f,0,none⟩))∧qe9 w' f K.pl (E K.e)))
theorem zhc (w:World):(Instr.makeMap 169 none).run Tryz.prog w=.ok (.map (some w.heap.size)) (w.alloc (.map #[] 0)):=rfl
def cbW (w:World):World:=(w.alloc (.map #[] 0)).alloc (.cells #[.map (some w.heap.size),.pointer none] 171)
theorem ql4 (w:World):Below w.heap.size w (cbW w):=((Below.refl _ _).alloc (Nat.le_refl _) _).alloc (by simp) _
theorem zqx {w:World} {E:Nat→Addr} (g:Gc w w.heap.size E):Ck (cbW w) (w.heap.size+1) w.heap.size w.heap.size E ⟨[],0,0⟩:=by
 refine ⟨g.below (ql4 w),by omega,none,?_,Nat.le_refl _,by omega,⟨#[],0,?_,rfl⟩,Or.inl ⟨rfl,rfl⟩⟩
 ·exact new2
 ·show ((w.alloc _).alloc _).heap[w.heap.size]?=_
  rw[Below.heap_alloc _ _ _ (by simp)]
  exact new1
theorem qqu (E:Nat→Addr) (l:List Px.Sm) (w:World) (hl:∀ c m,qfp c m w.heap.size E l) (v:Value) (vs:List Value) (hs:SlL w v vs (· < w.heap.size)) (hm:LsAt w l (· < w.heap.size) vs) (g:Gc w w.heap.size E) :
  Calls Tryz.prog 36 #[v] w (zyo w.heap.size E w (Px.qbz l ⟨[],0,0⟩)):=by
 obtain ⟨a1,n1,k1,rfl⟩:=hs.form;have mk:=zhc;have HB:Hid (Calls Tryz.prog 76 #[.pointer (some ⟨w.heap.size+1,0,none⟩),.slice a1 n1 k1] (cbW w) (qin (w.heap.size+1) w.heap.size w.heap.size E (cbW w) (Px.qbz l ⟨[],0,0⟩))) :=
  hl _ _ _ _ _ vs (hs.below (ql4 w)) (hm.below (ql4 w)) (zqx g) (fun v hv=>by cases hv)
 have HC:Hid (Ck (cbW w) (w.heap.size+1) w.heap.size w.heap.size E ⟨[],0,0⟩):=zqx g;clear hl hs hm g;go_enter Tryz.func36,Tryz.ntmps36
 go_wp2_with fail;refine HB.out.mono ?_;rintro r w1 ⟨rfl,k1,f1⟩;generalize Px.qbz l ⟨[],0,0⟩=K at *;have hb:Hid (Below w.heap.size w w1):=(ql4 w).trans (HC.out.fr f1);obtain ⟨pf,h1,h2,h3,h4,h5⟩:=k1.ex;obtain ⟨c0,c1,fr⟩:=qck h1;clear k1 f1 h1 h2 h3 h4;rcases h5 with ⟨h5,rfl⟩ | ⟨h5,f,rfl,h6,h7,h8,h9⟩
 ·go_wp2_with fail;go_ret;exact ⟨hb.out,_,rfl,Or.inl ⟨h5,rfl⟩⟩
 ·have HF:Hid (_):=h9;clear h9;go_wp2_with fail;go_ret;exact ⟨hb.out,_,rfl,Or.inr ⟨h5,f,rfl,HF.out⟩⟩
open Go.RowKit
structure Gw (w:World) (E:Nat→Addr):Prop where
 s:Snt w E
 ops:∀ j (hj:j < 28),w.cell? ⟨18,j,none⟩=some (opsC[j]'hj)
 lo:21≤w.heap.size
theorem Gw.below {w w':World} {E:Nat→Addr} (h:Gw w E) (k:Below w.heap.size w w'):Gw w' E :=
 ⟨h.s.below k,fun j hj=>by rw[World.cell?_of_block (w:=w) (k.block _ (by show 18 < w.heap.size;have:=h.lo;omega))];exact h.ops j hj,Nat.le_trans h.lo k.size⟩
theorem Gw.gl {w:World} {E:Nat→Addr} (h:Gw w E):Gl w (w.heap.size+2) (E 2) (E 3):=⟨h.s.v2,h.s.v3,h.ops,by have:=h.lo;omega⟩
theorem Gw.gc {w:World} {E:Nat→Addr} (h:Gw w E):Gc w w.heap.size E:=⟨h.s.v4,h.s.v5,h.s.v6,h.ops,h.lo⟩
open Go.RowKit
def qbk (o:List UInt8):List Value:=o.map fun c=>Value.int .u8 (c.toNat:Int)
theorem zau:(Tryz.prog.info? 5).map (fun i=>(i.zero,i.size,i.bytes))=some (some (.int .u8 0),1,1):=by kernel_rfl
theorem qeu (o t:List UInt8):qbk (o++t)=qbk o++qbk t:=by simp[qbk]
open Go.RowKit
def yfg (s:ByteArray) (E:Nat→Addr) (w:World) (e:Ending) (w':World):Prop :=
 Below w.heap.size w w'∧∃ v er,e=.returned (.tuple #[v,er]) ∧
  ((Px.check s=(0,0)∧er=.nilIface∧∃ l vs,Px.read s=.ok l∧SlL w' v vs (Ref.In w w')∧LsAt w' l (Ref.In w w') vs) ∨
   (Px.check s=(1,0)∧er=.iface 359 (.pointer (some (E 1)))) ∨
   (∃ c p f,2≤c∧c≤6∧Px.check s=(c,p)∧er=.iface 93 (.pointer (some ⟨f,0,none⟩))∧qe9 w' f p (E c)))
theorem yfl (E:Nat→Addr) (hblk:∀ l,Px.WfS l→∀ c m B,qfp c m B E l) (s:ByteArray) (w:World) (hs:s.size≤maxLen) (g:Gw w E) :
  Calls Tryz.prog 18 #[.string s] w (yfg s E w):=by
 unfold maxLen at hs;have v1:=g.s.v1;have G0:Hid (Gw w E):=g;have HB:Hid (∀ l,Px.WfS l→∀ c m B,qfp c m B E l):=hblk;clear g hblk;by_cases h300:300 < s.size
 ·have t1:(300:Int) < s.size:=by omega
  have hck:Hid (Px.check s=(1,0)):=Px.qf4 (by unfold Px.read;rw[if_pos h300])
  go_enter Tryz.func18,Tryz.ntmps18
  go_wp2_with fail;go_region
  all_goals
   go_wp2_with fail;go_ret2;exact ⟨zd3 (Below.refl _ _),_,_,rfl,Or.inr (Or.inl ⟨hck.out,rfl⟩)⟩
 ·have t1:¬ (300:Int) < s.size:=by omega
  go_enter Tryz.func18,Tryz.ntmps18
  go_wp2_with fail;refine (zf6 s (E 2) (E 3) w (by omega) G0.out.lo G0.out.gl).mono ?_
  rintro e w1 ⟨hb,v,er,rfl,hp⟩;cases hr:Px.read s with
  | error r =>
   obtain ⟨c,p⟩:=r;rw[hr] at hp;obtain ⟨rfl,f,rfl,hf⟩:=hp;have hc:=Px.qsw (by omega) hr
   have hF:Hid (qe9 w1 f p (E c)):=by
    rcases hc with rfl | rfl
    ·exact hf
    ·exact hf
   have HH:Hid (Below w.heap.size w w1∧Px.check s=(c,p)):=⟨hb,Px.qf4 hr⟩;clear hb hf;unfold Ref.ptr;go_wp2_with fail;go_ret2;exact ⟨HH.out.1,_,_,rfl,Or.inr (Or.inr ⟨c,p,f,by omega,by omega,HH.out.2,rfl,hF.out⟩)⟩
  | ok l =>
   rw[hr] at hp;obtain ⟨rfl,vs,hs1,hl1⟩:=hp;obtain ⟨a,n,cp,rfl⟩:=hs1.form;have hs2:SlL w1 (.slice a n cp) vs (· < w1.heap.size):=hs1.mono fun k hk=>hk.2
   have hl2:LsAt w1 l (· < w1.heap.size) vs:=hl1.mono fun k hk=>hk.2
   have HC:Hid (_):=qqu E l w1 (fun c m=>HB.out l (Px.qd0 hr).1 c m _) (.slice a n cp) vs hs2 hl2 (G0.out.below hb).gc
   have HH:Hid (Below w.heap.size w w1∧SlL w1 (.slice a n cp) vs (Ref.In w w1)∧LsAt w1 l (Ref.In w w1) vs∧Px.read s=.ok l):=⟨hb,hs1,hl1,hr⟩;have hck:Hid (_):=Px.qtw hr;have hE:Hid (Px.E4 (Px.qbz l ⟨[],0,0⟩)):=Px.qks l _ (Or.inl rfl);clear hb hs1 hl1 hs2 hl2 hr;generalize Px.qbz l ⟨[],0,0⟩=K at *;go_wp2_with fail;refine (Calls.mono HC.out ?_);rintro e w2 ⟨hb2,er,rfl,hK⟩;have hb3:Hid (Below w.heap.size w w2):=HH.out.1.trans (hb2.mono HH.out.1.size);have hS:Hid (SlL w2 (.slice a n cp) vs (Ref.In w w2)∧LsAt w2 l (Ref.In w w2) vs):=⟨(HH.out.2.1.keep fun k hk=>hb2.block k hk.2).mono fun k hk=>⟨hk.1,Nat.lt_of_lt_of_le hk.2 hb2.size⟩,(HH.out.2.2.1.keep fun k hk=>hb2.block k hk.2).mono fun k hk=>⟨hk.1,Nat.lt_of_lt_of_le hk.2 hb2.size⟩⟩
   clear hb2;rcases hK with ⟨hK,rfl⟩ | ⟨hK,f,rfl,hF⟩
   ·go_wp2_with fail;go_ret2;refine ⟨hb3.out,_,_,rfl,Or.inl ⟨?_,rfl,l,vs,HH.out.2.2.2,hS.out.1,hS.out.2⟩⟩;rw[hck.out,if_pos hK]
   ·have HF:Hid (qe9 w2 f K.pl (E K.e)):=hF;clear hF;go_wp2_with fail;go_ret2;refine ⟨hb3.out,_,_,rfl,Or.inr (Or.inr ⟨K.e,K.pl,f,?_,?_,?_,rfl,HF.out⟩)⟩
    ·have:=hE.out;unfold Px.E4 at this;omega
    ·have:=hE.out;unfold Px.E4 at this;omega
    ·rw[hck.out,if_neg hK]
end Lg
end Go.Proofs.YtagpnplggopoeaaGreatDoor
