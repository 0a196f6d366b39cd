import Derived.Test.YtnhkpbmplefnaaaGreatDoorP06
import Derived.Test.YtnhkpbmplefnaaaGreatDoorProg
import Derived.WalkKit
import Derived.LaidEql
import Derived.Stop.Asserts
import Derived.RowKitTokens
namespace Go.Proofs.YtnhkpbmplefnaaaGreatDoor
open Go.RowKit
namespace Lg
def SPost (c m B:Nat) (E:Nat→Addr) (w:World) (K:Px.Lk) (e:Ending) (w':World):Prop:=e=.returned (.tuple #[])∧Ck w' c m B E K∧Fr c m w w'
def CheckC (w:World) (c tl ql:Nat) (Q:Ending→World→Prop):Prop :=
 (tl=258∧Calls Tryz.prog 254 #[.pointer (some ⟨ql,0,none⟩),.pointer (some ⟨c,0,none⟩)] w Q) ∨
 (tl=268∧Calls Tryz.prog 263 #[.pointer (some ⟨ql,0,none⟩),.pointer (some ⟨c,0,none⟩)] w Q) ∨
 (tl=270∧Calls Tryz.prog 282 #[.pointer (some ⟨ql,0,none⟩),.pointer (some ⟨c,0,none⟩)] w Q) ∨
 (tl=272∧Calls Tryz.prog 284 #[.pointer (some ⟨ql,0,none⟩),.pointer (some ⟨c,0,none⟩)] w Q) ∨
 (tl=274∧Calls Tryz.prog 286 #[.pointer (some ⟨ql,0,none⟩),.pointer (some ⟨c,0,none⟩)] w Q) ∨
 (tl=276∧Calls Tryz.prog 288 #[.pointer (some ⟨ql,0,none⟩),.pointer (some ⟨c,0,none⟩)] w Q)
def CheckOk (c m B:Nat) (E:Nat→Addr) (x:Px.Sm):Prop:=∀ (K:Px.Lk) (w:World) (tl ql:Nat),SAt w x (· < B) (.iface tl (Ref.ptr ql))→Ck w c m B E K→Px.V3 K→CheckC w c tl ql (SPost c m B E w (Px.lookX' x K))
def BlockOk (c m B:Nat) (E:Nat→Addr) (l:List Px.Sm):Prop:=∀ (K:Px.Lk) (w:World) (v:Value) (vs:List Value),SlL w v vs (· < B)→LsAt w l (· < B) vs→Ck w c m B E K→Px.V3 K →
 Calls Tryz.prog 61 #[.pointer (some ⟨c,0,none⟩),v] w (SPost c m B E w (Px.lookP l K))
theorem sLet (a:Addr) (w:World):(method 514 258 (.pointer (some a)) "errand/lang.check").run Tryz.prog w=.ok (254,.pointer (some a)) w:=by kernel_rfl
theorem sCall (a:Addr) (w:World):(method 514 268 (.pointer (some a)) "errand/lang.check").run Tryz.prog w=.ok (263,.pointer (some a)) w:=by kernel_rfl
theorem sIf (a:Addr) (w:World):(method 514 270 (.pointer (some a)) "errand/lang.check").run Tryz.prog w=.ok (282,.pointer (some a)) w:=by kernel_rfl
theorem sTry (a:Addr) (w:World):(method 514 272 (.pointer (some a)) "errand/lang.check").run Tryz.prog w=.ok (284,.pointer (some a)) w:=by kernel_rfl
theorem sRepeat (a:Addr) (w:World):(method 514 274 (.pointer (some a)) "errand/lang.check").run Tryz.prog w=.ok (286,.pointer (some a)) w:=by kernel_rfl
theorem sFail (a:Addr) (w:World):(method 514 276 (.pointer (some a)) "errand/lang.check").run Tryz.prog w=.ok (288,.pointer (some a)) w:=by kernel_rfl
theorem SlL.len {w:World} {v:Value} {vs:List Value} {ok:Nat→Prop} (h:SlL w v vs ok):∃ a cap,v=.slice a vs.length cap∧vs.length≤maxLen:=by
 rcases h with ⟨h1,h2⟩ | ⟨g,cap,cur,h1,h2,h3,h4,h5,h6,h7⟩
 ·subst h2;exact ⟨none,0,h1,by simp⟩
 ·exact ⟨_,cap,h1,by omega⟩
theorem SlL.cell {w:World} {v:Value} {vs:List Value} {ok:Nat→Prop} (h:SlL w v vs ok) {n:Nat} (hn:n < vs.length):∃ g cap,v=.slice (some ⟨g,0,none⟩) vs.length cap∧ok g∧w.cell? ⟨g,n,none⟩=some vs[n]:=by
 rcases h with ⟨h1,h2⟩ | ⟨g,cap,cur,h1,h2,h3,h4,h5,h6,h7⟩
 ·subst h2;simp at hn
 ·refine ⟨g,cap,h1,h2,?_⟩
  have:cur[n]?=some vs[n]:=by
   have h8:(cur.toList.take vs.length)[n]?=some vs[n]:=by rw[h7];exact List.getElem?_eq_getElem hn
   rw[List.getElem?_take_of_lt hn] at h8
   simpa using h8
  simp[World.cell?,h3,this]
theorem LsAt.len {w:World} {l:List Px.Sm} {ok:Nat→Prop} {vs:List Value} (h:LsAt w l ok vs):vs.length=l.length:=by
 induction l generalizing vs with
 | nil=>simp[LsAt.nil_iff.1 h]
 | cons x l ih =>
  obtain ⟨v,vs',rfl,h1,h2⟩:=LsAt.cons_iff.1 h
  simp[ih h1]
theorem LsAt.get {w:World} {l:List Px.Sm} {ok:Nat→Prop} {vs:List Value} (h:LsAt w l ok vs) (n:Nat) (hn:n < l.length) (hm:n < vs.length):SAt w l[n] ok vs[n]:=by
 induction l generalizing vs n with
 | nil=>simp at hn
 | cons x l ih =>
  obtain ⟨v,vs',rfl,h1,h2⟩:=LsAt.cons_iff.1 h
  cases n with
  | zero=>exact h2
  | succ n=>exact ih h1 n (by simpa using hn) (by simpa using hm)
theorem SAt.below {w w':World} {x:Px.Sm} {B:Nat} {v:Value} (h:SAt w x (· < B) v) (k:Below B w w'):SAt w' x (· < B) v:=h.keep fun i hi=>k.block i hi
set_option maxRecDepth 100000 in
set_option maxHeartbeats 4000000 in
theorem chkBlock_any (c m B:Nat) (E:Nat→Addr) (l:List Px.Sm) (hx:∀ i (hi:i < l.length),CheckOk c m B E l[i]):BlockOk c m B E l:=by
 intro K w v vs hs hm h hv
 obtain ⟨va,vc,rfl,hml⟩:=hs.len
 unfold maxLen at hml
 have hlen:=hm.len
 have H:Hid (SlL w (.slice va vs.length vc) vs (· < B)∧LsAt w l (· < B) vs∧Ck w c m B E K):=⟨hs,hm,h⟩
 have HX:Hid (∀ i (hi:i < l.length),CheckOk c m B E l[i]):=hx
 have HLen:Hid (vs.length=l.length):=hlen
 have m1:=sLet
 have m2:=sCall
 have m3:=sIf
 have m4:=sTry
 have m5:=sRepeat
 have m6:=sFail
 clear hs hm h hx hlen
 go_enter Tryz.func61,Tryz.ntmps61
 go_wp2_with fail
 go_loopw [8] (fun i wr=>∃ n:Nat,n≤vs.length∧i=.int .i64 n∧Hid (Fr c m w wr∧∃ K',Ck wr c m B E K'∧Px.V3 K'∧Px.lookP (l.drop n) K'=Px.lookP l K)) (fun i _=>vs.length - (intOf i).toNat)
 case atStart=>exact ⟨0,by omega,rfl,Fr.refl _ _ _,K,H.out.2.2,hv,rfl⟩
 case round =>
  obtain ⟨n,hn,rfl,hr⟩:=hrel
  obtain ⟨hf,K',hk',hv',he⟩:=hr.out
  clear hr
  by_cases hlt:n < vs.length
  ·have hnl:n < l.length:=by have:=HLen.out;omega
   have hb:=H.out.2.2.fr hf
   have hsat:=(H.out.2.1.get n hnl hlt).below hb
   obtain ⟨t,q,hform⟩:=hsat.form
   obtain ⟨g,cap,hgv,hg,hcell⟩:=H.out.1.cell hlt
   cases hgv
   have hcr:wr.cell? ⟨g,n,none⟩=some (.iface t (.pointer (some ⟨q,0,none⟩))):=by rw[hb.cell (p:=⟨g,n,none⟩) hg,hcell,hform];rfl
   have hdrop:l.drop n=l[n]::l.drop (n+1):=List.drop_eq_getElem_cons hnl
   rw[hdrop,Px.lookP_cons] at he
   rw[hform] at hsat
   have HH:Hid (Fr c m w wr∧Px.lookP (l.drop (n+1)) (Px.lookX' l[n] K')=Px.lookP l K∧Px.V3 (Px.lookX' l[n] K')):=⟨hf,he,Px.lookX_v3 _ _ hv'⟩
   have hC:=HX.out n hnl K' wr t q hsat hk' hv'
   clear hf he hsat hcell hform hdrop hb hk'
   rcases hC with ⟨rfl,hC⟩ | ⟨rfl,hC⟩ | ⟨rfl,hC⟩ | ⟨rfl,hC⟩ | ⟨rfl,hC⟩ | ⟨rfl,hC⟩
   all_goals
    go_wp2_with fail
    refine hC.mono ?_
    rintro e w1 ⟨rfl,k1,f1⟩
    have L1:Hid (_∧_):=⟨k1,f1⟩
    clear k1 f1
    go_wp2_with fail
    exact ⟨⟨n+1,by omega,by go_num,HH.out.1.trans L1.out.2,_,L1.out.1,HH.out.2.2,HH.out.2.1⟩,by simp[intOf];omega⟩
  ·have hnl:l.drop n=[]:=List.drop_of_length_le (by have:=HLen.out;omega)
   rw[hnl,Px.lookP_nil] at he
   have HH:Hid (Fr c m w wr∧Ck wr c m B E (Px.lookP l K)):=⟨hf,by rw[← he];exact hk'⟩
   clear hf hk' he hnl
   go_wp2_with fail
   go_end0
   exact ⟨rfl,HH.out.2,HH.out.1⟩
open Go.RowKit
theorem fail_check (c m B q:Nat) (E:Nat→Addr) (K:Px.Lk) (w:World) (h:Ck w c m B E K) :
  Calls Tryz.prog 288 #[.pointer (some ⟨q,0,none⟩),.pointer (some ⟨c,0,none⟩)] w (SPost c m B E w K):=by
 have HH:Hid (Ck w c m B E K):=h
 clear h
 go_enter Tryz.func288,Tryz.ntmps288
 go_wp2_with fail
 go_end0
 exact ⟨rfl,HH.out,Fr.refl _ _ _⟩
theorem SlL.below {w w':World} {v:Value} {vs:List Value} {B:Nat} (h:SlL w v vs (· < B)) (k:Below B w w'):SlL w' v vs (· < B):=h.keep fun i hi=>k.block i hi
theorem LsAt.below {w w':World} {l:List Px.Sm} {vs:List Value} {B:Nat} (h:LsAt w l (· < B) vs) (k:Below B w w'):LsAt w' l (· < B) vs:=h.keep fun i hi=>k.block i hi
set_option maxRecDepth 100000 in
theorem try_check (c m B q:Nat) (E:Nat→Addr) (one two:List Px.Sm) (i1:BlockOk c m B E one) (i2:BlockOk c m B E two) (K:Px.Lk) (w:World) (v1 v2:Value) (u1 u2:List Value) (hq:q < B) (hc:w.heap[q]?=some (.cells #[v1,v2] 334)) (s1:SlL w v1 u1 (· < B)) (l1:LsAt w one (· < B) u1) (s2:SlL w v2 u2 (· < B)) (l2:LsAt w two (· < B) u2) (h:Ck w c m B E K) (hv:Px.V3 K) :
  Calls Tryz.prog 284 #[.pointer (some ⟨q,0,none⟩),.pointer (some ⟨c,0,none⟩)] w (SPost c m B E w (Px.lookP two (Px.lookP one K))):=by
 obtain ⟨a1,n1,k1,rfl⟩:=s1.form
 obtain ⟨a2,n2,k2,rfl⟩:=s2.form
 obtain ⟨c0,c1,fr⟩:=cells2 hc
 have CQ:Hid (∀ W,Fr c m w W→W.heap[q]?=some (.cells #[.slice a1 n1 k1,.slice a2 n2 k2] 334)):=fun W hW=>by rw[(h.fr hW).block q hq];exact hc
 have C1:Hid (Calls Tryz.prog 61 #[.pointer (some ⟨c,0,none⟩),.slice a1 n1 k1] w (SPost c m B E w (Px.lookP one K))):=i1 K w _ u1 s1 l1 h hv
 have C2:Hid (∀ W,Fr c m w W→Ck W c m B E (Px.lookP one K)→Calls Tryz.prog 61 #[.pointer (some ⟨c,0,none⟩),.slice a2 n2 k2] W (SPost c m B E W (Px.lookP two (Px.lookP one K)))):=fun W hW hK=>i2 _ W _ u2 (s2.below (h.fr hW)) (l2.below (h.fr hW)) hK (Px.lookP_v3 one K hv)
 clear i1 i2 s1 l1 s2 l2 h hc
 go_enter Tryz.func284,Tryz.ntmps284
 go_wp2_with fail
 refine C1.out.mono ?_
 rintro e w1 ⟨rfl,k1,f1⟩
 obtain ⟨d0,d1,fd⟩:=cells2 (CQ.out w1 f1)
 have K1:Hid (_∧_):=⟨k1,f1⟩
 clear c0 c1 fr k1 f1
 go_wp2_with fail
 refine (C2.out _ K1.out.2 K1.out.1).mono ?_
 rintro e w2 ⟨rfl,k2,f2⟩
 have K2:Hid (_∧_):=⟨k2,f2⟩
 clear k2 f2
 go_wp2_with fail
 go_end0
 exact ⟨rfl,K2.out.1,K1.out.2.trans K2.out.2⟩
set_option maxRecDepth 100000 in
theorem repeat_check (c m B q qn n nPl:Nat) (E:Nat→Addr) (one:List Px.Sm) (i1:BlockOk c m B E one) (K:Px.Lk) (w:World) (v1:Value) (u1:List Value) (hq:q < B) (hc:w.heap[q]?=some (.cells #[Ref.ptr qn,v1] 300)) (hn:NumAt w n nPl (· < B) qn) (s1:SlL w v1 u1 (· < B)) (l1:LsAt w one (· < B) u1) (h:Ck w c m B E K) (hv:Px.V3 K) :
  Calls Tryz.prog 286 #[.pointer (some ⟨q,0,none⟩),.pointer (some ⟨c,0,none⟩)] w (SPost c m B E w (Px.lookP one (Px.countP n nPl 0 9 K))):=by
 obtain ⟨a1,n1,k1,rfl⟩:=s1.form
 unfold Ref.ptr at hc
 obtain ⟨c0,c1,fr⟩:=cells2 hc
 have CQ:Hid (∀ W,Fr c m w W→W.heap[q]?=some (.cells #[.pointer (some ⟨qn,0,none⟩),.slice a1 n1 k1] 300)):=fun W hW=>by rw[(h.fr hW).block q hq];exact hc
 have HH:Hid (Ck w c m B E K∧NumAt w n nPl (· < B) qn):=⟨h,hn⟩
 have C2:Hid (∀ W,Fr c m w W→Ck W c m B E (Px.countP n nPl 0 9 K)→Calls Tryz.prog 61 #[.pointer (some ⟨c,0,none⟩),.slice a1 n1 k1] W (SPost c m B E W (Px.lookP one (Px.countP n nPl 0 9 K)))):=fun W hW hK=>i1 _ W _ u1 (s1.below (h.fr hW)) (l1.below (h.fr hW)) hK (Px.countP_v3 hv _ _ _ _)
 clear i1 s1 l1 h hc hn
 go_enter Tryz.func286,Tryz.ntmps286
 go_wp2_with fail
 refine (count_any c m B qn n nPl 0 9 E K _ HH.out.1 HH.out.2).mono ?_
 rintro e w1 ⟨rfl,k1,f1⟩
 obtain ⟨d0,d1,fd⟩:=cells2 (CQ.out w1 f1)
 have K1:Hid (_∧_):=⟨k1,f1⟩
 clear c0 c1 fr k1 f1
 go_wp2_with fail
 refine (C2.out _ K1.out.2 K1.out.1).mono ?_
 rintro e w2 ⟨rfl,k2,f2⟩
 have K2:Hid (_∧_):=⟨k2,f2⟩
 clear k2 f2
 go_wp2_with fail
 go_end0
 exact ⟨rfl,K2.out.1,K1.out.2.trans K2.out.2⟩
open Go.RowKit
set_option maxRecDepth 100000 in
set_option maxHeartbeats 4000000 in
theorem chkRoot_any (c m B:Nat) (E:Nat→Addr) (l:Px.Ex) (ih:KindOk c m B E l) (k:Nat) (hk:Px.K3 k) (K:Px.Lk) (w:World) (q:Nat) (hr:RootAt w l (· < B) q) (h:Ck w c m B E K) (hv:Px.V3 K) :
  Calls Tryz.prog 265 #[.pointer (some ⟨c,0,none⟩),.pointer (some ⟨q,0,none⟩),.int .i64 (kk k:Int)] w fun r w'=>r=.returned (.tuple #[])∧Ck w' c m B E (Px.rootP l k K)∧Fr c m w w':=by
 obtain ⟨hq,tl,ql,hc,hx⟩:=hr
 have hk3:=Px.kindP_k3 l K hv
 have CALL:Hid (∀ W,W=w.drew∨W=w→KindC W c tl ql (KPost c m B E W (Px.kindP l K))):=fun W hW=>by
  rcases hW with rfl | rfl
  ·exact ih K _ tl ql hx.drew h.drew hv
  ·exact ih K _ tl ql hx h hv
 have CQ:Hid (∀ W,Below B w W→W.heap[q]?=some (.cells #[.iface tl (Ref.ptr ql),.int .i64 (l.pl:Int)] 329)):=fun W hW=>by rw[hW.block q hq];exact hc
 have ht:=hx.ty
 unfold Ref.ptr at hc
 obtain ⟨c0,c1,fr⟩:=cells2 hc
 have HH:Hid (Ck w c m B E K):=h
 clear ih hx h hc
 unfold Ty5 at ht
 have hm1:=mNum
 have hm2:=mVar
 have hm3:=mTru
 have hm4:=mNot
 have hm5:=mPair
 rcases ht with rfl | rfl | rfl | rfl | rfl
 all_goals
  go_enter Tryz.func265,Tryz.ntmps265
  go_wp2_with fail
  first
   | refine (CALL.out w (Or.inr rfl)).num.mono ?_
   | refine (CALL.out w (Or.inr rfl)).var.mono ?_
   | refine (CALL.out w (Or.inr rfl)).tru.mono ?_
   | refine (CALL.out w (Or.inr rfl)).nots.mono ?_
   | refine (CALL.out w (Or.inr rfl)).pair.mono ?_
  rintro e w1 ⟨rfl,k1,b1⟩
  have hc1:=CQ.out w1 (HH.out.fr b1)
  unfold Ref.ptr at hc1
  obtain ⟨e0,e1,fe⟩:=cells2 hc1
  have g6:=k1.g.y
  have K1:Hid (Ck w1 c m B E (Px.kindP l K).2∧Fr c m w w1):=⟨k1,b1⟩
  clear c0 c1 fr k1 b1 hc1
  cases hfit:Px.fitsP (Px.kindP l K).1 k
  ·go_wp2_with fail
   refine (fits_any _ k hk3 hk _).mono ?_
   rintro r w2 ⟨rfl,rfl⟩
   rw[hfit]
   go_wp2_with fail
   go_region_with (go_at_call 259;refine (note_any c m B E 6 l.pl (by decide) _ _ K1.out.1.drew).mono ?_;rintro r w2 ⟨rfl,h3,h4⟩)
   all_goals
    go_wp2_with fail
    go_end0
    refine ⟨rfl,?_,K1.out.2.drew.trans h4⟩
    unfold Px.rootP
    rw[if_neg (by simp[hfit])]
    exact h3
  ·go_wp2_with fail
   refine (fits_any _ k hk3 hk _).mono ?_
   rintro r w2 ⟨rfl,rfl⟩
   rw[hfit]
   go_wp2_with fail
   go_end0
   refine ⟨rfl,?_,K1.out.2⟩
   unfold Px.rootP
   rw[if_pos hfit]
   exact K1.out.1
open Go.RowKit
theorem cells3' {w:World} {k:Nat} {a b c:Value} {t:TypeId} (hh:w.heap[k]?=some (.cells #[a,b,c] t)) :
  w.cell? ⟨k,0,none⟩=some a∧w.cell? ⟨k,1,none⟩=some b∧w.cell? ⟨k,2,none⟩=some c∧∀ o,w.frozen? ⟨k,o,none⟩=false:=by
 refine ⟨?_,?_,?_,?_⟩<;>simp[World.cell?,World.frozen?,hh]
set_option maxRecDepth 100000 in
theorem if_check (c m B q qr:Nat) (E:Nat→Addr) (e:Px.Ex) (ie:KindOk c m B E e) (one two:List Px.Sm) (i1:BlockOk c m B E one) (i2:BlockOk c m B E two) (K:Px.Lk) (w:World) (v1 v2:Value) (u1 u2:List Value) (hq:q < B) (hc:w.heap[q]?=some (.cells #[Ref.ptr qr,v1,v2] 331)) (hr:RootAt w e (· < B) qr) (s1:SlL w v1 u1 (· < B)) (l1:LsAt w one (· < B) u1) (s2:SlL w v2 u2 (· < B)) (l2:LsAt w two (· < B) u2) (h:Ck w c m B E K) (hv:Px.V3 K) :
  Calls Tryz.prog 282 #[.pointer (some ⟨q,0,none⟩),.pointer (some ⟨c,0,none⟩)] w (SPost c m B E w (Px.lookP two (Px.lookP one (Px.rootP e 98 K)))):=by
 obtain ⟨a1,n1,k1,rfl⟩:=s1.form
 obtain ⟨a2,n2,k2,rfl⟩:=s2.form
 unfold Ref.ptr at hc
 obtain ⟨c0,c1,c2,fr⟩:=cells3' hc
 have CQ:Hid (∀ W,Fr c m w W→W.heap[q]?=some (.cells #[.pointer (some ⟨qr,0,none⟩),.slice a1 n1 k1,.slice a2 n2 k2] 331)):=fun W hW=>by rw[(h.fr hW).block q hq];exact hc
 have C0:Hid (Calls Tryz.prog 265 #[.pointer (some ⟨c,0,none⟩),.pointer (some ⟨qr,0,none⟩),.int .i64 2] w (SPost c m B E w (Px.rootP e 98 K))):=chkRoot_any c m B E e ie 98 (Or.inr (Or.inl rfl)) K w qr hr h hv
 have C1:Hid (∀ W,Fr c m w W→Ck W c m B E (Px.rootP e 98 K)→Calls Tryz.prog 61 #[.pointer (some ⟨c,0,none⟩),.slice a1 n1 k1] W (SPost c m B E W (Px.lookP one (Px.rootP e 98 K)))):=fun W hW hK=>i1 _ W _ u1 (s1.below (h.fr hW)) (l1.below (h.fr hW)) hK (Px.rootP_v3 hv e 98)
 have C2:Hid (∀ W,Fr c m w W→Ck W c m B E (Px.lookP one (Px.rootP e 98 K))→Calls Tryz.prog 61 #[.pointer (some ⟨c,0,none⟩),.slice a2 n2 k2] W (SPost c m B E W (Px.lookP two (Px.lookP one (Px.rootP e 98 K))))):=fun W hW hK=>i2 _ W _ u2 (s2.below (h.fr hW)) (l2.below (h.fr hW)) hK (Px.lookP_v3 one _ (Px.rootP_v3 hv e 98))
 clear ie i1 i2 s1 l1 s2 l2 h hc hr
 go_enter Tryz.func282,Tryz.ntmps282
 go_wp2_with fail
 refine C0.out.mono ?_
 rintro r w1 ⟨rfl,k1,f1⟩
 obtain ⟨d0,d1,d2,fd⟩:=cells3' (CQ.out w1 f1)
 have K1:Hid (_∧_):=⟨k1,f1⟩
 clear c0 c1 c2 fr k1 f1
 go_wp2_with fail
 refine (C1.out _ K1.out.2 K1.out.1).mono ?_
 rintro r w2 ⟨rfl,k2,f2⟩
 obtain ⟨j0,j1,j2,fj⟩:=cells3' (CQ.out w2 (K1.out.2.trans f2))
 have K2:Hid (_∧_):=⟨k2,f2⟩
 clear d0 d1 d2 fd k2 f2
 go_wp2_with fail
 refine (C2.out _ (K1.out.2.trans K2.out.2) K2.out.1).mono ?_
 rintro r w3 ⟨rfl,k3,f3⟩
 have K3:Hid (_∧_):=⟨k3,f3⟩
 clear k3 f3
 go_wp2_with fail
 go_end0
 exact ⟨rfl,K3.out.1,(K1.out.2.trans K2.out.2).trans K3.out.2⟩
open Go.RowKit
theorem NumAt.below {w w':World} {n a q B:Nat} (h:NumAt w n a (· < B) q) (k:Below B w w'):NumAt w' n a (· < B) q:=h.keep fun i hi=>k.block i hi
theorem VarAt.below {w w':World} {x:ByteArray} {a q B:Nat} (h:VarAt w x a (· < B) q) (k:Below B w w'):VarAt w' x a (· < B) q:=h.keep fun i hi=>k.block i hi
def CNode (w:World) (q:Nat) (word undo:ByteArray) (pa ps:Option Addr) (qn:Nat):Prop:=w.heap[q]?=some (.cells #[.string word,.pointer pa,.pointer ps,.string undo,.pointer (some ⟨qn,0,none⟩)] 327)
theorem CNode.cells {w:World} {q:Nat} {word undo:ByteArray} {pa ps:Option Addr} {qn:Nat} (h:CNode w q word undo pa ps qn):w.cell? ⟨q,1,none⟩=some (.pointer pa)∧w.cell? ⟨q,2,none⟩=some (.pointer ps)∧w.cell? ⟨q,4,none⟩=some (.pointer (some ⟨qn,0,none⟩))∧∀ o,w.frozen? ⟨q,o,none⟩=false:=by
 unfold CNode at h
 refine ⟨?_,?_,?_,?_⟩<;>simp[World.cell?,World.frozen?,h]
set_option maxRecDepth 100000 in
set_option maxHeartbeats 4000000 in
theorem call_check (c m B q qn n nPl asPl:Nat) (word undo asw:ByteArray) (pa ps:Option Addr) (E:Nat→Addr) (ex:Option Px.Ex) (ie:∀ e,ex=some e→KindOk c m B E e) (K:Px.Lk) (w:World) (hq:q < B) (hc:w.heap[q]?=some (.cells #[.string word,.pointer pa,.pointer ps,.string undo,Ref.ptr qn] 327)) (ha:ArgAt w ex (· < B) (.pointer pa)) (hs:AsAt w asw asPl (· < B) (.pointer ps)) (hn:NumAt w n nPl (· < B) qn) (h:Ck w c m B E K) (hv:Px.V3 K) :
  Calls Tryz.prog 263 #[.pointer (some ⟨q,0,none⟩),.pointer (some ⟨c,0,none⟩)] w (SPost c m B E w (Px.countP n nPl 1 5 (Px.asP asw asPl (Px.argP ex K)))):=by
 have hc':CNode w q word undo pa ps qn:=hc
 have CQ:Hid (∀ W,Fr c m w W→CNode W q word undo pa ps qn):=fun W hW=>by unfold CNode;rw[(h.fr hW).block q hq];exact hc'
 obtain ⟨c1,c2,c4,fr⟩:=hc'.cells
 have C2:Hid (∀ W,Fr c m w W→Ck W c m B E (Px.asP asw asPl (Px.argP ex K))→Calls Tryz.prog 266 #[.pointer (some ⟨c,0,none⟩),.pointer (some ⟨qn,0,none⟩),.int .i64 1,.int .i64 5] W (SPost c m B E W (Px.countP n nPl 1 5 (Px.asP asw asPl (Px.argP ex K))))):=fun W hW hK=>count_any c m B qn n nPl 1 5 E _ W hK (hn.below (h.fr hW))
 have HH:Hid (Ck w c m B E K):=h
 have CA:Hid ((ex=none∧pa=none∧Px.argP ex K=K)∨∃ qa,pa=some ⟨qa,0,none⟩∧Calls Tryz.prog 265 #[.pointer (some ⟨c,0,none⟩),.pointer (some ⟨qa,0,none⟩),.int .i64 1] w (SPost c m B E w (Px.argP ex K))):=by
  cases ex with
  | none =>
   have:Value.pointer pa=.pointer none:=ha
   cases this
   exact Or.inl ⟨rfl,rfl,rfl⟩
  | some e =>
   obtain ⟨qa,h1,h2⟩:=ha
   cases h1
   exact Or.inr ⟨qa,rfl,chkRoot_any c m B E e (ie e rfl) 105 (Or.inl rfl) K w qa h2 h hv⟩
 have CB:Hid ((ps=none∧Px.asP asw asPl (Px.argP ex K)=Px.argP ex K)∨∃ qs,ps=some ⟨qs,0,none⟩∧∀ W,Fr c m w W→Ck W c m B E (Px.argP ex K)→Calls Tryz.prog 256 #[.pointer (some ⟨c,0,none⟩),.pointer (some ⟨qs,0,none⟩),.int .i64 1] W (SPost c m B E W (Px.asP asw asPl (Px.argP ex K)))):=by
  rcases hs with ⟨h1,h2⟩ | ⟨h1,qs,h2,h3⟩
  ·cases h2
   exact Or.inl ⟨rfl,by unfold Px.asP;rw[if_pos h1]⟩
  ·cases h2
   refine Or.inr ⟨qs,rfl,fun W hW hK=>?_⟩
   unfold Px.asP
   rw[if_neg (by omega)]
   exact give_any c m B qs asPl 105 asw E _ W hK (h3.below (h.fr hW)) (Or.inl rfl) (Px.argP_v3 hv ex)
 clear ie ha hs hn h hc hc'
 generalize Px.argP ex K=K1 at *
 generalize Px.asP asw asPl K1=K2 at *
 rcases CA.out with ⟨rfl,rfl,rfl⟩ | ⟨qa,rfl,ca⟩
 ·rcases CB.out with ⟨rfl,rfl⟩ | ⟨qs,rfl,cb⟩
  ·clear CA CB
   go_enter Tryz.func263,Tryz.ntmps263
   go_wp2_with fail
   refine (C2.out _ (Fr.refl _ _ _) HH.out).mono ?_
   rintro r w1 ⟨rfl,k1,f1⟩
   go_wp2_with fail
   go_end0
   exact ⟨rfl,k1,f1⟩
  ·have CB':Hid (_):=cb
   clear CA CB cb
   go_enter Tryz.func263,Tryz.ntmps263
   go_wp2_with fail
   refine (CB'.out _ (Fr.refl _ _ _) HH.out).mono ?_
   rintro r w1 ⟨rfl,k1,f1⟩
   obtain ⟨d1,d2,d4,fd⟩:=(CQ.out w1 f1).cells
   have L1:Hid (_∧_):=⟨k1,f1⟩
   clear c1 c2 c4 fr k1 f1
   go_wp2_with fail
   refine (C2.out _ L1.out.2 L1.out.1).mono ?_
   rintro r w2 ⟨rfl,k2,f2⟩
   go_wp2_with fail
   go_end0
   exact ⟨rfl,k2,L1.out.2.trans f2⟩
 ·rcases CB.out with ⟨rfl,rfl⟩ | ⟨qs,rfl,cb⟩
  ·clear CA CB
   go_enter Tryz.func263,Tryz.ntmps263
   go_wp2_with fail
   refine ca.mono ?_
   rintro r w1 ⟨rfl,k1,f1⟩
   obtain ⟨d1,d2,d4,fd⟩:=(CQ.out w1 f1).cells
   have L1:Hid (_∧_):=⟨k1,f1⟩
   clear c1 c2 c4 fr k1 f1 ca
   go_wp2_with fail
   refine (C2.out _ L1.out.2 L1.out.1).mono ?_
   rintro r w2 ⟨rfl,k2,f2⟩
   go_wp2_with fail
   go_end0
   exact ⟨rfl,k2,L1.out.2.trans f2⟩
  ·have CB':Hid (_):=cb
   clear CA CB cb
   go_enter Tryz.func263,Tryz.ntmps263
   go_wp2_with fail
   refine ca.mono ?_
   rintro r w1 ⟨rfl,k1,f1⟩
   obtain ⟨d1,d2,d4,fd⟩:=(CQ.out w1 f1).cells
   have L1:Hid (_∧_):=⟨k1,f1⟩
   clear c1 c2 c4 fr k1 f1 ca
   go_wp2_with fail
   refine (CB'.out _ L1.out.2 L1.out.1).mono ?_
   rintro r w2 ⟨rfl,k2,f2⟩
   obtain ⟨j1,j2,j4,fj⟩:=(CQ.out w2 (L1.out.2.trans f2)).cells
   have L2:Hid (_∧_):=⟨k2,f2⟩
   clear d1 d2 d4 fd k2 f2
   go_wp2_with fail
   refine (C2.out _ (L1.out.2.trans L2.out.2) L2.out.1).mono ?_
   rintro r w3 ⟨rfl,k3,f3⟩
   go_wp2_with fail
   go_end0
   exact ⟨rfl,k3,(L1.out.2.trans L2.out.2).trans f3⟩
open Go.RowKit
def CbPost (B:Nat) (E:Nat→Addr) (w:World) (K:Px.Lk) (e:Ending) (w':World):Prop :=
 Below B w w'∧∃ er,e=.returned er∧((K.e=0∧er=.nilIface)∨(K.e≠0∧∃ f,er=.iface 87 (.pointer (some ⟨f,0,none⟩))∧FltAt w' f K.pl (E K.e)))
theorem makeKinds (w:World):(Instr.makeMap 153 none).run Tryz.prog w=.ok (.map (some w.heap.size)) (w.alloc (.map #[] 0)):=rfl
def cbW (w:World):World:=(w.alloc (.map #[] 0)).alloc (.cells #[.map (some w.heap.size),.pointer none] 155)
theorem cbW_below (w:World):Below w.heap.size w (cbW w):=((Below.refl _ _).alloc (Nat.le_refl _) _).alloc (by simp) _
theorem cbW_ck {w:World} {E:Nat→Addr} (g:Gc w w.heap.size E):Ck (cbW w) (w.heap.size+1) w.heap.size w.heap.size E ⟨[],0,0⟩:=by
 refine ⟨g.below (cbW_below w),by omega,none,?_,Nat.le_refl _,by omega,⟨#[],0,?_,rfl⟩,Or.inl ⟨rfl,rfl⟩⟩
 ·exact new2
 ·show ((w.alloc _).alloc _).heap[w.heap.size]?=_
  rw[Below.heap_alloc _ _ _ (by simp)]
  exact new1
set_option maxRecDepth 100000 in
theorem checkBlock_any (E:Nat→Addr) (l:List Px.Sm) (w:World) (hl:∀ c m,BlockOk c m w.heap.size E l) (v:Value) (vs:List Value) (hs:SlL w v vs (· < w.heap.size)) (hm:LsAt w l (· < w.heap.size) vs) (g:Gc w w.heap.size E) :
  Calls Tryz.prog 38 #[v] w (CbPost w.heap.size E w (Px.lookP l ⟨[],0,0⟩)):=by
 obtain ⟨a1,n1,k1,rfl⟩:=hs.form
 have mk:=makeKinds
 have HB:Hid (Calls Tryz.prog 61 #[.pointer (some ⟨w.heap.size+1,0,none⟩),.slice a1 n1 k1] (cbW w) (SPost (w.heap.size+1) w.heap.size w.heap.size E (cbW w) (Px.lookP l ⟨[],0,0⟩))) :=
  hl _ _ _ _ _ vs (hs.below (cbW_below w)) (hm.below (cbW_below w)) (cbW_ck g) (fun v hv=>by cases hv)
 have HC:Hid (Ck (cbW w) (w.heap.size+1) w.heap.size w.heap.size E ⟨[],0,0⟩):=cbW_ck g
 clear hl hs hm g
 go_enter Tryz.func38,Tryz.ntmps38
 go_wp2_with fail
 refine HB.out.mono ?_
 rintro r w1 ⟨rfl,k1,f1⟩
 generalize Px.lookP l ⟨[],0,0⟩=K at *
 have hb:Hid (Below w.heap.size w w1):=(cbW_below w).trans (HC.out.fr f1)
 obtain ⟨pf,h1,h2,h3,h4,h5⟩:=k1.ex
 obtain ⟨c0,c1,fr⟩:=cells2 h1
 clear k1 f1 h1 h2 h3 h4
 rcases h5 with ⟨h5,rfl⟩ | ⟨h5,f,rfl,h6,h7,h8,h9⟩
 ·go_wp2_with fail
  go_ret
  exact ⟨hb.out,_,rfl,Or.inl ⟨h5,rfl⟩⟩
 ·have HF:Hid (_):=h9
  clear h9
  go_wp2_with fail
  go_ret
  exact ⟨hb.out,_,rfl,Or.inr ⟨h5,f,rfl,HF.out⟩⟩
open Go.RowKit Go.Extern.Stop Go.Stop Go.Extern
theorem isTypeOf (v:Value) (w:World):(Extern.ReflectliteType.typeOf #[.iface 357 v]).run Tryz.prog w=.ok (.iface 232 (.agg #[.pointer (some ⟨20,357,none⟩)])) w:=by kernel_rfl
theorem isComparable (w:World):((Extern.ReflectliteType.method fun t=>do Extern.Rtype.noPackHeld "Comparable" t;Functor.map (fun a=>Value.bool a.comparable) (typeInfo t)) #[.agg #[.pointer (some ⟨20,357,none⟩)]]).run Tryz.prog w=.ok (.bool true) w:=by kernel_rfl
theorem isMethodComparable (v:Value) (w:World):(Go.method 514 232 v "Comparable").run Tryz.prog w=.ok (245,v) w:=by kernel_rfl
theorem isComp:(Tryz.prog.info? 357).map (·.comparable)=some true:=by kernel_rfl
theorem isSize:(Tryz.prog.info? 402).map (·.size)=some 1:=by kernel_rfl
theorem noIsE (v:Value) (xT:TypeId) (w:World):(Instr.typeAssert (.iface 357 v) xT 303 true).run Tryz.prog w=.ok (.tuple #[.nilIface,.bool false]) w:=run_typeAssert_lacksB Tryz.underlying303 (by kernel_rfl) (by kernel_rfl) v xT w
theorem noUnwrapE (v:Value) (xT:TypeId) (w:World):(Instr.typeAssert (.iface 357 v) xT 240 true).run Tryz.prog w=.ok (.tuple #[.nilIface,.bool false]) w:=run_typeAssert_lacksB Tryz.underlying240 (by kernel_rfl) (by kernel_rfl) v xT w
theorem noUnwrapsE (v:Value) (xT:TypeId) (w:World):(Instr.typeAssert (.iface 357 v) xT 241 true).run Tryz.prog w=.ok (.tuple #[.nilIface,.bool false]) w:=run_typeAssert_lacksB Tryz.underlying241 (by kernel_rfl) (by kernel_rfl) v xT w
theorem noIsF (v:Value) (xT:TypeId) (w:World):(Instr.typeAssert (.iface 87 v) xT 303 true).run Tryz.prog w=.ok (.tuple #[.nilIface,.bool false]) w:=run_typeAssert_lacksB Tryz.underlying303 (by kernel_rfl) (by kernel_rfl) v xT w
theorem hasUnwrapF (v:Value) (xT:TypeId) (w:World):(Instr.typeAssert (.iface 87 v) xT 240 true).run Tryz.prog w=.ok (.tuple #[.iface 87 v,.bool true]) w:=run_typeAssert_hasB Tryz.underlying240 (by kernel_rfl) v xT w
theorem methodUnwrap (v:Value) (w:World):(Go.method 514 87 v "Unwrap").run Tryz.prog w=.ok (235,v) w:=by kernel_rfl
set_option maxRecDepth 100000 in
theorem is_same (a:Addr) (w:World) :
  Calls Tryz.prog 66 #[.iface 357 (.pointer (some a)),.iface 357 (.pointer (some a))] w fun e w'=>e=.returned (.bool true)∧w'=w:=by
 obtain ⟨i,hi,hcmp⟩:=Option.map_eq_some_iff.1 isComp
 obtain ⟨j,hj,hjs⟩:=Option.map_eq_some_iff.1 isSize
 have h8:=@run_callFunc_extern Tryz.prog 119 _ Extern.ReflectliteType.typeOf Tryz.func119 (by kernel_rfl) (by kernel_rfl) (by kernel_rfl) (by kernel_rfl)
 have h32:=@run_callFunc_extern Tryz.prog 245 _ (Extern.ReflectliteType.method fun t=>do Extern.Rtype.noPackHeld "Comparable" t;pure (.bool (← typeInfo t).comparable)) Tryz.func245 (by kernel_rfl) (by kernel_rfl) (by kernel_rfl) (by kernel_rfl)
 have tT:=isTypeOf
 have cT:=isComparable
 have mR:=isMethodComparable
 have heq:=run_eql_iface_ptr_same (P:=Tryz.prog) w a Tryz.underlying56 Tryz.underlying357 hi hcmp hj
 go_enter Tryz.func66,Tryz.ntmps66
 go_wp2
 refine wp_loop_rounds 1 ?_
 rw[rounds_succ]
 go_wp2
 go_ret
 exact ⟨rfl,rfl⟩
set_option maxRecDepth 100000 in
theorem is_fault_same (f:Nat) (b:Addr) (w:World) (h1:w.cell? ⟨f,1,none⟩=some (.iface 357 (.pointer (some b)))) :
  Calls Tryz.prog 66 #[.iface 87 (.pointer (some ⟨f,0,none⟩)),.iface 357 (.pointer (some b))] w fun e w'=>e=.returned (.bool true)∧w'=w:=by
 obtain ⟨i,hi,hcmp⟩:=Option.map_eq_some_iff.1 isComp
 obtain ⟨j,hj,hjs⟩:=Option.map_eq_some_iff.1 isSize
 have h8:=@run_callFunc_extern Tryz.prog 119 _ Extern.ReflectliteType.typeOf Tryz.func119 (by kernel_rfl) (by kernel_rfl) (by kernel_rfl) (by kernel_rfl)
 have h32:=@run_callFunc_extern Tryz.prog 245 _ (Extern.ReflectliteType.method fun t=>do Extern.Rtype.noPackHeld "Comparable" t;pure (.bool (← typeInfo t).comparable)) Tryz.func245 (by kernel_rfl) (by kernel_rfl) (by kernel_rfl) (by kernel_rfl)
 have tT:=isTypeOf
 have cT:=isComparable
 have mR:=isMethodComparable
 have nE:=noIsE
 have uE:=noUnwrapE
 have vE:=noUnwrapsE
 have nW:=noIsF
 have uW:=hasUnwrapF
 have mU:=methodUnwrap
 have heq:=run_eql_iface_ptr_same (P:=Tryz.prog) w b Tryz.underlying56 Tryz.underlying357 hi hcmp hj
 have hty:=run_eql_iface_types (P:=Tryz.prog) 87 357 (.pointer (some ⟨f,0,none⟩)) (.pointer (some b)) Tryz.underlying56 (by decide) w
 go_enter Tryz.func66,Tryz.ntmps66
 go_wp2
 refine wp_loop_rounds 2 ?_
 rw[rounds_succ]
 go_wp2
 rw[rounds_succ]
 go_wp2
 go_ret
 exact ⟨rfl,rfl⟩
set_option maxRecDepth 100000 in
theorem is_fault_other (f:Nat) (b a:Addr) (ca cb:Array Value) (ta tb:TypeId) (w:World) (h1:w.cell? ⟨f,1,none⟩=some (.iface 357 (.pointer (some a)))) (hne:a≠b) (ha:w.heap[a.block]?=some (.cells ca ta (0,0))) (hb:w.heap[b.block]?=some (.cells cb tb (0,0))) :
  Calls Tryz.prog 66 #[.iface 87 (.pointer (some ⟨f,0,none⟩)),.iface 357 (.pointer (some b))] w fun e w'=>e=.returned (.bool false)∧w'=w:=by
 obtain ⟨i,hi,hcmp⟩:=Option.map_eq_some_iff.1 isComp
 obtain ⟨j,hj,hjs⟩:=Option.map_eq_some_iff.1 isSize
 have h8:=@run_callFunc_extern Tryz.prog 119 _ Extern.ReflectliteType.typeOf Tryz.func119 (by kernel_rfl) (by kernel_rfl) (by kernel_rfl) (by kernel_rfl)
 have h32:=@run_callFunc_extern Tryz.prog 245 _ (Extern.ReflectliteType.method fun t=>do Extern.Rtype.noPackHeld "Comparable" t;pure (.bool (← typeInfo t).comparable)) Tryz.func245 (by kernel_rfl) (by kernel_rfl) (by kernel_rfl) (by kernel_rfl)
 have tT:=isTypeOf
 have cT:=isComparable
 have mR:=isMethodComparable
 have nE:=noIsE
 have uE:=noUnwrapE
 have vE:=noUnwrapsE
 have nW:=noIsF
 have uW:=hasUnwrapF
 have mU:=methodUnwrap
 have heq:=run_eql_iface_ptr_other (P:=Tryz.prog) w Tryz.underlying56 Tryz.underlying357 hi hcmp hj (by rw[hjs];decide) hne ha hb
 have hty:=run_eql_iface_types (P:=Tryz.prog) 87 357 (.pointer (some ⟨f,0,none⟩)) (.pointer (some b)) Tryz.underlying56 (by decide) w
 go_enter Tryz.func66,Tryz.ntmps66
 go_wp2
 refine wp_loop_rounds 2 ?_
 rw[rounds_succ]
 go_wp2
 rw[rounds_succ]
 go_wp2
 go_ret
 exact ⟨rfl,rfl⟩
end Lg
end Go.Proofs.YtnhkpbmplefnaaaGreatDoor
