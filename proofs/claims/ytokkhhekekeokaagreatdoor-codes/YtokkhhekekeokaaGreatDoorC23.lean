import Derived.Test.YtokkhhekekeokaaGreatDoorC21
import Derived.Test.YtokkhhekekeokaaGreatDoorC18
set_option maxRecDepth 100000
set_option maxHeartbeats 4000000
namespace Go.Proofs.YtokkhhekekeokaaGreatDoor
open Go.RowKit Tryz
namespace Lg
open Px
def sG (c m B:Nat)(E:Nat->Addr)(w:fu)(K:Px.Lk)(e:Ending)(w':fu):Prop:=e=.returned (.tuple #[])/\Ck w' c m B E K/\Fr c m w w'
def zyn (w:fu)(c tl ql:Nat)(Q:Ending->fu->Prop):Prop :=
 (tl=226/\Calls prog 229 #[.pointer (some ⟨ql,0,none⟩),.pointer (some ⟨c,0,none⟩)] w Q) \/
 (tl=237/\Calls prog 236 #[.pointer (some ⟨ql,0,none⟩),.pointer (some ⟨c,0,none⟩)] w Q) \/
 (tl=239/\Calls prog 240 #[.pointer (some ⟨ql,0,none⟩),.pointer (some ⟨c,0,none⟩)] w Q) \/
 (tl=241/\Calls prog 242 #[.pointer (some ⟨ql,0,none⟩),.pointer (some ⟨c,0,none⟩)] w Q) \/
 (tl=243/\Calls prog 244 #[.pointer (some ⟨ql,0,none⟩),.pointer (some ⟨c,0,none⟩)] w Q) \/
 (tl=245/\Calls prog 246 #[.pointer (some ⟨ql,0,none⟩),.pointer (some ⟨c,0,none⟩)] w Q)
def Nr (c m B:Nat)(E:Nat->Addr)(x:Sm):Prop:=∀ (K:Px.Lk) (w:fu) (tl ql:Nat),nS w x (· < B) (.iface tl (Ref.ptr ql))->Ck w c m B E K->V3 K->zyn w c tl ql (sG c m B E w (qV x K))
def xE (c m B:Nat)(E:Nat->Addr)(l:List Sm):Prop:=∀ (K:Px.Lk) (w:fu) (v:fC) (vs:List fC),kg w v vs (· < B)->gF w l (· < B) vs->Ck w c m B E K->V3 K ->
 Calls prog 43 #[.pointer (some ⟨c,0,none⟩),v] w (sG c m B E w (jO l K))
theorem Rq (a:Addr)(w:fu):(method 479 226 (.pointer (some a)) "errand/lang.check").run prog w=.ok (229,.pointer (some a)) w:=by kernel_rfl
theorem Jo (a:Addr)(w:fu):(method 479 237 (.pointer (some a)) "errand/lang.check").run prog w=.ok (236,.pointer (some a)) w:=by kernel_rfl
theorem sIf (a:Addr)(w:fu):(method 479 239 (.pointer (some a)) "errand/lang.check").run prog w=.ok (240,.pointer (some a)) w:=by kernel_rfl
theorem Rt (a:Addr)(w:fu):(method 479 241 (.pointer (some a)) "errand/lang.check").run prog w=.ok (242,.pointer (some a)) w:=by kernel_rfl
theorem zr1 (a:Addr)(w:fu):(method 479 243 (.pointer (some a)) "errand/lang.check").run prog w=.ok (244,.pointer (some a)) w:=by kernel_rfl
theorem Jp (a:Addr)(w:fu):(method 479 245 (.pointer (some a)) "errand/lang.check").run prog w=.ok (246,.pointer (some a)) w:=by kernel_rfl
variable {w w':fu}{v:fC}{vs:List fC}{ok:Nat->Prop}
theorem kg.len (h:kg w v vs ok):∃ a cap,v=.slice a vs.length cap/\vs.length<=maxLen:=by
 rcases h with ⟨h1,h2⟩ | ⟨g,cap,cur,h1,h2,h3,h4,h5,h6,h7⟩
 ·subst h2;exact ⟨none,0,h1,by simp⟩
 ·exact ⟨_,cap,h1,by omega⟩
theorem kg.cell {w:fu}{v:fC}{vs:List fC}{ok:Nat->Prop}(h:kg w v vs ok){n:Nat}(hn:n < vs.length):∃ g cap,v=.slice (some ⟨g,0,none⟩) vs.length cap/\ok g/\w.cell? ⟨g,n,none⟩=some vs[n]:=by
 rcases h with ⟨h1,h2⟩ | ⟨g,cap,cur,h1,h2,h3,h4,h5,h6,h7⟩
 ·subst h2;simp at hn
 ·refine ⟨g,cap,h1,h2,?_⟩
  have:cur[n]?=some vs[n]:=by
   have h8:(cur.toList.take vs.length)[n]?=some vs[n]:=by rw[h7];exact bD hn
   rw[bC hn] at h8
   simpa using h8
  simp[World.cell?,h3,this]
variable {l:List Sm}
theorem gF.len (h:gF w l ok vs):vs.length=l.length:=by
 induction l generalizing vs with
 | nil=>simp[gF.nQ.1 h]
 | cons x l ih =>
  obtain ⟨v,vs',rfl,h1,h2⟩:=gF.sW.1 h;simp[ih h1]
theorem gF.get (h:gF w l ok vs)(n:Nat)(hn:n < l.length)(hm:n < vs.length):nS w l[n] ok vs[n]:=by
 induction l generalizing vs n with
 | nil=>simp at hn
 | cons x l ih =>
  obtain ⟨v,vs',rfl,h1,h2⟩:=gF.sW.1 h;cases n with
  | zero=>exact h2
  | succ n=>exact ih h1 n (by simpa using hn) (by simpa using hm)
variable {B a q:Nat}
theorem nS.below {x:Sm}(h:nS w x (· < B) v)(k:Below B w w'):nS w' x (· < B) v:=h.keep fun i hi=>k.block i hi
theorem Ru (c m B:Nat)(E:Nat->Addr)(l:List Sm)(hx:∀ i (hi:i < l.length),Nr c m B E l[i]):xE c m B E l:=by
 intro K w v vs hs hm h hv;obtain ⟨va,vc,rfl,hml⟩:=hs.len;unfold maxLen at hml;have hlen:=hm.len;have H:Hid (kg w (.slice va vs.length vc) vs (· < B)/\gF w l (· < B) vs/\Ck w c m B E K):=⟨hs,hm,h⟩
 have HX:Hid (∀ i (hi:i < l.length),Nr c m B E l[i]):=hx;have HLen:Hid (vs.length=l.length):=hlen;have m1:=Rq;have m2:=Jo;have m3:=sIf;have m4:=Rt;have m5:=zr1;have m6:=Jp;clear hs hm h hx hlen;go_enter func43,ntmps43
 go_wp2_with fail;go_loopw [8] (fun i wr=>∃ n:Nat,n<=vs.length/\i=.int .i64 n/\Hid (Fr c m w wr/\∃ K',Ck wr c m B E K'/\V3 K'/\jO (l.drop n) K'=jO l K)) (fun i _=>vs.length - (intOf i).toNat)
 case atStart=>exact ⟨0,by omega,rfl,Fr.refl _ _ _,K,H.o.2.2,hv,rfl⟩
 case round =>
  obtain ⟨n,hn,rfl,hr⟩:=hrel;obtain ⟨hf,K',hk',hv',he⟩:=hr.o;clear hr;by_cases hlt:n < vs.length
  ·have hnl:n < l.length:=by have:=HLen.o;omega
   have hb:=H.o.2.2.fr hf;have sH:=(H.o.2.1.get n hnl hlt).below hb;obtain ⟨t,q,hform⟩:=sH.form;obtain ⟨g,cap,hgv,hg,hcell⟩:=H.o.1.cell hlt;cases hgv;have hcr:wr.cell? ⟨g,n,none⟩=some (.iface t (.pointer (some ⟨q,0,none⟩))):=by rw[hb.cell (p:=⟨g,n,none⟩) hg,hcell,hform];rfl
   have hdrop:l.drop n=l[n]::l.drop (n+1):=cB hnl;rw[hdrop,GJ] at he;rw[hform] at sH;have HH:Hid (Fr c m w wr/\jO (l.drop (n+1)) (qV l[n] K')=jO l K/\V3 (qV l[n] K')):=⟨hf,he,znd _ _ hv'⟩;have hC:=HX.o n hnl K' wr t q sH hk' hv';clear hf he sH hcell hform hdrop hb hk';rcases hC with ⟨rfl,hC⟩ | ⟨rfl,hC⟩ | ⟨rfl,hC⟩ | ⟨rfl,hC⟩ | ⟨rfl,hC⟩ | ⟨rfl,hC⟩
   all_goals
    go_wp2_with fail;refine hC.mono ?_;rintro e w1 ⟨rfl,k1,f1⟩;have L1:Hid (_/\_):=⟨k1,f1⟩;clear k1 f1;go_wp2_with fail;exact ⟨⟨n+1,by omega,by go_num,HH.o.1.trans L1.o.2,_,L1.o.1,HH.o.2.2,HH.o.2.1⟩,by simp[intOf];omega⟩
  ·have hnl:l.drop n=[]:=cZ (by have:=HLen.o;omega)
   rw[hnl,GI] at he;have HH:Hid (Fr c m w wr/\Ck wr c m B E (jO l K)):=⟨hf,by rw[<- he];exact hk'⟩
   clear hf hk' he hnl;go_wp2_with fail;go_end0
   exact ⟨rfl,HH.o.2,HH.o.1⟩
theorem zdf (c m B q:Nat)(E:Nat->Addr)(K:Px.Lk)(w:fu)(h:Ck w c m B E K) :
  Calls prog 246 #[.pointer (some ⟨q,0,none⟩),.pointer (some ⟨c,0,none⟩)] w (sG c m B E w K):=by
 have HH:Hid (Ck w c m B E K):=h;clear h;go_enter func246,ntmps246
 go_wp2_with fail;go_end0
 exact ⟨rfl,HH.o,Fr.refl _ _ _⟩
theorem kg.below (h:kg w v vs (· < B))(k:Below B w w'):kg w' v vs (· < B):=h.keep fun i hi=>k.block i hi
theorem gF.below (h:gF w l (· < B) vs)(k:Below B w w'):gF w' l (· < B) vs:=h.keep fun i hi=>k.block i hi
theorem zeq (c m B q:Nat)(E:Nat->Addr)(one two:List Sm)(i1:xE c m B E one)(i2:xE c m B E two)(K:Px.Lk)(w:fu)(v1 v2:fC)(u1 u2:List fC)(hq:q < B)(hc:w.heap[q]?=some (.cells #[v1,v2] 310))(s1:kg w v1 u1 (· < B))(l1:gF w one (· < B) u1)(s2:kg w v2 u2 (· < B))(l2:gF w two (· < B) u2)(h:Ck w c m B E K)(hv:V3 K) :
  Calls prog 242 #[.pointer (some ⟨q,0,none⟩),.pointer (some ⟨c,0,none⟩)] w (sG c m B E w (jO two (jO one K))):=by
 obtain ⟨a1,n1,k1,rfl⟩:=s1.form;obtain ⟨a2,n2,k2,rfl⟩:=s2.form;obtain ⟨c0,c1,fr⟩:=qN hc;have CQ:Hid (∀ W,Fr c m w W->W.heap[q]?=some (.cells #[.slice a1 n1 k1,.slice a2 n2 k2] 310)):=fun W hW=>by rw[(h.fr hW).block q hq];exact hc
 have C1:Hid (Calls prog 43 #[.pointer (some ⟨c,0,none⟩),.slice a1 n1 k1] w (sG c m B E w (jO one K))):=i1 K w _ u1 s1 l1 h hv;have C2:Hid (∀ W,Fr c m w W->Ck W c m B E (jO one K)->Calls prog 43 #[.pointer (some ⟨c,0,none⟩),.slice a2 n2 k2] W (sG c m B E W (jO two (jO one K)))):=fun W hW hK=>i2 _ W _ u2 (s2.below (h.fr hW)) (l2.below (h.fr hW)) hK (Au one K hv)
 clear i1 i2 s1 l1 s2 l2 h hc;go_enter func242,ntmps242
 go_wp2_with fail;refine C1.o.mono ?_;rintro e w1 ⟨rfl,k1,f1⟩;obtain ⟨d0,d1,fd⟩:=qN (CQ.o w1 f1);have K1:Hid (_/\_):=⟨k1,f1⟩;clear c0 c1 fr k1 f1;go_wp2_with fail;refine (C2.o _ K1.o.2 K1.o.1).mono ?_;rintro e w2 ⟨rfl,k2,f2⟩;have K2:Hid (_/\_):=⟨k2,f2⟩;clear k2 f2;go_wp2_with fail;go_end0
 exact ⟨rfl,K2.o.1,K1.o.2.trans K2.o.2⟩
theorem qvl (c m B q qn n gG:Nat)(E:Nat->Addr)(one:List Sm)(i1:xE c m B E one)(K:Px.Lk)(w:fu)(v1:fC)(u1:List fC)(hq:q < B)(hc:w.heap[q]?=some (.cells #[Ref.ptr qn,v1] 280))(hn:ji w n gG (· < B) qn)(s1:kg w v1 u1 (· < B))(l1:gF w one (· < B) u1)(h:Ck w c m B E K)(hv:V3 K) :
  Calls prog 244 #[.pointer (some ⟨q,0,none⟩),.pointer (some ⟨c,0,none⟩)] w (sG c m B E w (jO one (Px.countP n gG 0 9 K))):=by
 obtain ⟨a1,n1,k1,rfl⟩:=s1.form;unfold Ref.ptr at hc;obtain ⟨c0,c1,fr⟩:=qN hc;have CQ:Hid (∀ W,Fr c m w W->W.heap[q]?=some (.cells #[.pointer (some ⟨qn,0,none⟩),.slice a1 n1 k1] 280)):=fun W hW=>by rw[(h.fr hW).block q hq];exact hc
 have HH:Hid (Ck w c m B E K/\ji w n gG (· < B) qn):=⟨h,hn⟩
 have C2:Hid (∀ W,Fr c m w W->Ck W c m B E (Px.countP n gG 0 9 K)->Calls prog 43 #[.pointer (some ⟨c,0,none⟩),.slice a1 n1 k1] W (sG c m B E W (jO one (Px.countP n gG 0 9 K)))):=fun W hW hK=>i1 _ W _ u1 (s1.below (h.fr hW)) (l1.below (h.fr hW)) hK (Q7 hv _ _ _ _)
 clear i1 s1 l1 h hc hn;go_enter func244,ntmps244
 go_wp2_with fail;refine (XI c m B qn n gG 0 9 E K _ HH.o.1 HH.o.2).mono ?_;rintro e w1 ⟨rfl,k1,f1⟩;obtain ⟨d0,d1,fd⟩:=qN (CQ.o w1 f1);have K1:Hid (_/\_):=⟨k1,f1⟩;clear c0 c1 fr k1 f1;go_wp2_with fail;refine (C2.o _ K1.o.2 K1.o.1).mono ?_;rintro e w2 ⟨rfl,k2,f2⟩;have K2:Hid (_/\_):=⟨k2,f2⟩;clear k2 f2;go_wp2_with fail;go_end0
 exact ⟨rfl,K2.o.1,K1.o.2.trans K2.o.2⟩
theorem Rv {k:Nat}{a b c:fC}{t:TypeId}(hh:w.heap[k]?=some (.cells #[a,b,c] t)) :
  w.cell? ⟨k,0,none⟩=some a/\w.cell? ⟨k,1,none⟩=some b/\w.cell? ⟨k,2,none⟩=some c/\∀ o,w.frozen? ⟨k,o,none⟩=false:=by
 refine ⟨?_,?_,?_,?_⟩<;>simp[World.cell?,World.frozen?,hh]
theorem zn8 (c m B q qr:Nat)(E:Nat->Addr)(e:Px.Ex)(ie:rQ c m B E e)(one two:List Sm)(i1:xE c m B E one)(i2:xE c m B E two)(K:Px.Lk)(w:fu)(v1 v2:fC)(u1 u2:List fC)(hq:q < B)(hc:w.heap[q]?=some (.cells #[Ref.ptr qr,v1,v2] 307))(hr:jK w e (· < B) qr)(s1:kg w v1 u1 (· < B))(l1:gF w one (· < B) u1)(s2:kg w v2 u2 (· < B))(l2:gF w two (· < B) u2)(h:Ck w c m B E K)(hv:V3 K) :
  Calls prog 240 #[.pointer (some ⟨q,0,none⟩),.pointer (some ⟨c,0,none⟩)] w (sG c m B E w (jO two (jO one (rZ e 98 K)))):=by
 obtain ⟨a1,n1,k1,rfl⟩:=s1.form;obtain ⟨a2,n2,k2,rfl⟩:=s2.form;unfold Ref.ptr at hc;obtain ⟨c0,c1,c2,fr⟩:=Rv hc;have CQ:Hid (∀ W,Fr c m w W->W.heap[q]?=some (.cells #[.pointer (some ⟨qr,0,none⟩),.slice a1 n1 k1,.slice a2 n2 k2] 307)):=fun W hW=>by rw[(h.fr hW).block q hq];exact hc
 have C0:Hid (Calls prog 238 #[.pointer (some ⟨c,0,none⟩),.pointer (some ⟨qr,0,none⟩),.int .i64 2] w (sG c m B E w (rZ e 98 K))):=XM c m B E e ie 98 (ah (ak rfl)) K w qr hr h hv;have C1:Hid (∀ W,Fr c m w W->Ck W c m B E (rZ e 98 K)->Calls prog 43 #[.pointer (some ⟨c,0,none⟩),.slice a1 n1 k1] W (sG c m B E W (jO one (rZ e 98 K)))):=fun W hW hK=>i1 _ W _ u1 (s1.below (h.fr hW)) (l1.below (h.fr hW)) hK (MZ hv e 98)
 have C2:Hid (∀ W,Fr c m w W->Ck W c m B E (jO one (rZ e 98 K))->Calls prog 43 #[.pointer (some ⟨c,0,none⟩),.slice a2 n2 k2] W (sG c m B E W (jO two (jO one (rZ e 98 K))))):=fun W hW hK=>i2 _ W _ u2 (s2.below (h.fr hW)) (l2.below (h.fr hW)) hK (Au one _ (MZ hv e 98))
 clear ie i1 i2 s1 l1 s2 l2 h hc hr;go_enter func240,ntmps240
 go_wp2_with fail;refine C0.o.mono ?_;rintro r w1 ⟨rfl,k1,f1⟩;obtain ⟨d0,d1,d2,fd⟩:=Rv (CQ.o w1 f1);have K1:Hid (_/\_):=⟨k1,f1⟩;clear c0 c1 c2 fr k1 f1;go_wp2_with fail;refine (C1.o _ K1.o.2 K1.o.1).mono ?_;rintro r w2 ⟨rfl,k2,f2⟩;obtain ⟨j0,j1,j2,fj⟩:=Rv (CQ.o w2 (K1.o.2.trans f2));have K2:Hid (_/\_):=⟨k2,f2⟩;clear d0 d1 d2 fd k2 f2;go_wp2_with fail;refine (C2.o _ (K1.o.2.trans K2.o.2) K2.o.1).mono ?_;rintro r w3 ⟨rfl,k3,f3⟩;have K3:Hid (_/\_):=⟨k3,f3⟩;clear k3 f3;go_wp2_with fail;go_end0
 exact ⟨rfl,K3.o.1,(K1.o.2.trans K2.o.2).trans K3.o.2⟩
theorem ji.below {n:Nat}(h:ji w n a (· < B) q)(k:Below B w w'):ji w' n a (· < B) q:=h.keep fun i hi=>k.block i hi
theorem jQ.below {x:fq}(h:jQ w x a (· < B) q)(k:Below B w w'):jQ w' x a (· < B) q:=h.keep fun i hi=>k.block i hi
def rV (w:fu)(q:Nat)(fD undo:fq)(pa ps:Option Addr)(qn:Nat):Prop:=w.heap[q]?=some (.cells #[.string fD,.pointer pa,.pointer ps,.string undo,.pointer (some ⟨qn,0,none⟩)] 303)
theorem rV.cells {fD undo:fq}{pa ps:Option Addr}{qn:Nat}(h:rV w q fD undo pa ps qn):w.cell? ⟨q,1,none⟩=some (.pointer pa)/\w.cell? ⟨q,2,none⟩=some (.pointer ps)/\w.cell? ⟨q,4,none⟩=some (.pointer (some ⟨qn,0,none⟩))/\∀ o,w.frozen? ⟨q,o,none⟩=false:=by
 unfold rV at h;refine ⟨?_,?_,?_,?_⟩<;>simp[World.cell?,World.frozen?,h]
theorem zdx (c m B q qn n gG fZ:Nat)(fD undo gu:fq)(pa ps:Option Addr)(E:Nat->Addr)(ex:Option Px.Ex)(ie:∀ e,ex=some e->rQ c m B E e)(K:Px.Lk)(w:fu)(hq:q < B)(hc:w.heap[q]?=some (.cells #[.string fD,.pointer pa,.pointer ps,.string undo,Ref.ptr qn] 303))(ha:kZ w ex (· < B) (.pointer pa))(hs:qc w gu fZ (· < B) (.pointer ps))(hn:ji w n gG (· < B) qn)(h:Ck w c m B E K)(hv:V3 K) :
  Calls prog 236 #[.pointer (some ⟨q,0,none⟩),.pointer (some ⟨c,0,none⟩)] w (sG c m B E w (Px.countP n gG 1 5 (rM gu fZ (nD ex K)))):=by
 have hc':rV w q fD undo pa ps qn:=hc;have CQ:Hid (∀ W,Fr c m w W->rV W q fD undo pa ps qn):=fun W hW=>by unfold rV;rw[(h.fr hW).block q hq];exact hc'
 obtain ⟨c1,c2,c4,fr⟩:=hc'.cells;have C2:Hid (∀ W,Fr c m w W->Ck W c m B E (rM gu fZ (nD ex K))->Calls prog 239 #[.pointer (some ⟨c,0,none⟩),.pointer (some ⟨qn,0,none⟩),.int .i64 1,.int .i64 5] W (sG c m B E W (Px.countP n gG 1 5 (rM gu fZ (nD ex K))))):=fun W hW hK=>XI c m B qn n gG 1 5 E _ W hK (hn.below (h.fr hW))
 have HH:Hid (Ck w c m B E K):=h;have CA:Hid ((ex=none/\pa=none/\nD ex K=K)\/∃ qa,pa=some ⟨qa,0,none⟩/\Calls prog 238 #[.pointer (some ⟨c,0,none⟩),.pointer (some ⟨qa,0,none⟩),.int .i64 1] w (sG c m B E w (nD ex K))):=by
  cases ex with
  | none =>
   have:Value.pointer pa=.pointer none:=ha
   cases this;exact ak ⟨rfl,rfl,rfl⟩
  | some e =>
   obtain ⟨qa,h1,h2⟩:=ha;cases h1;exact ah ⟨qa,rfl,XM c m B E e (ie e rfl) 105 (ak rfl) K w qa h2 h hv⟩
 have CB:Hid ((ps=none/\rM gu fZ (nD ex K)=nD ex K)\/∃ qs,ps=some ⟨qs,0,none⟩/\∀ W,Fr c m w W->Ck W c m B E (nD ex K)->Calls prog 231 #[.pointer (some ⟨c,0,none⟩),.pointer (some ⟨qs,0,none⟩),.int .i64 1] W (sG c m B E W (rM gu fZ (nD ex K)))):=by
  rcases hs with ⟨h1,h2⟩ | ⟨h1,qs,h2,h3⟩
  ·cases h2;exact ak ⟨rfl,by unfold rM;rw[if_pos h1]⟩
  ·cases h2;refine ah ⟨qs,rfl,fun W hW hK=>?_⟩
   unfold rM;rw[if_neg (by omega)]
   exact Ic c m B qs fZ 105 gu E _ W hK (h3.below (h.fr hW)) (ak rfl) (X7 hv ex)
 clear ie ha hs hn h hc hc';generalize nD ex K=K1 at *;generalize rM gu fZ K1=K2 at *;rcases CA.o with ⟨rfl,rfl,rfl⟩ | ⟨qa,rfl,ca⟩
 ·rcases CB.o with ⟨rfl,rfl⟩ | ⟨qs,rfl,cb⟩
  ·clear CA CB;go_enter func236,ntmps236
   go_wp2_with fail;refine (C2.o _ (Fr.refl _ _ _) HH.o).mono ?_;rintro r w1 ⟨rfl,k1,f1⟩;go_wp2_with fail;go_end0
   exact ⟨rfl,k1,f1⟩
  ·have Rw:Hid (_):=cb;clear CA CB cb;go_enter func236,ntmps236
   go_wp2_with fail;refine (Rw.o _ (Fr.refl _ _ _) HH.o).mono ?_;rintro r w1 ⟨rfl,k1,f1⟩;obtain ⟨d1,d2,d4,fd⟩:=(CQ.o w1 f1).cells;have L1:Hid (_/\_):=⟨k1,f1⟩;clear c1 c2 c4 fr k1 f1;go_wp2_with fail;refine (C2.o _ L1.o.2 L1.o.1).mono ?_;rintro r w2 ⟨rfl,k2,f2⟩;go_wp2_with fail;go_end0
   exact ⟨rfl,k2,L1.o.2.trans f2⟩
 ·rcases CB.o with ⟨rfl,rfl⟩ | ⟨qs,rfl,cb⟩
  ·clear CA CB;go_enter func236,ntmps236
   go_wp2_with fail;refine ca.mono ?_;rintro r w1 ⟨rfl,k1,f1⟩;obtain ⟨d1,d2,d4,fd⟩:=(CQ.o w1 f1).cells;have L1:Hid (_/\_):=⟨k1,f1⟩;clear c1 c2 c4 fr k1 f1 ca;go_wp2_with fail;refine (C2.o _ L1.o.2 L1.o.1).mono ?_;rintro r w2 ⟨rfl,k2,f2⟩;go_wp2_with fail;go_end0
   exact ⟨rfl,k2,L1.o.2.trans f2⟩
  ·have Rw:Hid (_):=cb;clear CA CB cb;go_enter func236,ntmps236
   go_wp2_with fail;refine ca.mono ?_;rintro r w1 ⟨rfl,k1,f1⟩;obtain ⟨d1,d2,d4,fd⟩:=(CQ.o w1 f1).cells;have L1:Hid (_/\_):=⟨k1,f1⟩;clear c1 c2 c4 fr k1 f1 ca;go_wp2_with fail;refine (Rw.o _ L1.o.2 L1.o.1).mono ?_;rintro r w2 ⟨rfl,k2,f2⟩;obtain ⟨j1,j2,j4,fj⟩:=(CQ.o w2 (L1.o.2.trans f2)).cells;have L2:Hid (_/\_):=⟨k2,f2⟩;clear d1 d2 d4 fd k2 f2;go_wp2_with fail;refine (C2.o _ (L1.o.2.trans L2.o.2) L2.o.1).mono ?_;rintro r w3 ⟨rfl,k3,f3⟩;go_wp2_with fail;go_end0
   exact ⟨rfl,k3,(L1.o.2.trans L2.o.2).trans f3⟩
def zyo (B:Nat)(E:Nat->Addr)(w:fu)(K:Px.Lk)(e:Ending)(w':fu):Prop :=
 Below B w w'/\∃ er,e=.returned er/\((K.e=0/\er=.nilIface)\/(K.e≠0/\∃ f,er=.iface 70 (.pointer (some ⟨f,0,none⟩))/\oV w' f K.pl (E K.e)))
theorem zhc (w:fu):(Instr.makeMap 132 none).run prog w=.ok (.map (some w.heap.size)) (w.alloc (.map #[] 0)):=rfl
def Jq (w:fu):fu:=(w.alloc (.map #[] 0)).alloc (.cells #[.map (some w.heap.size),.pointer none] 134)
theorem Ns (w:fu):Below w.heap.size w (Jq w):=((aH _ _).alloc (aj _) _).alloc (by simp) _
variable {E:Nat->Addr}
theorem YD (g:Gc w w.heap.size E):Ck (Jq w) (w.heap.size+1) w.heap.size w.heap.size E ⟨[],0,0⟩:=by
 refine ⟨g.below (Ns w),by omega,none,?_,aj _,by omega,⟨#[],0,?_,rfl⟩,ak ⟨rfl,rfl⟩⟩
 ·exact new2
 ·show ((w.alloc _).alloc _).heap[w.heap.size]?=_
  rw[aD _ _ _ (by simp)]
  exact new1
theorem qqu (E:Nat->Addr)(l:List Sm)(w:fu)(hl:∀ c m,xE c m w.heap.size E l)(v:fC)(vs:List fC)(hs:kg w v vs (· < w.heap.size))(hm:gF w l (· < w.heap.size) vs)(g:Gc w w.heap.size E) :
  Calls prog 22 #[v] w (zyo w.heap.size E w (jO l ⟨[],0,0⟩)):=by
 obtain ⟨a1,n1,k1,rfl⟩:=hs.form;have mk:=zhc;have HB:Hid (Calls prog 43 #[.pointer (some ⟨w.heap.size+1,0,none⟩),.slice a1 n1 k1] (Jq w) (sG (w.heap.size+1) w.heap.size w.heap.size E (Jq w) (jO l ⟨[],0,0⟩))) :=
  hl _ _ _ _ _ vs (hs.below (Ns w)) (hm.below (Ns w)) (YD g) (fun v hv=>by cases hv)
 have HC:Hid (Ck (Jq w) (w.heap.size+1) w.heap.size w.heap.size E ⟨[],0,0⟩):=YD g;clear hl hs hm g;go_enter func22,ntmps22
 go_wp2_with fail;refine HB.o.mono ?_;rintro r w1 ⟨rfl,k1,f1⟩;generalize jO l ⟨[],0,0⟩=K at *;have hb:Hid (Below w.heap.size w w1):=(Ns w).trans (HC.o.fr f1);obtain ⟨pf,h1,h2,h3,h4,h5⟩:=k1.ex;obtain ⟨c0,c1,fr⟩:=qN h1;clear k1 f1 h1 h2 h3 h4;rcases h5 with ⟨h5,rfl⟩ | ⟨h5,f,rfl,h6,h7,h8,h9⟩
 ·go_wp2_with fail;go_ret;exact ⟨hb.o,_,rfl,ak ⟨h5,rfl⟩⟩
 ·have HF:Hid (_):=h9;clear h9;go_wp2_with fail;go_ret;exact ⟨hb.o,_,rfl,ah ⟨h5,f,rfl,HF.o⟩⟩
structure Gw (w:fu)(E:Nat->Addr):Prop where
 s:uS w E
 ops:∀ j (hj:j < 28),w.cell? ⟨16,j,none⟩=some (qZ[j]'hj)
 lo:17<=w.heap.size
theorem Gw.below {w w':fu}{E:Nat->Addr}(h:Gw w E)(k:Below w.heap.size w w'):Gw w' E :=
 ⟨h.s.below k,fun j hj=>by rw[aF (w:=w) (k.block _ (by show 16 < w.heap.size;have:=h.lo;omega))];exact h.ops j hj,aP h.lo k.size⟩
theorem Gw.gl (h:Gw w E):Gl w (w.heap.size+2) (E 2) (E 3):=⟨h.s.v2,h.s.v3,h.ops,by have:=h.lo;omega⟩
theorem Gw.gc (h:Gw w E):Gc w w.heap.size E:=⟨h.s.v4,h.s.v5,h.s.v6,h.ops,h.lo⟩
def YE (s:fq)(E:Nat->Addr)(w:fu)(e:Ending)(w':fu):Prop :=
 Below w.heap.size w w'/\∃ v er,e=.returned (.tuple #[v,er]) /\
  ((Px.check s=(0,0)/\er=.nilIface/\∃ l vs,Px.read s=.ok l/\kg w' v vs (· < w'.heap.size)/\gF w' l (· < w'.heap.size) vs) \/
   (Px.check s=(1,0)/\er=.iface 337 (.pointer (some (E 1)))) \/
   (∃ c p f,2<=c/\c<=6/\Px.check s=(c,p)/\er=.iface 70 (.pointer (some ⟨f,0,none⟩))/\oV w' f p (E c)))
theorem PV (E:Nat->Addr)(hblk:∀ l,jM l->∀ c m B,xE c m B E l)(s:fq)(w:fu)(hs:s.size<=maxLen)(g:Gw w E) :
  Calls prog 11 #[.string s] w (YE s E w):=by
 unfold maxLen at hs;have v1:=g.s.v1;have G0:Hid (Gw w E):=g;have HB:Hid (∀ l,jM l->∀ c m B,xE c m B E l):=hblk;clear g hblk;by_cases Rx:300 < s.size
 ·have t1:(300:Int) < s.size:=by omega
  have hck:Hid (Px.check s=(1,0)):=FX (by unfold Px.read;rw[if_pos Rx])
  go_enter func11,ntmps11
  go_wp2_with fail;go_region
  all_goals
   go_wp2_with fail;go_ret2;exact ⟨X1 (aH _ _),_,_,rfl,ah (ak ⟨hck.o,rfl⟩)⟩
 ·have t1:¬ (300:Int) < s.size:=by omega
  go_enter func11,ntmps11
  go_wp2_with fail;refine (Xs s (E 2) (E 3) w (by omega) G0.o.lo G0.o.gl).mono ?_
  rintro e w1 ⟨hb,v,er,rfl,hp⟩;cases hr:Px.read s with
  | error r =>
   obtain ⟨c,p⟩:=r;rw[hr] at hp;obtain ⟨rfl,f,rfl,hf⟩:=hp;have hc:=qsw (by omega) hr
   have hF:Hid (oV w1 f p (E c)):=by
    rcases hc with rfl | rfl
    ·exact hf
    ·exact hf
   have HH:Hid (Below w.heap.size w w1/\Px.check s=(c,p)):=⟨hb,FX hr⟩;clear hb hf;unfold Ref.ptr;go_wp2_with fail;go_ret2;exact ⟨HH.o.1,_,_,rfl,ah (ah ⟨c,p,f,by omega,by omega,HH.o.2,rfl,hF.o⟩)⟩
  | ok l =>
   rw[hr] at hp;obtain ⟨rfl,vs,hs1,hl1⟩:=hp;obtain ⟨a,n,cp,rfl⟩:=hs1.form;have hs2:kg w1 (.slice a n cp) vs (· < w1.heap.size):=hs1.mono fun k hk=>hk.2
   have hl2:gF w1 l (· < w1.heap.size) vs:=hl1.mono fun k hk=>hk.2
   have HC:Hid (_):=qqu E l w1 (fun c m=>HB.o l (EC hr).1 c m _) (.slice a n cp) vs hs2 hl2 (G0.o.below hb).gc
   have HH:Hid (Below w.heap.size w w1/\kg w1 (.slice a n cp) vs (· < w1.heap.size)/\gF w1 l (· < w1.heap.size) vs/\Px.read s=.ok l):=⟨hb,hs2,hl2,hr⟩
   have hck:Hid (_):=Px.Q8 hr;have hE:Hid (Px.E4 (jO l ⟨[],0,0⟩)):=DY l _ (ak rfl);clear hb hs1 hl1 hs2 hl2 hr;generalize jO l ⟨[],0,0⟩=K at *;go_wp2_with fail;refine (aA HC.o ?_);rintro e w2 ⟨hb2,er,rfl,hK⟩;have hb3:Hid (Below w.heap.size w w2):=HH.o.1.trans (hb2.mono HH.o.1.size);have hS:Hid (kg w2 (.slice a n cp) vs (· < w2.heap.size)/\gF w2 l (· < w2.heap.size) vs):=⟨(HH.o.2.1.below hb2).mono fun k hk=>aV hk hb2.size,(HH.o.2.2.1.below hb2).mono fun k hk=>aV hk hb2.size⟩
   clear hb2;rcases hK with ⟨hK,rfl⟩ | ⟨hK,f,rfl,hF⟩
   ·go_wp2_with fail;go_ret2;refine ⟨hb3.o,_,_,rfl,ak ⟨?_,rfl,l,vs,HH.o.2.2.2,hS.o.1,hS.o.2⟩⟩;rw[hck.o,if_pos hK]
   ·have HF:Hid (oV w2 f K.pl (E K.e)):=hF;clear hF;go_wp2_with fail;go_ret2;refine ⟨hb3.o,_,_,rfl,ah (ah ⟨K.e,K.pl,f,?_,?_,?_,rfl,HF.o⟩)⟩
    ·have:=hE.o;unfold Px.E4 at this;omega
    ·have:=hE.o;unfold Px.E4 at this;omega
    ·rw[hck.o,if_neg hK]
