import Derived.Test.YtgkhgealpneodaaGreatDoorG17
import Derived.Test.YtgkhgealpneodaaGreatDoorG14
set_option maxRecDepth 100000
set_option maxHeartbeats 4000000
namespace Go.Proofs.YtgkhgealpneodaaGreatDoor
open Go.RowKit
namespace Lg
open Px Ref
def uH(c m B:Nat)(E:Nat->Addr)(w:dY)(K:gM)(e:Ending)(w':dY):Prop:=e=fM (.tuple #[])/\Ck w' c m B E K/\Fr c m w w'
def zyn(w:dY)(c tl ql:Nat)(Q:Ending->dY->Prop):Prop:=
 (tl=280/\fI 312 #[fq ql,fq c] w Q) \/
 (tl=290/\fI 319 #[fq ql,fq c] w Q) \/
 (tl=292/\fI 323 #[fq ql,fq c] w Q) \/
 (tl=294/\fI 325 #[fq ql,fq c] w Q) \/
 (tl=296/\fI 327 #[fq ql,fq c] w Q) \/
 (tl=298/\fI 329 #[fq ql,fq c] w Q)
def OA(c m B:Nat)(E:Nat->Addr)(x:Sm):Prop:=∀(K:gM)(w:dY)(tl ql:Nat),oZ w x (· < B) (.iface tl (Ref.ptr ql))->Ck w c m B E K->V3 K->zyn w c tl ql (uH c m B E w (sJ x K))
def q9(c m B:Nat)(E:Nat->Addr)(l:List Sm):Prop:=∀(K:gM)(w:dY)(v:dZ)(vs:List dZ),lJ w v vs (· < B)->gX w l (· < B) vs->Ck w c m B E K->V3 K ->
 fI 83 #[fq c,v] w (uH c m B E w (kV l K))
theorem S9(a:Addr)(w:dY):(method 534 280 (.pointer (some a)) "errand/lang.check").run Tryz.prog w=.ok (312,.pointer (some a)) w:=by kernel_rfl
theorem Kk(a:Addr)(w:dY):(method 534 290 (.pointer (some a)) "errand/lang.check").run Tryz.prog w=.ok (319,.pointer (some a)) w:=by kernel_rfl
theorem sIf(a:Addr)(w:dY):(method 534 292 (.pointer (some a)) "errand/lang.check").run Tryz.prog w=.ok (323,.pointer (some a)) w:=by kernel_rfl
theorem Ta(a:Addr)(w:dY):(method 534 294 (.pointer (some a)) "errand/lang.check").run Tryz.prog w=.ok (325,.pointer (some a)) w:=by kernel_rfl
theorem zr1(a:Addr)(w:dY):(method 534 296 (.pointer (some a)) "errand/lang.check").run Tryz.prog w=.ok (327,.pointer (some a)) w:=by kernel_rfl
theorem Kl(a:Addr)(w:dY):(method 534 298 (.pointer (some a)) "errand/lang.check").run Tryz.prog w=.ok (329,.pointer (some a)) w:=by kernel_rfl
variable{w w':dY}{v:dZ}{vs:List dZ}{ok:Nat->Prop}
theorem lJ.len(h:lJ w v vs ok):∃a cap,v=.slice a vs.length cap/\vs.length<=maxLen:=by
 obtain⟨h1,h2⟩|⟨g,cap,cur,h1,h2,h3,h4,h5,h6,h7⟩:=h;·subst h2;exact⟨none,0,h1,by simp⟩
 exact⟨_,cap,h1,by omega⟩
theorem lJ.cell{w:dY}{v:dZ}{vs:List dZ}{ok:Nat->Prop}(h:lJ w v vs ok){n:Nat}(hn:n<vs.length):∃g cap,v=.slice (some ⟨g,0,none⟩) vs.length cap/\ok g/\w.cell? ⟨g,n,none⟩=some vs[n]:=by
 obtain⟨h1,h2⟩|⟨g,cap,cur,h1,h2,h3,h4,h5,h6,h7⟩:=h;·subst h2;simp at hn
 refine⟨g,cap,h1,h2,?_⟩;have:cur[n]?=some vs[n]:=by
  have h8:(cur.toList.take vs.length)[n]?=some vs[n]:=by rw[h7];exact bN hn
  rw[bE hn]at h8;simpa using h8
 simp[World.cell?,h3,this]
variable{l:List Sm}
theorem gX.len(h:gX w l ok vs):vs.length=l.length:=by
 induction l generalizing vs with| nil=>simp[gX.oV.1 h]| cons x l ih=>
 obtain⟨v,vs',rfl,h1,h2⟩:=gX.uY.1 h;simp[ih h1]
theorem gX.get(h:gX w l ok vs)(n:Nat)(hn:n<l.length)(hm:n<vs.length):oZ w l[n] ok vs[n]:=by
 induction l generalizing vs n with| nil=>simp at hn| cons x l ih=>
 obtain⟨v,vs',rfl,h1,h2⟩:=gX.uY.1 h;cases n with| zero=>exact h2| succ n=>exact ih h1 n (by simpa using hn) (by simpa using hm)
variable{B a q:Nat}
theorem oZ.below{x:Sm}(h:oZ w x (· < B) v)(k:Below B w w'):oZ w' x (· < B) v:=h.keep fun i hi=>k.block i hi
theorem Tc(c m B:Nat)(E:Nat->Addr)(l:List Sm)(hx:∀i(hi:i<l.length),OA c m B E l[i]):q9 c m B E l:=by
 intro K w v vs hs hm h hv;obtain⟨va,vc,rfl,hml⟩:=hs.len;unfold maxLen at hml;have hlen:=hm.len;have H:Hid (lJ w (.slice va vs.length vc) vs (· < B)/\gX w l (· < B) vs/\Ck w c m B E K):=⟨hs,hm,h⟩;have HX:Hid (∀i(hi:i<l.length),OA c m B E l[i]):=hx;have HLen:Hid (vs.length=l.length):=hlen;have m1:=S9;have m2:=Kk;have m3:=sIf;have m4:=Ta;have m5:=zr1;have m6:=Kl;go_enter Tryz.func83,Tryz.ntmps83;go_wp2_with fail;go_loopw [8] (fun i wr=>∃n:Nat,n<=vs.length/\i=eF n/\Hid (Fr c m w wr/\∃K',Ck wr c m B E K'/\V3 K'/\kV (l.drop n) K'=kV l K)) (fun i _=>vs.length-(intOf i).toNat)
 case atStart=>exact⟨0,by omega,rfl,Fr.refl _ _ _,K,H.o.2.2,hv,rfl⟩
 case round=>
  obtain⟨n,hn,rfl,hr⟩:=hrel;obtain⟨hf,K',hk',hv',he⟩:=hr.o;by_cases hlt:n<vs.length
  ·have hnl:n<l.length:=by have:=HLen.o;omega
   have hb:=H.o.2.2.fr hf;have wD:=(H.o.2.1.get n hnl hlt).below hb;obtain⟨t,q,hform⟩:=wD.form;obtain⟨g,cap,hgv,hg,hcell⟩:=H.o.1.cell hlt;cases hgv;have hcr:wr.cell? ⟨g,n,none⟩=some (.iface t (fq q)):=by rw[hb.cell (p:=⟨g,n,none⟩) hg,hcell,hform];rfl
   have hdrop:l.drop n=l[n]::l.drop (n+1):=bV hnl;rw[hdrop,IQ]at he;rw[hform]at wD;have HH:Hid (Fr c m w wr/\kV (l.drop (n+1)) (sJ l[n] K')=kV l K/\V3 (sJ l[n] K')):=⟨hf,he,znd _ _ hv'⟩;have hC:=HX.o n hnl K' wr t q wD hk' hv';obtain⟨rfl,hC⟩|⟨rfl,hC⟩|⟨rfl,hC⟩|⟨rfl,hC⟩|⟨rfl,hC⟩|⟨rfl,hC⟩:=hC;all_goals
    go_wp2_with fail;refine hC.mono ?_;rintro e w1 ⟨rfl,k1,f1⟩;have L1:Hid (_/\_):=⟨k1,f1⟩;go_wp2_with fail;exact⟨⟨n+1,by omega,by go_num,HH.o.1.trans L1.o.2,_,L1.o.1,HH.o.2.2,HH.o.2.1⟩,by simp[intOf];omega⟩
  have hnl:l.drop n=[]:=dh (by have:=HLen.o;omega);rw[hnl,IL]at he;have HH:Hid (Fr c m w wr/\Ck wr c m B E (kV l K)):=⟨hf,by rw[<- he];exact hk'⟩;go_wp2_with fail;go_end0
  exact⟨rfl,HH.o.2,HH.o.1⟩
theorem zdf(c m B q:Nat)(E:Nat->Addr)(K:gM)(w:dY)(h:Ck w c m B E K):fI 329 #[fq q,fq c] w (uH c m B E w K):=by
 have HH:Hid (Ck w c m B E K):=h;go_enter Tryz.func329,Tryz.ntmps329;go_wp2_with fail;go_end0
 exact⟨rfl,HH.o,Fr.refl _ _ _⟩
theorem lJ.below(h:lJ w v vs (· < B))(k:Below B w w'):lJ w' v vs (· < B):=h.keep fun i hi=>k.block i hi
theorem gX.below(h:gX w l (· < B) vs)(k:Below B w w'):gX w' l (· < B) vs:=h.keep fun i hi=>k.block i hi
theorem zeq(c m B q:Nat)(E:Nat->Addr)(one two:List Sm)(i1:q9 c m B E one)(i2:q9 c m B E two)(K:gM)(w:dY)(v1 v2:dZ)(u1 u2:List dZ)(hq:q<B)(hc:w.heap[q]?=some (.cells #[v1,v2] 345))(s1:lJ w v1 u1 (· < B))(l1:gX w one (· < B) u1)(s2:lJ w v2 u2 (· < B))(l2:gX w two (· < B) u2)(h:Ck w c m B E K)(hv:V3 K):fI 325 #[fq q,fq c] w (uH c m B E w (kV two (kV one K))):=by
 obtain⟨a1,n1,k1,rfl⟩:=s1.form;obtain⟨a2,n2,k2,rfl⟩:=s2.form;obtain⟨c0,c1,fr⟩:=sj hc;have CQ:Hid (∀W,Fr c m w W->W.heap[q]?=some (.cells #[.slice a1 n1 k1,.slice a2 n2 k2] 345)):=fun W hW=>by rw[(h.fr hW).block q hq];exact hc
 have C1:Hid (fI 83 #[fq c,.slice a1 n1 k1] w (uH c m B E w (kV one K))):=i1 K w _ u1 s1 l1 h hv;have C2:Hid (∀W,Fr c m w W->Ck W c m B E (kV one K)->fI 83 #[fq c,.slice a2 n2 k2] W (uH c m B E W (kV two (kV one K)))):=fun W hW hK=>i2 _ W _ u2 (s2.below (h.fr hW)) (l2.below (h.fr hW)) hK (BP one K hv);go_enter Tryz.func325,Tryz.ntmps325;go_wp2_with fail;refine C1.o.mono ?_;rintro e w1 ⟨rfl,k1,f1⟩;obtain⟨d0,d1,fd⟩:=sj (CQ.o w1 f1);have K1:Hid (_/\_):=⟨k1,f1⟩;go_wp2_with fail;refine(C2.o _ K1.o.2 K1.o.1).mono ?_;rintro e w2 ⟨rfl,k2,f2⟩;have K2:Hid (_/\_):=⟨k2,f2⟩;go_wp2_with fail;go_end0
 exact⟨rfl,K2.o.1,K1.o.2.trans K2.o.2⟩
theorem qvl(c m B q qn n gZ:Nat)(E:Nat->Addr)(one:List Sm)(i1:q9 c m B E one)(K:gM)(w:dY)(v1:dZ)(u1:List dZ)(hq:q<B)(hc:w.heap[q]?=some (.cells #[Ref.ptr qn,v1] 316))(hn:jW w n gZ (· < B) qn)(s1:lJ w v1 u1 (· < B))(l1:gX w one (· < B) u1)(h:Ck w c m B E K)(hv:V3 K):fI 327 #[fq q,fq c] w (uH c m B E w (kV one (iP n gZ 0 9 K))):=by
 obtain⟨a1,n1,k1,rfl⟩:=s1.form;unfold Ref.ptr at hc;obtain⟨c0,c1,fr⟩:=sj hc;have CQ:Hid (∀W,Fr c m w W->W.heap[q]?=some (.cells #[fq qn,.slice a1 n1 k1] 316)):=fun W hW=>by rw[(h.fr hW).block q hq];exact hc
 have HH:Hid (Ck w c m B E K/\jW w n gZ (· < B) qn):=⟨h,hn⟩;have C2:Hid (∀W,Fr c m w W->Ck W c m B E (iP n gZ 0 9 K)->fI 83 #[fq c,.slice a1 n1 k1] W (uH c m B E W (kV one (iP n gZ 0 9 K)))):=fun W hW hK=>i1 _ W _ u1 (s1.below (h.fr hW)) (l1.below (h.fr hW)) hK (SB hv _ _ _ _);go_enter Tryz.func327,Tryz.ntmps327;go_wp2_with fail;refine(Yx c m B qn n gZ 0 9 E K _ HH.o.1 HH.o.2).mono ?_;rintro e w1 ⟨rfl,k1,f1⟩;obtain⟨d0,d1,fd⟩:=sj (CQ.o w1 f1);have K1:Hid (_/\_):=⟨k1,f1⟩;go_wp2_with fail;refine(C2.o _ K1.o.2 K1.o.1).mono ?_;rintro e w2 ⟨rfl,k2,f2⟩;have K2:Hid (_/\_):=⟨k2,f2⟩;go_wp2_with fail;go_end0
 exact⟨rfl,K2.o.1,K1.o.2.trans K2.o.2⟩
theorem Td{k:Nat}{a b c:dZ}{t:TypeId}(hh:w.heap[k]?=some (.cells #[a,b,c] t)):w.cell? ⟨k,0,none⟩=some a/\w.cell? ⟨k,1,none⟩=some b/\w.cell? ⟨k,2,none⟩=some c/\∀o,w.frozen? ⟨k,o,none⟩=false:=by refine⟨?_,?_,?_,?_⟩<;>simp[World.cell?,World.frozen?,hh]
theorem zn8(c m B q qr:Nat)(E:Nat->Addr)(e:fG)(ie:tY c m B E e)(one two:List Sm)(i1:q9 c m B E one)(i2:q9 c m B E two)(K:gM)(w:dY)(v1 v2:dZ)(u1 u2:List dZ)(hq:q<B)(hc:w.heap[q]?=some (.cells #[Ref.ptr qr,v1,v2] 342))(hr:kR w e (· < B) qr)(s1:lJ w v1 u1 (· < B))(l1:gX w one (· < B) u1)(s2:lJ w v2 u2 (· < B))(l2:gX w two (· < B) u2)(h:Ck w c m B E K)(hv:V3 K):fI 323 #[fq q,fq c] w (uH c m B E w (kV two (kV one (uq e 98 K)))):=by
 obtain⟨a1,n1,k1,rfl⟩:=s1.form;obtain⟨a2,n2,k2,rfl⟩:=s2.form;unfold Ref.ptr at hc;obtain⟨c0,c1,c2,fr⟩:=Td hc;have CQ:Hid (∀W,Fr c m w W->W.heap[q]?=some (.cells #[fq qr,.slice a1 n1 k1,.slice a2 n2 k2] 342)):=fun W hW=>by rw[(h.fr hW).block q hq];exact hc
 have C0:Hid (fI 321 #[fq c,fq qr,eF 2] w (uH c m B E w (uq e 98 K))):=YB c m B E e ie 98 (aj (ak rfl)) K w qr hr h hv;have C1:Hid (∀W,Fr c m w W->Ck W c m B E (uq e 98 K)->fI 83 #[fq c,.slice a1 n1 k1] W (uH c m B E W (kV one (uq e 98 K)))):=fun W hW hK=>i1 _ W _ u1 (s1.below (h.fr hW)) (l1.below (h.fr hW)) hK (Oa hv e 98);have C2:Hid (∀W,Fr c m w W->Ck W c m B E (kV one (uq e 98 K))->fI 83 #[fq c,.slice a2 n2 k2] W (uH c m B E W (kV two (kV one (uq e 98 K))))):=fun W hW hK=>i2 _ W _ u2 (s2.below (h.fr hW)) (l2.below (h.fr hW)) hK (BP one _ (Oa hv e 98));go_enter Tryz.func323,Tryz.ntmps323;go_wp2_with fail;refine C0.o.mono ?_;rintro r w1 ⟨rfl,k1,f1⟩;obtain⟨d0,d1,d2,fd⟩:=Td (CQ.o w1 f1);have K1:Hid (_/\_):=⟨k1,f1⟩;go_wp2_with fail;refine(C1.o _ K1.o.2 K1.o.1).mono ?_;rintro r w2 ⟨rfl,k2,f2⟩;obtain⟨j0,j1,j2,fj⟩:=Td (CQ.o w2 (K1.o.2.trans f2));have K2:Hid (_/\_):=⟨k2,f2⟩;go_wp2_with fail;refine(C2.o _ (K1.o.2.trans K2.o.2) K2.o.1).mono ?_;rintro r w3 ⟨rfl,k3,f3⟩;have K3:Hid (_/\_):=⟨k3,f3⟩;go_wp2_with fail;go_end0
 exact⟨rfl,K3.o.1,(K1.o.2.trans K2.o.2).trans K3.o.2⟩
theorem jW.below{n:Nat}(h:jW w n a (· < B) q)(k:Below B w w'):jW w' n a (· < B) q:=h.keep fun i hi=>k.block i hi
theorem kX.below{x:dX}(h:kX w x a (· < B) q)(k:Below B w w'):kX w' x a (· < B) q:=h.keep fun i hi=>k.block i hi
def uj(w:dY)(q:Nat)(eH undo:dX)(pa ps:Option Addr)(qn:Nat):Prop:=w.heap[q]?=some (.cells #[.string eH,.pointer pa,.pointer ps,.string undo,fq qn] 338)
theorem uj.cells{eH undo:dX}{pa ps:Option Addr}{qn:Nat}(h:uj w q eH undo pa ps qn):w.cell? ⟨q,1,none⟩=some (.pointer pa)/\w.cell? ⟨q,2,none⟩=some (.pointer ps)/\w.cell? ⟨q,4,none⟩=some (fq qn)/\∀o,w.frozen? ⟨q,o,none⟩=false:=by unfold uj at h;refine⟨?_,?_,?_,?_⟩<;>simp[World.cell?,World.frozen?,h]
theorem zdx(c m B q qn n gZ gG:Nat)(eH undo gH:dX)(pa ps:Option Addr)(E:Nat->Addr)(ex:Option fG)(ie:∀e,ex=some e->tY c m B E e)(K:gM)(w:dY)(hq:q<B)(hc:w.heap[q]?=some (.cells #[.string eH,.pointer pa,.pointer ps,.string undo,Ref.ptr qn] 338))(ha:nH w ex (· < B) (.pointer pa))(hs:qL w gH gG (· < B) (.pointer ps))(hn:jW w n gZ (· < B) qn)(h:Ck w c m B E K)(hv:V3 K):fI 319 #[fq q,fq c] w (uH c m B E w (iP n gZ 1 5 (tV gH gG (ou ex K)))):=by
 have hc':uj w q eH undo pa ps qn:=hc;have CQ:Hid (∀W,Fr c m w W->uj W q eH undo pa ps qn):=fun W hW=>by unfold uj;rw[(h.fr hW).block q hq];exact hc'
 obtain⟨c1,c2,c4,fr⟩:=hc'.cells;have C2:Hid (∀W,Fr c m w W->Ck W c m B E (tV gH gG (ou ex K))->fI 322 #[fq c,fq qn,eF 1,eF 5] W (uH c m B E W (iP n gZ 1 5 (tV gH gG (ou ex K))))):=fun W hW hK=>Yx c m B qn n gZ 1 5 E _ W hK (hn.below (h.fr hW));have HH:Hid (Ck w c m B E K):=h;have CA:Hid ((ex=none/\pa=none/\ou ex K=K)\/∃qa,pa=some ⟨qa,0,none⟩/\fI 321 #[fq c,fq qa,eF 1] w (uH c m B E w (ou ex K))):=by
  cases ex with
  |none=>have:Value.pointer pa=.pointer none:=ha;cases this;exact ak ⟨rfl,rfl,rfl⟩
  |some e=>
  obtain⟨qa,h1,h2⟩:=ha;cases h1;exact aj ⟨qa,rfl,YB c m B E e (ie e rfl) 105 (ak rfl) K w qa h2 h hv⟩
 have CB:Hid ((ps=none/\tV gH gG (ou ex K)=ou ex K)\/∃qs,ps=some ⟨qs,0,none⟩/\∀W,Fr c m w W->Ck W c m B E (ou ex K)->fI 314 #[fq c,fq qs,eF 1] W (uH c m B E W (tV gH gG (ou ex K)))):=by
  obtain⟨h1,h2⟩|⟨h1,qs,h2,h3⟩:=hs;·cases h2;exact ak ⟨rfl,by unfold tV;rw[aA h1]⟩
  cases h2;refine aj ⟨qs,rfl,fun W hW hK=>?_⟩;unfold tV;rw[ah (by omega)];exact Js c m B qs gG 105 gH E _ W hK (h3.below (h.fr hW)) (ak rfl) (YP hv ex)
 generalize ou ex K=K1 at *;generalize tV gH gG K1=K2 at *;obtain⟨rfl,rfl,rfl⟩|⟨qa,rfl,ca⟩:=CA.o
 ·obtain⟨rfl,rfl⟩|⟨qs,rfl,cb⟩:=CB.o
  ·clear CA CB;go_enter Tryz.func319,Tryz.ntmps319;go_wp2_with fail;refine(C2.o _ (Fr.refl _ _ _) HH.o).mono ?_;rintro r w1 ⟨rfl,k1,f1⟩;go_wp2_with fail;go_end0
   exact⟨rfl,k1,f1⟩
  have Te:Hid _:=cb;go_enter Tryz.func319,Tryz.ntmps319;go_wp2_with fail;refine(Te.o _ (Fr.refl _ _ _) HH.o).mono ?_;rintro r w1 ⟨rfl,k1,f1⟩;obtain⟨d1,d2,d4,fd⟩:=(CQ.o w1 f1).cells;have L1:Hid (_/\_):=⟨k1,f1⟩;go_wp2_with fail;refine(C2.o _ L1.o.2 L1.o.1).mono ?_;rintro r w2 ⟨rfl,k2,f2⟩;go_wp2_with fail;go_end0
  exact⟨rfl,k2,L1.o.2.trans f2⟩
 obtain⟨rfl,rfl⟩|⟨qs,rfl,cb⟩:=CB.o
 ·clear CA CB;go_enter Tryz.func319,Tryz.ntmps319;go_wp2_with fail;refine ca.mono ?_;rintro r w1 ⟨rfl,k1,f1⟩;obtain⟨d1,d2,d4,fd⟩:=(CQ.o w1 f1).cells;have L1:Hid (_/\_):=⟨k1,f1⟩;go_wp2_with fail;refine(C2.o _ L1.o.2 L1.o.1).mono ?_;rintro r w2 ⟨rfl,k2,f2⟩;go_wp2_with fail;go_end0
  exact⟨rfl,k2,L1.o.2.trans f2⟩
 have Te:Hid _:=cb;go_enter Tryz.func319,Tryz.ntmps319;go_wp2_with fail;refine ca.mono ?_;rintro r w1 ⟨rfl,k1,f1⟩;obtain⟨d1,d2,d4,fd⟩:=(CQ.o w1 f1).cells;have L1:Hid (_/\_):=⟨k1,f1⟩;go_wp2_with fail;refine(Te.o _ L1.o.2 L1.o.1).mono ?_;rintro r w2 ⟨rfl,k2,f2⟩;obtain⟨j1,j2,j4,fj⟩:=(CQ.o w2 (L1.o.2.trans f2)).cells;have L2:Hid (_/\_):=⟨k2,f2⟩;go_wp2_with fail;refine(C2.o _ (L1.o.2.trans L2.o.2) L2.o.1).mono ?_;rintro r w3 ⟨rfl,k3,f3⟩;go_wp2_with fail;go_end0
 exact⟨rfl,k3,(L1.o.2.trans L2.o.2).trans f3⟩
def zyo(B:Nat)(E:Nat->Addr)(w:dY)(K:gM)(e:Ending)(w':dY):Prop:=Below B w w'/\∃er,e=fM er/\((K.e=0/\er=.nilIface)\/(K.e≠0/\∃f,er=.iface 114 (fq f)/\qE w' f K.pl (E K.e)))
theorem zhc(w:dY):(Instr.makeMap 193 none).run Tryz.prog w=.ok (.map (some w.heap.size)) (w.alloc (.map #[] 0)):=rfl
def Km(w:dY):dY:=(w.alloc (.map #[] 0)).alloc (.cells #[.map (some w.heap.size),.pointer none] 195)
theorem OC(w:dY):gU w (Km w):=((aF _ _).alloc (ay _) _).alloc (by simp) _
variable{E:Nat->Addr}
theorem Zr(g:Gc w w.heap.size E):Ck (Km w) (w.heap.size+1) w.heap.size w.heap.size E ⟨[],0,0⟩:=by
 refine⟨g.below (OC w),by omega,none,?_,ay _,by omega,⟨#[],0,?_,rfl⟩,ak ⟨rfl,rfl⟩⟩;·exact new2
 show((w.alloc _).alloc _).heap[w.heap.size]?=_;rw[aI _ _ _ (by simp)];exact jX
theorem qqu(E:Nat->Addr)(l:List Sm)(w:dY)(hl:∀c m,q9 c m w.heap.size E l)(v:dZ)(vs:List dZ)(hs:lJ w v vs (· < w.heap.size))(hm:gX w l (· < w.heap.size) vs)(g:Gc w w.heap.size E):fI 42 #[v] w (zyo w.heap.size E w (kV l ⟨[],0,0⟩)):=by
 obtain⟨a1,n1,k1,rfl⟩:=hs.form;have mk:=zhc;have HB:Hid (fI 83 #[.pointer (some ⟨w.heap.size+1,0,none⟩),.slice a1 n1 k1] (Km w) (uH (w.heap.size+1) w.heap.size w.heap.size E (Km w) (kV l ⟨[],0,0⟩))):=
  hl _ _ _ _ _ vs (hs.below (OC w)) (hm.below (OC w)) (Zr g) (fun v hv=>by cases hv)
 have HC:Hid (Ck (Km w) (w.heap.size+1) w.heap.size w.heap.size E ⟨[],0,0⟩):=Zr g;go_enter Tryz.func42,Tryz.ntmps42;go_wp2_with fail;refine HB.o.mono ?_;rintro r w1 ⟨rfl,k1,f1⟩;generalize kV l ⟨[],0,0⟩=K at *;have hb:Hid (gU w w1):=(OC w).trans (HC.o.fr f1);obtain⟨pf,h1,h2,h3,h4,h5⟩:=k1.ex;obtain⟨c0,c1,fr⟩:=sj h1;obtain⟨h5,rfl⟩|⟨h5,f,rfl,h6,h7,h8,h9⟩:=h5;·go_wp2_with fail;go_ret;exact⟨hb.o,_,rfl,ak ⟨h5,rfl⟩⟩
 have HF:Hid _:=h9;go_wp2_with fail;go_ret;exact⟨hb.o,_,rfl,aj ⟨h5,f,rfl,HF.o⟩⟩
structure Gw(w:dY)(E:Nat->Addr):Prop where
 s:q8 w E
 ops:∀j(hj:j<28),w.cell? ⟨18,j,none⟩=some (sQ[j]'hj)
 lo:21<=w.heap.size
theorem Gw.below{w w':dY}{E:Nat->Addr}(h:Gw w E)(k:gU w w'):Gw w' E:=⟨h.s.below k,fun j hj=>by rw[aH (w:=w) (k.block _ (by show 18<w.heap.size;have:=h.lo;omega))];exact h.ops j hj,aK h.lo k.size⟩
theorem Gw.gl(h:Gw w E):Gl w (w.heap.size+2) (E 2) (E 3):=⟨h.s.v2,h.s.v3,h.ops,by have:=h.lo;omega⟩
theorem Gw.gc(h:Gw w E):Gc w w.heap.size E:=⟨h.s.v4,h.s.v5,h.s.v6,h.ops,h.lo⟩
def yN(o:List UInt8):List dZ:=o.map fun c=>Value.int .u8 (c.toNat:Int)
theorem zau:(Tryz.prog.info? 5).map (fun i=>(i.zero,i.size,i.bytes))=some (some (.int .u8 0),1,1):=by kernel_rfl
theorem Kn(o t:List UInt8):yN (o++t)=yN o++yN t:=by simp[yN]
def Zt(s:dX)(E:Nat->Addr)(w:dY)(e:Ending)(w':dY):Prop:=
 gU w w'/\∃v er,e=fM (.tuple #[v,er]) /\
  ((gI s=(0,0)/\er=.nilIface/\∃l vs,Px.read s=.ok l/\lJ w' v vs (gD w w')/\gX w' l (gD w w') vs) \/
   (gI s=(1,0)/\er=.iface 393 (.pointer (some (E 1)))) \/
   (∃c p f,2<=c/\c<=6/\gI s=(c,p)/\er=.iface 114 (fq f)/\qE w' f p (E c)))
theorem yfl(E:Nat->Addr)(hblk:∀l,jZ l->∀c m B,q9 c m B E l)(s:dX)(w:dY)(hs:s.size<=maxLen)(g:Gw w E):fI 20 #[.string s] w (Zt s E w):=by
 unfold maxLen at hs;have v1:=g.s.v1;have G0:Hid (Gw w E):=g;have HB:Hid (∀l,jZ l->∀c m B,q9 c m B E l):=hblk;by_cases Tf:300<s.size
 ·have t1:(300:Int)<s.size:=by omega
  have hck:Hid (gI s=(1,0)):=YT (by unfold Px.read;rw[aA Tf]);go_enter Tryz.func20,Tryz.ntmps20;go_wp2_with fail;go_region
  all_goals
   go_wp2_with fail;go_ret2;exact⟨zd3 (aF _ _),_,_,rfl,aj (ak ⟨hck.o,rfl⟩)⟩
 have t1:¬(300:Int)<s.size:=by omega
 go_enter Tryz.func20,Tryz.ntmps20;go_wp2_with fail;refine(zf6 s (E 2) (E 3) w (by omega) G0.o.lo G0.o.gl).mono ?_;rintro e w1 ⟨hb,v,er,rfl,hp⟩;cases hr:Px.read s with
 |error r=>
  obtain⟨c,p⟩:=r;rw[hr]at hp;obtain⟨rfl,f,rfl,hf⟩:=hp;have hc:=qsw (by omega) hr;have hF:Hid (qE w1 f p (E c)):=by
   obtain rfl|rfl:=hc;·exact hf
   exact hf
  have HH:Hid (gU w w1/\gI s=(c,p)):=⟨hb,YT hr⟩;unfold Ref.ptr;go_wp2_with fail;go_ret2;exact⟨HH.o.1,_,_,rfl,aj (aj ⟨c,p,f,by omega,by omega,HH.o.2,rfl,hF.o⟩)⟩
 |ok l=>
 rw[hr]at hp;obtain⟨rfl,vs,hs1,hl1⟩:=hp;obtain⟨a,n,cp,rfl⟩:=hs1.form;have hs2:lJ w1 (.slice a n cp) vs (· < w1.heap.size):=hs1.mono fun k hk=>hk.2;have hl2:gX w1 l (· < w1.heap.size) vs:=hl1.mono fun k hk=>hk.2;have HC:Hid _:=qqu E l w1 (fun c m=>HB.o l (Ao hr).1 c m _) (.slice a n cp) vs hs2 hl2 (G0.o.below hb).gc;have HH:Hid (gU w w1/\lJ w1 (.slice a n cp) vs (gD w w1)/\gX w1 l (gD w w1) vs/\Px.read s=.ok l):=⟨hb,hs1,hl1,hr⟩;have hck:Hid _:=Px.SE hr;have hE:Hid (Px.E4 (kV l ⟨[],0,0⟩)):=FD l _ (ak rfl);generalize kV l ⟨[],0,0⟩=K at *;go_wp2_with fail;refine(aB HC.o ?_);rintro e w2 ⟨hb2,er,rfl,hK⟩;have hb3:Hid (gU w w2):=HH.o.1.trans (hb2.mono HH.o.1.size);have hS:Hid (lJ w2 (.slice a n cp) vs (gD w w2)/\gX w2 l (gD w w2) vs):=⟨(HH.o.2.1.keep fun k hk=>hb2.block k hk.2).mono fun k hk=>⟨hk.1,aJ hk.2 hb2.size⟩,(HH.o.2.2.1.keep fun k hk=>hb2.block k hk.2).mono fun k hk=>⟨hk.1,aJ hk.2 hb2.size⟩⟩;obtain⟨hK,rfl⟩|⟨hK,f,rfl,hF⟩:=hK;·go_wp2_with fail;go_ret2;refine⟨hb3.o,_,_,rfl,ak ⟨?_,rfl,l,vs,HH.o.2.2.2,hS.o.1,hS.o.2⟩⟩;rw[hck.o,aA hK]
 have HF:Hid (qE w2 f K.pl (E K.e)):=hF;go_wp2_with fail;go_ret2;refine⟨hb3.o,_,_,rfl,aj (aj ⟨K.e,K.pl,f,?_,?_,?_,rfl,HF.o⟩)⟩;·have:=hE.o;unfold Px.E4 at this;omega
 ·have:=hE.o;unfold Px.E4 at this;omega
 rw[hck.o,ah hK]
