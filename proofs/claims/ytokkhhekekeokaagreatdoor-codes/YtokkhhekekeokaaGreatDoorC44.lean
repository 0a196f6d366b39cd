import Derived.Test.YtokkhhekekeokaaGreatDoorC40
import Derived.Test.YtokkhhekekeokaaGreatDoorC43
set_option maxRecDepth 100000
set_option maxHeartbeats 4000000
namespace Go.Proofs.YtokkhhekekeokaaGreatDoor
open Go.RowKit Tryz
namespace Ed
open Cd Lg Lw Mk Px Ref Rn
def yV (s:fq):fq :=
 match Px.read s with
 | .error _=>⟨#[]⟩
 | .ok l=>if Px.check s=(0,0) then ⟨(Px.codeOf (iL l)).toArray⟩ else ⟨#[]⟩
variable {s:fq}{l:List Sm}
theorem Z4 (hr:Px.read s=.ok l)(h:Px.check s=(0,0)):yV s=⟨(Px.codeOf (iL l)).toArray⟩:=by
 unfold yV;rw[hr];exact if_pos h
theorem Uo (h:Px.check s≠(0,0)):yV s=⟨#[]⟩:=by
 unfold yV;cases Px.read s with
 | error r=>rfl
 | ok l=>exact if_neg h
theorem ya1 (h:Px.check s=(0,0)):∃ l,Px.read s=.ok l/\yV s=⟨(Px.codeOf (iL l)).toArray⟩:=by
 cases hr:Px.read s with
 | error r =>
  exfalso;have e:=FX hr;rw[h] at e;subst e;unfold Px.read at hr;split at hr
  ·cases hr
  ·split at hr
   ·next hh =>
    injection hr with e
    exact absurd (congrArg Prod.fst e) (by first | (intro q;cases q) | (dsimp only;omega))
   ·split at hr
    ·next hh =>
     injection hr with e
     exact absurd (congrArg Prod.fst e) (by first | (intro q;cases q) | (dsimp only;omega))
    ·cases hr
 | ok l=>exact ⟨l,rfl,Z4 hr h⟩
theorem zz5 {E F:Nat->Addr}{v:fC}{us:List fC}{w:fu}(hr:Px.read s=.ok l)(g:Gr w E F)(hs:kg w v us (· < w.heap.size))(hm:gF w l (· < w.heap.size) us) :
  Calls prog 14 #[v] w fun e w1=>∃ pp,e=.returned (.pointer (some ⟨pp,0,none⟩)) /\
   Hid (Calls prog 13 #[.pointer (some ⟨pp,0,none⟩)] w1 fun e2 w2=>e2=.returned (.string ⟨(Px.codeOf (iL l)).toArray⟩)/\Below w.heap.size w w2):=by
 refine (zm4 l (EC hr).1 (OC hr).1 (qxo hr).2 w v us hs hm g.k).mono ?_;rintro e w1 ⟨pp,rfl,hb,hp⟩;refine ⟨pp,rfl,?_⟩;obtain ⟨_,hl⟩:=Na hr;have hw:=D7 l [];have hv:=FZ l [];simp only[aL,bX] at hw hv;refine (zvx _ _ pp _ w1 hp (zm7 hr).ok (by show (iV l []).length < _;omega) (by show (jq l []).length < _;omega) (by have:=Ri hr;omega)).mono ?_
 rintro e2 w2 ⟨rfl,b2⟩;exact ⟨rfl,hb.trans (b2.mono hb.size)⟩
def ybs (s:fq)(w:fu)(e:Ending)(w':fu):Prop:=Below w.heap.size w w'/\e=.returned (.tuple #[.string (yV s),.int .i64 ((Px.check s).1:Int),.int .i64 ((Px.check s).2:Int)])
theorem results_tmp3 {fn:Func}{t u v:Tmp}(h:fn.results=#[.tmp t,.tmp u,.tmp v])(tmps:Array fC)(P:Program)(w:fu) :
  (results fn tmps).run P w=.ok (.tuple #[tmps.getD t undef,tmps.getD u undef,tmps.getD v undef]) w:=by
 simp[results,h]
theorem zzz (E F:Nat->Addr)(s:fq)(w:fu)(hs:s.size<=maxLen)(g:Gr w E F) :
  Calls prog 5 #[.string s] w (ybs s w):=by
 have G0:Hid (Gr w E F):=g;have HR:Hid (Calls prog 11 #[.string s] w (YE s E w)):=Lg.PV E (fun l hl c m B=>qub c m B E l hl) s w hs g.l
 clear g hs;go_enter func5,ntmps5
 go_wp2_with fail;refine HR.o.mono ?_;rintro e w1 ⟨hb,v,er,rfl,hc⟩;have HB:Hid (Below w.heap.size w w1):=hb;have G1:Hid (Gr w1 E F):=G0.o.below hb;clear hb;rcases hc with ⟨h1,rfl,l,vs,hr,hsl,hls⟩ | ⟨h1,rfl⟩ | ⟨c,p,f,h2,h3,h1,rfl,hF⟩
 ·have HM:Hid (_):=zz5 hr G1.o hsl hls;obtain ⟨va0,vn0,vc0,rfl⟩:=hsl.form;have HE:Hid (yV s=⟨(Px.codeOf (iL l)).toArray⟩/\Px.check s=(0,0)):=⟨Z4 hr h1,h1⟩;clear hsl hls hr h1;generalize Px.codeOf (iL l)=C at *;go_wp2_with fail;refine aA HM.o ?_;rintro e w2 ⟨pp,rfl,HQ⟩;go_wp2_with fail;refine aA HQ.o ?_;rintro e w3 ⟨rfl,b3⟩;have H3:Hid (Below w.heap.size w w3):=HB.o.trans (b3.mono HB.o.size);clear b3 HM HQ;go_wp2_with fail
  (try simp only[Exit.inBlock,Exit.then])
  refine bodyPost_ret (results_tmp3 rfl _ _ _) rfl ?_;refine ⟨H3.o,?_⟩;rw[HE.o.1,HE.o.2];rfl
 ·have HE:Hid (yV s=⟨#[]⟩/\Px.check s=(1,0)):=⟨Uo (by rw[h1];decide),h1⟩
  go_wp2_with fail;refine (qo0 E _ G1.o.l.s).mono ?_;rintro e w2 ⟨rfl,b2⟩;have B2:Hid (Below w.heap.size w w2):=HB.o.trans (b2.mono HB.o.size);clear b2;go_wp2_with fail
  (try simp only[Exit.inBlock,Exit.then])
  refine bodyPost_ret (results_tmp3 rfl _ _ _) rfl ?_;refine ⟨B2.o,?_⟩;rw[HE.o.1,HE.o.2];rfl
 ·have HF:Hid (oV w1 f p (E c)):=hF;have HE:Hid (yV s=⟨#[]⟩/\Px.check s=(c,p)):=⟨Uo (by rw[h1];intro e;have:=congrArg Prod.fst e;dsimp only at this;omega),h1⟩
  clear hF;go_wp2_with fail;refine (qmh E c p f _ G1.o.l.s HF.o ⟨h2,h3⟩).mono ?_;rintro e w2 ⟨rfl,b2⟩;have B2:Hid (Below w.heap.size w w2):=HB.o.trans (b2.mono HB.o.size);clear b2;go_wp2_with fail
  (try simp only[Exit.inBlock,Exit.then])
  refine bodyPost_ret (results_tmp3 rfl _ _ _) rfl ?_;refine ⟨B2.o,?_⟩;rw[HE.o.1,HE.o.2];rfl
def zI (c:List UInt8)(a:List Int):Nat×Nat×List Px.Ask :=
 match Px.good c with
 | none=>(7,0,[])
 | some P=>(0,uZ P a,if uZ P a=4 then [] else yQ P a)
def ybr (c:List UInt8)(a:List Int)(w:fu)(e:Ending)(w':fu):Prop:=Below w.heap.size w w'/\∃ va,e=.returned (.tuple #[va,.int .i64 ((zI c a).2.1:Int),.int .i64 ((zI c a).1:Int)])/\w'.ownsRow w.heap.size 35 4 va (zI c a).2.2.length (jw (zI c a).2.2)
theorem zzy (E F:Nat->Addr)(c:List UInt8)(a:List Int)(sv:fC)(w:fu)(hs:c.length<=maxLen)(g:Gr w E F)(ha:Rn.jg w sv a)(hlen:a.length<=140737488355328)(hra:∀ x∈a,nA x) :
  Calls prog 8 #[.string ⟨c.toArray⟩,sv] w (ybr c a w):=by
 have G0:Hid (Gr w E F/\Rn.jg w sv a/\a.length<=140737488355328/\∀ x∈a,nA x):=⟨g,ha,hlen,hra⟩;have HR:Hid (_):=yae c w hs;obtain ⟨ad,ac,rfl,_⟩:=ha;clear g hs hlen hra;generalize hS:(⟨c.toArray⟩:fq)=S at *;go_enter func8,ntmps8
 go_wp2_with fail;refine aA HR.o ?_;rintro e w1 ⟨hb,hc⟩;have HB:Hid (Below w.heap.size w w1):=hb;have G1:Hid (Gr w1 E F):=G0.o.1.below hb;clear hb;rcases hc with ⟨P,pp,hg,rfl,hP,hf⟩ | ⟨hg,f,rfl⟩
 ·have HM:Hid (_):=zmz hP G1.o.m (jg.below G0.o.2.1 HB.o) G0.o.2.2.1 G0.o.2.2.2 ⟨hf.ver,hf.ok,by have:=hf.li;omega,by have:=hf.lw;omega,by have:=hf.nv;omega⟩
  have HE:Hid (zI c a=(0,uZ P a,if uZ P a=4 then [] else yQ P a)):=by unfold Hid zI;rw[hg]
  have hlen:(if uZ P a=4 then [] else yQ P a).length<=4000000:=by
   split
   ·exact aK _
   ·have:=Px.VG P 4000000 (yC P a)
    have e0:(yC P a).fI.length=0:=rfl;unfold yQ;omega
  generalize hX:(if uZ P a=4 then [] else yQ P a)=X at *
  have HX:Hid (_):=hX;clear hP hf hg hX;go_wp2_with fail;refine aA HM.o ?_;rintro e w3 ⟨b3,va,rfl,hv4,hown⟩;have hown2:w3.ownsRow w1.heap.size 122 4 va X.length (jw X):=by
   rw[<- HX.o];by_cases h4:uZ P a=4
   ·rw[if_pos h4,hv4 h4];exact aT _ _ _ _
   ·rw[if_neg h4];exact hown h4
  have HA:Hid (_):=zjz _ va w3 (Kt hown2) (by omega)
  obtain ⟨a1,n1,c1,rfl⟩:=jm hown2;have H3:Hid (Below w.heap.size w w3):=HB.o.trans (b3.mono HB.o.size);clear hown hown2 hv4 b3 HM;generalize uZ P a=en at *;go_wp2_with fail;refine aA HA.o ?_;rintro e w4 ⟨vb,rfl,b4,Ur⟩;obtain ⟨a2,n2,c2,rfl⟩:=jm Ur;have H4:Hid (_/\_):=⟨b4,Ur⟩;clear b4 Ur HA;go_wp2_with fail
  (try simp only[Exit.inBlock,Exit.then])
  refine bodyPost_ret (results_tmp3 rfl _ _ _) rfl ?_;refine ⟨H3.o.trans (H4.o.1.mono H3.o.size),.slice a2 n2 c2,?_,?_⟩
  ·rw[HE.o];rfl
  ·rw[HE.o];exact Zj H4.o.2 H3.o.size
 ·have HE:Hid (zI c a=(7,0,[])):=by unfold Hid zI;rw[hg]
  clear hg;go_wp2_with fail;refine (yab E f _ G1.o.l.s).mono ?_;rintro e w2 ⟨rfl,b2⟩;have B2:Hid (Below w.heap.size w w2):=HB.o.trans (b2.mono HB.o.size);clear b2;go_wp2_with fail
  (try simp only[Exit.inBlock,Exit.then])
  refine bodyPost_ret (results_tmp3 rfl _ _ _) rfl ?_;refine ⟨B2.o,.slice none 0 0,?_,?_⟩
  ·rw[HE.o];rfl
  ·rw[HE.o];exact aT _ _ _ _
