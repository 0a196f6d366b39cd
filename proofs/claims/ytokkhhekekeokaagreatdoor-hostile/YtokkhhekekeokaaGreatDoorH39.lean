import Derived.Test.YtokkhhekekeokaaGreatDoorH35
import Derived.Test.YtokkhhekekeokaaGreatDoorH36
import Derived.Test.YtokkhhekekeokaaGreatDoorH38
import Derived.Test.YtokkhhekekeokaaGreatDoorH02
set_option maxRecDepth 100000
set_option maxHeartbeats 4000000
namespace Go.Proofs.YtokkhhekekeokaaGreatDoor
open Go.RowKit
namespace Ed
def zy2 (s:ByteArray):ByteArray :=
 match Px.read s with
 | .error _=>⟨#[]⟩
 | .ok l=>if Px.check s=(0,0) then ⟨(Px.codeOf (Px.pgOf l)).toArray⟩ else ⟨#[]⟩
theorem zz0 {s:ByteArray} {l:List Px.Sm} (hr:Px.read s=.ok l) (h:Px.check s=(0,0)):zy2 s=⟨(Px.codeOf (Px.pgOf l)).toArray⟩:=by
 unfold zy2;rw[hr];exact if_pos h
theorem zzh {s:ByteArray} (h:Px.check s≠(0,0)):zy2 s=⟨#[]⟩:=by
 unfold zy2;cases Px.read s with
 | error r=>rfl
 | ok l=>exact if_neg h
theorem ya1 {s:ByteArray} (h:Px.check s=(0,0)):∃ l,Px.read s=.ok l∧zy2 s=⟨(Px.codeOf (Px.pgOf l)).toArray⟩:=by
 cases hr:Px.read s with
 | error r =>
  exfalso;have e:=Px.qf4 hr;rw[h] at e;subst e;unfold Px.read at hr;split at hr
  ·cases hr
  ·split at hr
   ·next hh =>
    injection hr with e
    exact absurd (congrArg Prod.fst e) (by first | (intro q;cases q) | (dsimp only;omega))
   ·split at hr
    ·next hh =>
     injection hr with e
     exact absurd (congrArg Prod.fst e) (by first | (intro q;cases q) | (dsimp only;omega))
    ·cases hr
 | ok l=>exact ⟨l,rfl,zz0 hr h⟩
theorem zz5 {E F:Nat→Addr} {s:ByteArray} {l:List Px.Sm} {v:Value} {us:List Value} {w:World} (hr:Px.read s=.ok l) (g:Gr w E F) (hs:Lg.SlL w v us (· < w.heap.size)) (hm:Lg.LsAt w l (· < w.heap.size) us) :
  Calls Tryz.prog 14 #[v] w fun e w1=>∃ pp,e=.returned (.pointer (some ⟨pp,0,none⟩)) ∧
   Hid (Calls Tryz.prog 13 #[.pointer (some ⟨pp,0,none⟩)] w1 fun e2 w2=>e2=.returned (.string ⟨(Px.codeOf (Px.pgOf l)).toArray⟩)∧Below w.heap.size w w2):=by
 refine (Mk.zm4 l (Px.qd0 hr).1 (Px.qxq hr).1 (Px.qxo hr).2 w v us hs hm g.k).mono ?_;rintro e w1 ⟨pp,rfl,hb,hp⟩;refine ⟨pp,rfl,?_⟩;obtain ⟨_,hl⟩:=Px.qxp hr;have hw:=Px.qqz l [];have hv:=Px.quw l [];simp only[List.length_nil,Nat.zero_add] at hw hv;refine (Cd.zvx _ _ pp _ w1 hp (zm7 hr).ok (by show (Px.vsS l []).length < _;omega) (by show (Px.wsS l []).length < _;omega) (by have:=Px.zy8 hr;omega)).mono ?_
 rintro e2 w2 ⟨rfl,b2⟩;exact ⟨rfl,hb.trans (b2.mono hb.size)⟩
def ybs (s:ByteArray) (w:World) (e:Ending) (w':World):Prop:=Below w.heap.size w w'∧e=.returned (.tuple #[.string (zy2 s),.int .i64 ((Px.check s).1:Int),.int .i64 ((Px.check s).2:Int)])
theorem results_tmp3 {fn:Func} {t u v:Tmp} (h:fn.results=#[.tmp t,.tmp u,.tmp v]) (tmps:Array Value) (P:Program) (w:World) :
  (results fn tmps).run P w=.ok (.tuple #[tmps.getD t undef,tmps.getD u undef,tmps.getD v undef]) w:=by
 simp[results,h]
theorem zzz (E F:Nat→Addr) (s:ByteArray) (w:World) (hs:s.size≤maxLen) (g:Gr w E F) :
  Calls Tryz.prog 5 #[.string s] w (ybs s w):=by
 have G0:Hid (Gr w E F):=g;have HR:Hid (Calls Tryz.prog 11 #[.string s] w (Lg.qol s E w)):=Lg.qj0 E (fun l hl c m B=>Lg.qub c m B E l hl) s w hs g.l
 clear g hs;go_enter Tryz.func5,Tryz.ntmps5
 go_wp2_with fail;refine HR.out.mono ?_;rintro e w1 ⟨hb,v,er,rfl,hc⟩;have HB:Hid (Below w.heap.size w w1):=hb;have G1:Hid (Gr w1 E F):=G0.out.below hb;clear hb;rcases hc with ⟨h1,rfl,l,vs,hr,hsl,hls⟩ | ⟨h1,rfl⟩ | ⟨c,p,f,h2,h3,h1,rfl,hF⟩
 ·have HM:Hid (_):=zz5 hr G1.out hsl hls;obtain ⟨va0,vn0,vc0,rfl⟩:=hsl.form;have HE:Hid (zy2 s=⟨(Px.codeOf (Px.pgOf l)).toArray⟩∧Px.check s=(0,0)):=⟨zz0 hr h1,h1⟩;clear hsl hls hr h1;generalize Px.codeOf (Px.pgOf l)=C at *;go_wp2_with fail;refine Calls.mono HM.out ?_;rintro e w2 ⟨pp,rfl,HQ⟩;go_wp2_with fail;refine Calls.mono HQ.out ?_;rintro e w3 ⟨rfl,b3⟩;have H3:Hid (Below w.heap.size w w3):=HB.out.trans (b3.mono HB.out.size);clear b3 HM HQ;go_wp2_with fail
  (try simp only[Exit.inBlock,Exit.then])
  refine bodyPost_ret (results_tmp3 rfl _ _ _) rfl ?_;refine ⟨H3.out,?_⟩;rw[HE.out.1,HE.out.2];rfl
 ·have HE:Hid (zy2 s=⟨#[]⟩∧Px.check s=(1,0)):=⟨zzh (by rw[h1];decide),h1⟩
  go_wp2_with fail;refine (Lg.qo0 E _ G1.out.l.s).mono ?_;rintro e w2 ⟨rfl,b2⟩;have B2:Hid (Below w.heap.size w w2):=HB.out.trans (b2.mono HB.out.size);clear b2;go_wp2_with fail
  (try simp only[Exit.inBlock,Exit.then])
  refine bodyPost_ret (results_tmp3 rfl _ _ _) rfl ?_;refine ⟨B2.out,?_⟩;rw[HE.out.1,HE.out.2];rfl
 ·have HF:Hid (Lg.qe9 w1 f p (E c)):=hF;have HE:Hid (zy2 s=⟨#[]⟩∧Px.check s=(c,p)):=⟨zzh (by rw[h1];intro e;have:=congrArg Prod.fst e;dsimp only at this;omega),h1⟩
  clear hF;go_wp2_with fail;refine (Lg.qmh E c p f _ G1.out.l.s HF.out ⟨h2,h3⟩).mono ?_;rintro e w2 ⟨rfl,b2⟩;have B2:Hid (Below w.heap.size w w2):=HB.out.trans (b2.mono HB.out.size);clear b2;go_wp2_with fail
  (try simp only[Exit.inBlock,Exit.then])
  refine bodyPost_ret (results_tmp3 rfl _ _ _) rfl ?_;refine ⟨B2.out,?_⟩;rw[HE.out.1,HE.out.2];rfl
open Go.RowKit
def zys (c:List UInt8) (a:List Int):Nat×Nat×List Px.Ask :=
 match Px.good c with
 | none=>(7,0,[])
 | some P=>(0,Rn.qkh P a,if Rn.qkh P a=4 then [] else Rn.qh3 P a)
theorem ybo (c:List UInt8) (a:List Int):(zys c a).2.1≤4:=by
 unfold zys;cases Px.good c with
 | none=>exact Nat.zero_le _
 | some P=>exact Px.ya8 P 4000000 (Px.qi2 P a) (Nat.zero_le _)
def ybr (c:List UInt8) (a:List Int) (w:World) (e:Ending) (w':World):Prop:=Below w.heap.size w w'∧∃ va,e=.returned (.tuple #[va,.int .i64 ((zys c a).2.1:Int),.int .i64 ((zys c a).1:Int)])∧w'.ownsRow w.heap.size 35 4 va (zys c a).2.2.length (Rn.askC (zys c a).2.2)
theorem zzy (E F:Nat→Addr) (c:List UInt8) (a:List Int) (sv:Value) (w:World) (hs:c.length≤maxLen) (g:Gr w E F) (ha:Rn.GivenAt w sv a) (hlen:a.length≤140737488355328) (hra:∀ x∈a,Px.R64 x) :
  Calls Tryz.prog 8 #[.string ⟨c.toArray⟩,sv] w (ybr c a w):=by
 have G0:Hid (Gr w E F∧Rn.GivenAt w sv a∧a.length≤140737488355328∧∀ x∈a,Px.R64 x):=⟨g,ha,hlen,hra⟩;have HR:Hid (_):=Cd.yae c w hs;obtain ⟨ad,ac,rfl,_⟩:=ha;clear g hs hlen hra;generalize hS:(⟨c.toArray⟩:ByteArray)=S at *;go_enter Tryz.func8,Tryz.ntmps8
 go_wp2_with fail;refine Calls.mono HR.out ?_;rintro e w1 ⟨hb,hc⟩;have HB:Hid (Below w.heap.size w w1):=hb;have G1:Hid (Gr w1 E F):=G0.out.1.below hb;clear hb;rcases hc with ⟨P,pp,hg,rfl,hP,hf⟩ | ⟨hg,f,rfl⟩
 ·have HM:Hid (_):=Rn.zmz hP G1.out.m (GivenAt.below G0.out.2.1 HB.out) G0.out.2.2.1 G0.out.2.2.2 ⟨hf.ver,hf.ok,by have:=hf.li;omega,by have:=hf.lw;omega,by have:=hf.nv;omega⟩
  have HE:Hid (zys c a=(0,Rn.qkh P a,if Rn.qkh P a=4 then [] else Rn.qh3 P a)):=by unfold Hid zys;rw[hg]
  have hlen:(if Rn.qkh P a=4 then [] else Rn.qh3 P a).length≤4000000:=by
   split
   ·exact Nat.zero_le _
   ·have:=Px.qzv P 4000000 (Px.qi2 P a)
    have e0:(Px.qi2 P a).asks.length=0:=rfl;unfold Rn.qh3;omega
  generalize hX:(if Rn.qkh P a=4 then [] else Rn.qh3 P a)=X at *
  have HX:Hid (_):=hX;clear hP hf hg hX;go_wp2_with fail;refine Calls.mono HM.out ?_;rintro e w3 ⟨b3,va,rfl,hv4,hown⟩;have hown2:w3.ownsRow w1.heap.size 122 4 va X.length (Rn.askC X):=by
   rw[← HX.out];by_cases h4:Rn.qkh P a=4
   ·rw[if_pos h4,hv4 h4];exact World.ownsRow_nil _ _ _ _
   ·rw[if_neg h4];exact hown h4
  have HA:Hid (_):=zjz _ va w3 (Lw.qm8 hown2) (by omega)
  obtain ⟨a1,n1,c1,rfl⟩:=Ref.qad hown2;have H3:Hid (Below w.heap.size w w3):=HB.out.trans (b3.mono HB.out.size);clear hown hown2 hv4 b3 HM;generalize Rn.qkh P a=en at *;go_wp2_with fail;refine Calls.mono HA.out ?_;rintro e w4 ⟨vb,rfl,b4,ho4⟩;obtain ⟨a2,n2,c2,rfl⟩:=Ref.qad ho4;have H4:Hid (_∧_):=⟨b4,ho4⟩;clear b4 ho4 HA;go_wp2_with fail
  (try simp only[Exit.inBlock,Exit.then])
  refine bodyPost_ret (results_tmp3 rfl _ _ _) rfl ?_;refine ⟨H3.out.trans (H4.out.1.mono H3.out.size),.slice a2 n2 c2,?_,?_⟩
  ·rw[HE.out];rfl
  ·rw[HE.out];exact Rn.qvr H4.out.2 H3.out.size
 ·have HE:Hid (zys c a=(7,0,[])):=by unfold Hid zys;rw[hg]
  clear hg;go_wp2_with fail;refine (Lg.yab E f _ G1.out.l.s).mono ?_;rintro e w2 ⟨rfl,b2⟩;have B2:Hid (Below w.heap.size w w2):=HB.out.trans (b2.mono HB.out.size);clear b2;go_wp2_with fail
  (try simp only[Exit.inBlock,Exit.then])
  refine bodyPost_ret (results_tmp3 rfl _ _ _) rfl ?_;refine ⟨B2.out,.slice none 0 0,?_,?_⟩
  ·rw[HE.out];rfl
  ·rw[HE.out];exact World.ownsRow_nil _ _ _ _
end Ed
end Go.Proofs.YtokkhhekekeokaaGreatDoor
