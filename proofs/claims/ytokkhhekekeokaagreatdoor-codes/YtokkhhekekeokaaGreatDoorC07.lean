import Derived.Test.YtokkhhekekeokaaGreatDoorC06
import Derived.Deep.OwnRows
set_option maxRecDepth 100000
set_option maxHeartbeats 4000000
namespace Go.Proofs.YtokkhhekekeokaaGreatDoor
open Go.RowKit Tryz
namespace Ref
open Px
variable {W w w':fu}{B b c cap g i m n:Nat}{V:Vs}{s:Rs}{tv u v va vh vl vp vv:fC}{ex pv qv:List fC}
theorem St.beside (h:St w B c V s vv vh vl va vp pv ex)(hv:v∈pv++ex):∀ k,v.ownBlock=some k->¬ (k=c\/va.ownBlock=some k):=by
 intro k hk hh;rcases hh with rfl | hh
 ·exact (h.sep.own v (by simp only[bY];exact ah (ah (ah (ah hv)))) _ hk).2.1 rfl
 ·obtain ⟨i,hi⟩:=List.mem_iff_getElem?.1 hv;exact h.sep.mem (i:=4+i) (j:=2) (by rw[show 4+i=i+1+1+1+1 by omega];exact hi) (show (vh::vl::va::vp::(pv++ex))[2]?=some va from rfl) (by omega) k hk hh
theorem St.Fp (h:St w B c V s vv vh vl va vp pv ex)(ht:fO (fun k=>k=c\/va.ownBlock=some k) w w'):Below B w w':=by
 refine ht.mY (by have:=h.lt;have:=h.hB;omega) fun k hk=>?_
 rcases hk with rfl | hk
 ·exact h.hB
 ·exact (h.sep.own va (by simp) k hk).1
theorem St.wB (h:St w B c V s vv vh vl va vp pv ex)(ht:fO (·=c) w w'):Below B w w' :=
 ht.mY (by have:=h.lt;have:=h.hB;omega) fun k hk=>by rw[hk];exact h.hB
variable {top:List (fq×Int)}
theorem St.popped {ps:List (List (fq×Int))}(h:St w B c V s vv vh vl va (.slice (some ⟨g,0,none⟩) (n+1) cap) (qv++[tv]) ex)(hp:s.fG=ps++[top])(hn:n=ps.length) :
  St (w.setCell ⟨c,4,none⟩ (.slice (some ⟨g,0,none⟩) n cap)) B c V { s with fG:=ps } vv vh vl va (.slice (some ⟨g,0,none⟩) n cap) qv (tv::ex)/\(w.setCell ⟨c,4,none⟩ (.slice (some ⟨g,0,none⟩) n cap)).ownsRow B 190 2 tv top.length (qK top):=by
 subst hn;have hT:fO (·=c) w (w.setCell ⟨c,4,none⟩ (.slice (some ⟨g,0,none⟩) ps.length cap)):=qL (fO.refl _ _) rfl
 have qM:qv.length=ps.length:=by
  have:=h.Mc
  rw[hp] at this
  simpa using this
 have hne:∀ v∈vh::vl::va::(.slice (some ⟨g,0,none⟩) (ps.length+1) cap)::((qv++[tv])++ex),∀ k,v.ownBlock=some k->¬ k=c:=fun v hv k hk=>(h.sep.own v hv k hk).2.1
 have hB:=h.hB;refine ⟨⟨hB,by rw[heap_set _ h.at_];simp,gZ h.vars hT fun k hk=>by have:=h.mV k hk;omega,h.mV,gZ h.held hT (hne _ (by simp)),h.left.jG hT (hne _ (by simp)),gZ h.fI hT (hne _ (by simp)),?_,?_,?_⟩,?_⟩
 ·have hh:=h.fG;rw[hp,ay] at hh;have h2:=ownsRow_pop (n:=ps.length) (xs:=qv) (last:=[tv]) (by omega) hh
  exact gZ h2 hT (fun k hk=>hne (.slice (some ⟨g,0,none⟩) (ps.length+1) cap) (by simp) k hk)
 ·intro i p v hpi Mh;dsimp only at hpi;have hlt:i < ps.length:=(aU.1 hpi).1;refine gZ (h.each i p v ?_ ?_) hT (hne _ (by simp[List.mem_of_getElem? Mh]))
  ·rw[hp,aQ hlt];exact hpi
  ·rw[aQ (by omega)];exact Mh
 ·have hs:=Sep.turn (A:=[vh,vl,va]) (v:=.slice (some ⟨g,0,none⟩) (ps.length+1) cap) (v':=.slice (some ⟨g,0,none⟩) ps.length cap) (R:=(qv++[tv])++ex) h.sep hT.size (by have:=h.lt;omega) h.lt (ak rfl)
  simpa using hs
 ·refine gZ (h.each ps.length top tv ?_ ?_) hT (hne _ (by simp))
  ·rw[hp];simp
  ·rw[<- qM];simp
theorem St.Mi (h:St w B c V s vv vh vl va vp pv ex)(hp:s.fG≠[]) :
  ∃ g cap n qv tv,vp=.slice (some ⟨g,0,none⟩) (n+1) cap/\n+1<=cap/\cap<=maxLen/\n=s.fG.dropLast.length/\pv=qv++[tv]/\qv.length=n/\s.fG=s.fG.dropLast++[s.fG.getLastD []]/\w.cell? ⟨g,n,none⟩=some tv/\∀ o,w.frozen? ⟨g,o,none⟩=false:=by
 have hpl:=bV.2 hp;have hpv:=h.Mc;have hpe:s.fG=s.fG.dropLast++[s.fG.getLastD []]:=by
  obtain ⟨qs,q,e⟩:∃ qs q,s.fG=qs++[q]:=⟨_,_,(bH hp).symm⟩;rw[e];simp[List.getLastD_eq_getLast?]
 obtain ⟨h1,h2⟩:=h.fG;rcases h2 with ⟨_,h2⟩ | ⟨g,cap,cur,rfl,hg,hh,hn,hm,hz,ht⟩
 ·omega
 ·have hne:pv≠[]:=fun e=>by rw[e] at hpv;simp at hpv;omega
  have PG:pv=pv.dropLast++[pv.getLast hne]:=(bH hne).symm;have hdl:s.fG.dropLast.length=s.fG.length - 1:=cO;refine ⟨g,cap,s.fG.dropLast.length,pv.dropLast,pv.getLast hne,by rw[hdl];congr 1;omega,by omega,hm,rfl,PG,by rw[cO,hdl];omega,hpe,?_,fun o=>by simp[World.frozen?,hh]⟩
  have e:cur[s.fG.dropLast.length]?=pv[s.fG.dropLast.length]?:=by
   rw[<- ht,bC (by omega)];simp
  simp only[World.cell?,hh];rw[e,hdl,<- hpv,<- List.getLast?_eq_getElem?,List.getLast?_eq_some_getLast hne];rfl
theorem Ih {a:Option Addr}(h:w.ownsRow B 190 2 (.slice a n c) top.length (qK top)):n=top.length/\top.length<=maxLen/\∀ j (hj:j < top.length),∃ g,a=some ⟨g,0,none⟩/\w.cell? ⟨g,j * 2,none⟩=some (.string top[j].1)/\w.cell? ⟨g,j * 2+1,none⟩=some (.int .i64 top[j].2):=by
 rcases h.2 with ⟨h1,h2⟩ | ⟨g,cap,cur,h1,h2,h3,h4,h5,h6,h7⟩
 ·cases h1;exact ⟨h2.symm,by rw[h2];exact aK _,fun j hj=>by omega⟩
 ·cases h1;refine ⟨rfl,by omega,fun j hj=>⟨g,rfl,?_,?_⟩⟩
  ·have hc:w.cell? ⟨g,j * 2,none⟩=(qK top)[j * 2]?:=by
    rw[<- h7,bC (by omega)];simp[World.cell?,h3]
   rw[hc];exact (V7 top j hj).1
  ·have hc:w.cell? ⟨g,j * 2+1,none⟩=(qK top)[j * 2+1]?:=by
    rw[<- h7,bC (by omega)];simp[World.cell?,h3]
   rw[hc];exact (V7 top j hj).2
theorem F1 (w:fq)(v:Int)(L:List (fq×Int))(s:Rs):(Px.tries w v true 3 1 s).2.fI <+: (l9 ((w,v)::L) s).fI:=by
 rw[l9];cases h:Px.tries w v true 3 1 s with
 | mk o s1 =>
  match o with
  | none=>exact aO _
  | some none=>exact aO _
  | some (some _)=>exact UQ L s1
theorem _root_.Go.RowKit.Below.oq (h:Below B w.drew w'):Below B w w':=⟨h.os,h.tape,h.output,h.size,h.block⟩
theorem St.fewer (h:St w B c V s vv vh vl va vp pv (v::ex)):St w B c V s vv vh vl va vp pv ex :=
 ⟨h.hB,h.at_,h.vars,h.mV,h.held,h.left,h.fI,h.fG,h.each,h.sep.sub (List.Sublist.cons_cons _ (List.Sublist.cons_cons _ (List.Sublist.cons_cons _ (List.Sublist.cons_cons _ (List.Sublist.append (List.Sublist.refl _) (List.sublist_cons_self _ _))))))⟩
theorem St.Ii (h:St w B c V s vv vh vl va vp pv ex):St (w.setCell ⟨c,5,none⟩ (.int .i64 3)) B c V { s with over:=3 } vv vh vl va vp pv ex :=
 h.own (qL (fO.refl _ _) rfl) (by rw[heap_set _ h.at_];simp) rfl rfl rfl rfl
theorem Wi (B c:Nat)(V:Vs)(a:Px.Ask)(s:Rs)(vv vh vl va vp:fC)(pv ex:List fC)(w:fu)(h:St w B c V s vv vh vl va vp pv ex)(hl:s.fI.length<=1000000000)(hn:s.left=[]) :
  Calls prog 88 #[.pointer (some ⟨c,0,none⟩),.agg #[.string a.fD,.int .i64 a.arg,.int .i64 (a.nth:Int),.bool a.undo]] w fun e w'=>e=.returned (.tuple #[.int .i64 0,.bool false])/\∃ vl' va',St w' B c V { s with fI:=s.fI++[a],stop:=true } vv vh vl' va' vp pv ex/\fO (fun k=>k=c\/va.ownBlock=some k) w w':=by
 have:=V8 B c V a s vv vh vl va vp pv ex w h hl
 unfold uo at this;rw[Mf a hn] at this;exact this
theorem Mj (B c:Nat)(V:Vs)(a:Px.Ask)(s:Rs)(vv vh vl va vp:fC)(pv ex:List fC)(w:fu)(h:St w B c V s vv vh vl va vp pv ex)(hl:s.fI.length<=1000000000){n:Int}{r:List Int}(hn:s.left=n::r) :
  Calls prog 88 #[.pointer (some ⟨c,0,none⟩),.agg #[.string a.fD,.int .i64 a.arg,.int .i64 (a.nth:Int),.bool a.undo]] w fun e w'=>e=.returned (.tuple #[.int .i64 n,.bool true])/\∃ vl' va',St w' B c V { s with fI:=s.fI++[a],left:=r } vv vh vl' va' vp pv ex/\fO (fun k=>k=c\/va.ownBlock=some k) w w':=by
 have:=V8 B c V a s vv vh vl va vp pv ex w h hl
 unfold uo at this;rw[Fh a hn] at this;exact this
theorem Wj (B c:Nat)(V:Vs)(s:Rs)(vv vh vl va vp:fC)(pv ex:List fC)(w:fu)(h:St w B c V s vv vh vl va vp pv ex)(hp:s.fG≠[])(hb:(lS s).fI.length<=1000000000)(ho:s.over=0) :
  Calls prog 31 #[.pointer (some ⟨c,0,none⟩)] w fun e w'=>e=.returned (.tuple #[])/\Below B w w'/\∃ vl' va' vp' pv',St w' B c V (lS s) vv vh vl' va' vp' pv' ex:=by
 obtain ⟨c0,c1,c2,c3,c4,c5,c6,c7,cf⟩:=nk h.at_;obtain ⟨g,cap,n,qv,tv,rfl,hcap,hcm,hn,rfl,vI,hpe,hcell,hfz⟩:=h.Mi hp;generalize hps:s.fG.dropLast=ps at *;generalize htop:s.fG.getLastD []=top at *;obtain ⟨hS,hrow⟩:=h.popped hpe hn;obtain ⟨ta,tn,tc,rfl⟩:=jm hrow;obtain ⟨rfl,PI,hcells⟩:=Ih hrow;have hU:lS s=l9 top.reverse { s with fG:=ps }:=by unfold lS;rw[hps,htop]
 have hBw:=h.wB (w':=w.setCell ⟨c,4,none⟩ (.slice (some ⟨g,0,none⟩) n cap)) (qL (fO.refl _ _) rfl);have H:Hid (_/\_/\_/\_/\_):=⟨hS,hrow,hU,hBw,hb⟩;unfold maxLen at hcm PI;clear hS hrow hU hBw h hpe hps htop hcells hb hn vI hp;go_enter func31,ntmps31
 go_wp2_with fail;go_loopw [4] (fun i wr=>∃ j:Nat,j<=top.length/\i=.int .i64 ((j:Int) - 1)/\Hid (Below B w wr/\∃ s' vl' va',St wr B c V s' vv vh vl' va' (.slice (some ⟨g,0,none⟩) n cap) qv (.slice ta top.length tc::ex)/\wr.ownsRow B 190 2 (.slice ta top.length tc) top.length (qK top)/\l9 (top.take j).reverse s'=lS s/\s'.over=0)) (fun i _=>((intOf i)+1).toNat)
 case atStart=>exact ⟨top.length,aj _,by go_num,H.o.2.2.2.1,_,_,_,H.o.1,H.o.2.1,by rw[H.o.2.2.1,cK],ho⟩
 case round =>
  obtain ⟨j,hj,rfl,hr⟩:=hrel;by_cases hlt:0 < j
  ·obtain ⟨j,rfl⟩:∃ j',j=j'+1:=⟨j - 1,by omega⟩
   have hjt:j < top.length:=by omega
   obtain ⟨hbr,s',vl',va',hs',hrow,qB,hov⟩:=hr.o;obtain ⟨_,_,hcells⟩:=Ih hrow;obtain ⟨gt,rfl,_,_⟩:=hcells j hjt;have htk:(top.take (j+1)).reverse=(top[j].1,top[j].2)::(top.take j).reverse:=by
    rw[bg hjt,List.reverse_append];rfl
   rw[htk] at qB;generalize hR:Px.tries top[j].1 top[j].2 true 3 1 s'=R;have hpre:R.2.fI <+: (lS s).fI:=by rw[<- qB,<- hR];exact F1 _ _ _ _
   have HU:Hid (l9 ((top[j].1,top[j].2)::(top.take j).reverse) s'=lS s/\Px.tries top[j].1 top[j].2 true 3 1 s'=R/\R.2.fI <+: (lS s).fI):=⟨qB,hR,hpre⟩;have H0:Hid (Below B w wr/\St wr B c V s' vv vh vl' va' (.slice (some ⟨g,0,none⟩) n cap) qv (.slice (some ⟨gt,0,none⟩) top.length tc::ex)/\wr.ownsRow B 190 2 (.slice (some ⟨gt,0,none⟩) top.length tc) top.length (qK top)/\s'.over=0):=⟨hbr,hs',hrow,hov⟩;clear hr hbr hs' hrow qB hov hcells htk hR hpre;go_wp2_with fail;go_loopw [5,6] (fun d t w2=>∃ (dn:Bool) (tt:Nat),d=.bool dn/\t=.int .i64 tt/\1<=tt/\tt<=4/\Hid (Below B w w2/\∃ s2 ny iR,St w2 B c V s2 vv vh ny iR (.slice (some ⟨g,0,none⟩) n cap) qv (.slice (some ⟨gt,0,none⟩) top.length tc::ex)/\w2.ownsRow B 190 2 (.slice (some ⟨gt,0,none⟩) top.length tc) top.length (qK top)/\s2.over=0/\(dn=false->Px.tries top[j].1 top[j].2 true (4 - tt) tt s2=R)/\(dn=true->∃ x,R=(some (some x),s2)))) (fun _ t _=>4 - (intOf t).toNat)
   case atStart=>exact ⟨false,1,rfl,rfl,by omega,by omega,H0.o.1,s',vl',va',H0.o.2.1,H0.o.2.2.1,H0.o.2.2.2,fun _=>HU.o.2.1,fun h=>by cases h⟩
   case round =>
    obtain ⟨dn,tt,rfl,rfl,ht1,ht4,hr2⟩:=hrel;cases dn
    ·by_cases ht3:tt<=3
     ·obtain ⟨hb2,s2,ny,iR,hs2,hrow2,pX,ou,_⟩:=hr2.o;obtain ⟨_,_,vJ⟩:=Ih hrow2;obtain ⟨g',e',hc1,hc2⟩:=vJ j hjt;cases e';have ou:=ou rfl;obtain ⟨k,hk⟩:∃ k,4 - tt=k+1:=⟨3 - tt,by omega⟩
      have hk2:4 - (tt+1)=k:=by omega
      rw[hk] at ou;have nN:s2.fI.length<=1000000000:=by
       have h1:s2.fI.length<=(Px.tries top[j].1 top[j].2 true (k+1) tt s2).2.fI.length:=(K9 top[j].1 top[j].2 true (k+1) tt s2).length_le;rw[ou] at h1;have h2:=HU.o.2.2.length_le;have h3:=H.o.2.2.2.2;omega
      have H2:Hid (Below B w wr/\St wr B c V s2 vv vh ny iR (.slice (some ⟨g,0,none⟩) n cap) qv (.slice (some ⟨gt,0,none⟩) top.length tc::ex)/\wr.ownsRow B 190 2 (.slice (some ⟨gt,0,none⟩) top.length tc) top.length (qK top)/\s2.over=0/\Px.tries top[j].1 top[j].2 true (k+1) tt s2=R):=⟨hb2,hs2,hrow2,pX,ou⟩;clear hr2 hb2 hs2 hrow2 pX ou vJ;cases hsl:s2.left with
      | nil =>
       have HE:Hid (_):=hsl;have ER:Hid (R=(none,{ s2 with fI:=s2.fI++[⟨top[j].1,top[j].2,tt,true⟩],stop:=true })):=by
        unfold Hid;rw[<- H2.o.2.2.2.2,Px.tries,Mf _ HE.o]
       clear hsl;go_wp2_with fail;go_region_with (go_at_call 88;refine (Wi B c V ⟨top[j].1,top[j].2,tt,true⟩ s2 vv vh ny iR _ qv _ _ H2.o.2.1.drew nN HE.o).mono ?_;rintro e w3 ⟨rfl,nR,xZ,h3,t3⟩;have H3:Hid (_/\_):=⟨h3,t3⟩;clear h3 t3)
       all_goals
        go_wp2_with fail;refine bodyPost_ret (results_none rfl _ _ _) rfl ?_;have hfin:lS s={ s2 with fI:=s2.fI++[⟨top[j].1,top[j].2,tt,true⟩],stop:=true }:=by rw[<- HU.o.1,l9,HU.o.2.1,ER.o]
        rw[hfin];exact ⟨rfl,H2.o.1.trans (H2.o.2.1.drew.Fp H3.o.2).oq,_,_,_,_,H3.o.1.fewer⟩
      | cons x r =>
       have HE:Hid (_):=hsl;clear hsl;by_cases hx:0<=x
       ·have ER:Hid (R=(some (some x),{ s2 with fI:=s2.fI++[⟨top[j].1,top[j].2,tt,true⟩],left:=r })):=by
         unfold Hid;rw[<- H2.o.2.2.2.2,Px.tries,Fh _ HE.o];simp only;rw[if_pos hx]
        go_wp2_with fail;go_region_with (go_at_call 88;refine (Mj B c V ⟨top[j].1,top[j].2,tt,true⟩ s2 vv vh ny iR _ qv _ _ H2.o.2.1.drew nN HE.o).mono ?_;rintro e w3 ⟨rfl,nR,xZ,h3,t3⟩;have H3:Hid (_/\_):=⟨h3,t3⟩;clear h3 t3)
        all_goals
         go_wp2_with fail;refine ⟨⟨true,tt+1,rfl,by go_num,by omega,by omega,H2.o.1.trans (H2.o.2.1.drew.Fp H3.o.2).oq,_,nR,xZ,H3.o.1,gZ (World.ownsRow.drew H2.o.2.2.1) H3.o.2 (H2.o.2.1.drew.beside (by simp)),H2.o.2.2.2.1,fun h=>(by cases h),fun _=>⟨x,ER.o⟩⟩,by simp[intOf];omega⟩
       ·have ER:Hid (Px.tries top[j].1 top[j].2 true k (tt+1) { s2 with fI:=s2.fI++[⟨top[j].1,top[j].2,tt,true⟩],left:=r }=R):=by
         unfold Hid;rw[<- H2.o.2.2.2.2,Px.tries,Fh _ HE.o];simp only;rw[if_neg hx]
        go_wp2_with fail;go_region_with (go_at_call 88;refine (Mj B c V ⟨top[j].1,top[j].2,tt,true⟩ s2 vv vh ny iR _ qv _ _ H2.o.2.1.drew nN HE.o).mono ?_;rintro e w3 ⟨rfl,nR,xZ,h3,t3⟩;have H3:Hid (_/\_):=⟨h3,t3⟩;clear h3 t3)
        all_goals
         go_wp2_with fail;refine ⟨⟨false,tt+1,by simp[hx],by go_num,by omega,by omega,H2.o.1.trans (H2.o.2.1.drew.Fp H3.o.2).oq,_,nR,xZ,H3.o.1,gZ (World.ownsRow.drew H2.o.2.2.1) H3.o.2 (H2.o.2.1.drew.beside (by simp)),H2.o.2.2.2.1,fun _=>by rw[hk2];exact ER.o,fun h=>by cases h⟩,by simp[intOf];omega⟩
     ·obtain rfl:tt=4:=by omega
      obtain ⟨hb2,s2,ny,iR,hs2,hrow2,pX,ou,_⟩:=hr2.o;have ou:=ou rfl;obtain ⟨m0,m1,m2,m3,m4,m5,m6,m7,mf⟩:=nk hs2.at_;have H2:Hid (_/\_/\_):=⟨hb2,hs2,ou⟩;clear hr2 hb2 hs2 hrow2 ou;go_wp2_with fail;refine bodyPost_ret (results_none rfl _ _ _) rfl ?_;have hfin:lS s={ s2 with over:=3 }:=by rw[<- HU.o.1,l9,HU.o.2.1,<- H2.o.2.2];rfl
      rw[hfin];exact ⟨rfl,H2.o.1.trans (H2.o.2.1.wB (qL (fO.refl _ _) rfl)),_,_,_,_,H2.o.2.1.Ii.fewer⟩
    ·obtain ⟨hb2,s2,ny,iR,hs2,hrow2,pX,_,ou⟩:=hr2.o;obtain ⟨x,Wm⟩:=ou rfl;have H2:Hid (_/\_/\_/\_/\_):=⟨hb2,hs2,hrow2,pX,Wm⟩;clear hr2 hb2 hs2 hrow2 ou Wm pX;go_wp2_with fail
     all_goals
      refine ⟨⟨j,by omega,rfl,H2.o.1,s2,ny,iR,H2.o.2.1,H2.o.2.2.1,?_,H2.o.2.2.2.1⟩,by simp[intOf]⟩
      rw[<- HU.o.1,l9,HU.o.2.1,H2.o.2.2.2.2]
  ·obtain rfl:j=0:=by omega
   obtain ⟨hbr,s',vl',va',hs',hrow,qB,hov⟩:=hr.o;have H0:Hid (_/\_/\_):=⟨hbr,hs',qB⟩;clear hr hbr hs' hrow qB hov;go_wp2_with fail;go_end0
   rw[<- H0.o.2.2];exact ⟨rfl,H0.o.1,_,_,_,_,H0.o.2.1.fewer⟩
theorem St.idx (h:St w B c V s vv vh vl va vp pv ex){j:Nat}(hi:(vh::vl::va::vp::(pv++ex))[i]?=some v)(hj:(vh::vl::va::vp::(pv++ex))[j]?=some u)(hij:i≠j):∀ k,v.ownBlock=some k->u.ownBlock≠some k:=h.sep.mem hi hj hij
theorem St.wC (h:St w B c V s vv vh vl va vp pv ex)(hi:(vh::vl::va::vp::(pv++ex))[i]?=some v):∀ k,v.ownBlock=some k->B<=k/\k≠c/\k < w.heap.size:=h.sep.own v (bJ hi)
theorem Fq (h:pv[i]?=some v):(vh::vl::va::vp::(pv++ex))[4+i]?=some v:=by
 rw[show 4+i=i+1+1+1+1 by omega,aM,aM,aM,aM,aQ (aU.1 h).1]
 exact h
theorem St.Wn (h:St w B c V s vv (.slice (some ⟨g,0,none⟩) m cap) vl va vp pv ex)(hm:m=s.held.length)(i:Nat)(v:Int) :
  St (w.setCell ⟨g,i,none⟩ (.int .i64 v)) B c V { s with held:=s.held.set i v } vv (.slice (some ⟨g,0,none⟩) m cap) vl va vp pv ex/\Below B w (w.setCell ⟨g,i,none⟩ (.int .i64 v)):=by
 subst hm;have hT:fO (·=g) w (w.setCell ⟨g,i,none⟩ (.int .i64 v)):=fO.setCell (T:=(·=g)) (fO.refl _ _) (p:=⟨g,i,none⟩) (ak rfl) _
 have hg:=h.wC (i:=0) rfl g rfl;have hne:∀ j u,j≠0->((.slice (some ⟨g,0,none⟩) s.held.length cap)::vl::va::vp::(pv++ex))[j]?=some u->∀ k,u.ownBlock=some k->¬ k=g:=by
  intro j u hj hu k hk e;subst e;exact h.idx hu (show ((.slice (some ⟨k,0,none⟩) s.held.length cap)::vl::va::vp::(pv++ex))[0]?=some _ from rfl) hj k hk rfl
 refine ⟨⟨h.hB,?_,gZ h.vars hT fun k hk e=>by have:=h.mV k hk;omega,h.mV,?_,h.left.jG hT (hne 1 _ (by decide) rfl),gZ h.fI hT (hne 2 _ (by decide) rfl),gZ h.fG hT (hne 3 _ (by decide) rfl),?_,h.sep.world hT.size⟩,hT.mY (by have:=h.lt;have:=h.hB;omega) fun k hk=>by rw[hk];exact hg.1⟩
 ·rw[hT.block c h.lt (fun e=>hg.2.1 e.symm)];exact h.at_
 ·have:=(h.held.stored i (.int .i64 v)).1
  dsimp only;rw[dM];have e:(intCells s.held).set i (.int .i64 v)=intCells (s.held.set i v):=by unfold intCells;rw[List.map_set]
  rw[e] at this;exact this
 ·intro j p u hp hu;exact gZ (h.each j p u hp hu) hT (hne (4+j) u (by omega) (Fq hu))
theorem St.Ml (h:St w B c V s vv vh vl va (.slice (some ⟨g,0,none⟩) (n+1) cap) (qv++[tv]) ex)(hp:s.fG=s.fG.dropLast++[top])(hn:n=s.fG.dropLast.length)(u:fq)(x:Int)(hW:fO (fun _=>False) w W) :
  ∀ v' w3,w3.ownsRow B 190 2 v' (top.length+1) (qK top++[.string u,.int .i64 x])->W.grownBy w3 tv.ownBlock->(v'.ownBlock=tv.ownBlock\/v'.ownBlock=some W.heap.size) ->
   ∃ a1 n1 c1,v'=.slice a1 n1 c1/\w3.heap[c]?=w.heap[c]?/\w3.heap[g]?=w.heap[g]?/\Hid (St (w3.setCell ⟨g,n,none⟩ v') B c V { s with fG:=iA s.fG [(u,x)] } vv vh vl va (.slice (some ⟨g,0,none⟩) (n+1) cap) (qv++[v']) ex/\Below B w (w3.setCell ⟨g,n,none⟩ v')):=by
 intro v' w3 hown hg hloc;obtain ⟨a1,n1,c1,rfl⟩:=jm hown;have qM:qv.length=n:=by
  have:=h.Mc
  rw[hp] at this;simp at this;rw[hn]
  simpa using this
 have x9:(vh::vl::va::(.slice (some ⟨g,0,none⟩) (n+1) cap)::((qv++[tv])++ex))[4+n]?=some tv:=Fq (by rw[<- qM];simp)
 have hvp:(vh::vl::va::(.slice (some ⟨g,0,none⟩) (n+1) cap)::((qv++[tv])++ex))[3]?=some (.slice (some ⟨g,0,none⟩) (n+1) cap):=rfl;have hgB:=h.wC hvp g rfl;have mH:fO (fun k=>tv.ownBlock=some k) w w3:=(hW.mono fun _ _ h=>h.elim).grown hg fun k hk=>ak hk
 have kN:¬ tv.ownBlock=some c:=fun e=>(h.wC x9 c e).2.1 rfl
 have Di:¬ tv.ownBlock=some g:=fun e=>h.idx x9 hvp (by omega) g e rfl
 have hT:fO (fun k=>tv.ownBlock=some k\/k=g) w (w3.setCell ⟨g,n,none⟩ (.slice a1 n1 c1)):=fO.setCell (T:=fun k=>tv.ownBlock=some k\/k=g) (mH.mono fun k _ hk=>ak hk) (p:=⟨g,n,none⟩) (ak (ah rfl)) _
 have hloc':(Value.slice a1 n1 c1).ownBlock=tv.ownBlock\/(Value.slice a1 n1 c1).ownBlock=none\/∃ m,(Value.slice a1 n1 c1).ownBlock=some m/\w.heap.size<=m/\m < (w3.setCell ⟨g,n,none⟩ (.slice a1 n1 c1)).heap.size:=by
  rcases hloc with hl | hl
  ·exact ak hl
  ·exact ah (ah ⟨_,hl,hW.size,by simpa [World.setCell] using (hown.lt _ hl).2⟩)
 have PK:(Value.slice a1 n1 c1).ownBlock≠some g:=fun e=>by
  rcases hloc' with hl | hl | ⟨m,hl,h1,_⟩
  ·exact Di (by rw[<- hl];exact e)
  ·rw[hl] at e;cases e
  ·rw[hl] at e;cases e;omega
 have hne:∀ j v,j≠3->j≠4+n->(vh::vl::va::(.slice (some ⟨g,0,none⟩) (n+1) cap)::((qv++[tv])++ex))[j]?=some v->∀ k,v.ownBlock=some k->¬ (tv.ownBlock=some k\/k=g):=by
  intro j v hj hj' hv k hk hh;rcases hh with hh | rfl
  ·exact h.idx hv x9 hj' k hk hh
  ·exact h.idx hv hvp hj k hk rfl
 have hB:=h.hB;have hd:(iA s.fG [(u,x)])=s.fG.dropLast++[top++[(u,x)]]:=by
  unfold iA
  conv=>lhs;rw[hp]
  simp[List.getLastD_eq_getLast?]
 refine ⟨a1,n1,c1,rfl,mH.block c h.lt kN,mH.block g hgB.2.2 Di,⟨hB,?_,gZ h.vars hT ?_,h.mV,gZ h.held hT (hne 0 _ (by omega) (by omega) rfl),h.left.jG hT (hne 1 _ (by omega) (by omega) rfl),gZ h.fI hT (hne 2 _ (by omega) (by omega) rfl),?_,?_,?_⟩,hT.mY (by have:=h.lt;omega) ?_⟩
 ·rw[hT.block c h.lt (by rintro (e | e);exact kN e;exact hgB.2.1 e.symm)];exact h.at_
 ·intro k hk hh
  have:=h.mV k hk
  rcases hh with hh | rfl
  ·have:=(h.wC x9 k hh).1;omega
  ·omega
 ·have h3:w3.ownsRow B 187 1 (.slice (some ⟨g,0,none⟩) (n+1) cap) s.fG.length (qv++[tv]):=gZ h.fG mH fun k hk=>by cases hk;exact Di
  have hlen:s.fG.length=n+1:=by rw[hp];simp[hn]
  rw[hlen] at h3
  have:=(h3.stored n (.slice a1 n1 c1)).1
  have e:(qv++[tv]).set n (.slice a1 n1 c1)=qv++[.slice a1 n1 c1]:=by
   rw[eZ _ _ (by omega)]
   simp[qM]
  rw[e] at this;dsimp only;rw[hd,ay,<- hn];exact this
 ·intro j p v uq pY;dsimp only at uq;rw[hd] at uq;by_cases hj:j < n
  ·rw[aQ (by omega)] at uq
   rw[aQ (by omega)] at pY
   have Ij:(qv++[tv])[j]?=some v:=by rw[aQ (by omega)];exact pY
   refine gZ (h.each j p v ?_ Ij) hT (hne (4+j) v (by omega) (by omega) (Fq Ij))
   rw[hp,aQ (by omega)];exact uq
  ·have hj':j=n:=by
    have:=(aU.1 pY).1
    simp at this;omega
   subst hj';rw[aJ (by omega),<- hn] at uq
   rw[aJ (by omega),qM] at pY
   simp at uq pY;subst uq pY
   have:=ownsRow_setCell_other hown (a:=⟨g,j,none⟩) PK (.slice a1 n1 c1)
   rw[E6,ay];exact this
 ·have:=Sep.turn (A:=vh::vl::va::(.slice (some ⟨g,0,none⟩) (n+1) cap)::qv) (v:=tv) (v':=.slice a1 n1 c1) (R:=ex) (by simpa using h.sep) hT.size (by have:=h.lt;omega) h.lt hloc'
  simpa using this
 ·intro k hk;rcases hk with hk | rfl
  ·exact (h.wC x9 k hk).1
  ·exact hgB.1
theorem Mq:(prog.info? 187).map (fun i=>(i.zero,i.size,i.bytes))=some (some (.slice none 0 0),1,24):=by kernel_rfl
theorem St.PL (h:St w B c V s vv vh vl va vp pv ex)(hW:fO (fun _=>False) w W) :
  ∀ v' w3,w3.ownsRow B 187 1 v' (s.fG.length+1) (pv++[.slice none 0 0])->W.grownBy w3 vp.ownBlock->(v'.ownBlock=vp.ownBlock\/v'.ownBlock=some W.heap.size) ->
   ∃ a1 n1 c1,v'=.slice a1 n1 c1/\w3.heap[c]?=w.heap[c]?/\Hid (St (w3.setCell ⟨c,4,none⟩ v') B c V { s with fG:=s.fG++[[]] } vv vh vl va v' (pv++[.slice none 0 0]) ex/\Below B w (w3.setCell ⟨c,4,none⟩ v')):=by
 intro v' w3 hown hg hloc;obtain ⟨a1,n1,c1,rfl⟩:=jm hown;have hvp:(vh::vl::va::vp::(pv++ex))[3]?=some vp:=rfl;have mH:fO (fun k=>vp.ownBlock=some k) w w3:=(hW.mono fun _ _ h=>h.elim).grown hg fun k hk=>ak hk
 have kN:¬ vp.ownBlock=some c:=fun e=>(h.wC hvp c e).2.1 rfl
 have hT:fO (fun k=>vp.ownBlock=some k\/k=c) w (w3.setCell ⟨c,4,none⟩ (.slice a1 n1 c1)):=fO.setCell (T:=fun k=>vp.ownBlock=some k\/k=c) (mH.mono fun k _ hk=>ak hk) (p:=⟨c,4,none⟩) (ak (ah rfl)) _
 have hloc':(Value.slice a1 n1 c1).ownBlock=vp.ownBlock\/(Value.slice a1 n1 c1).ownBlock=none\/∃ m,(Value.slice a1 n1 c1).ownBlock=some m/\w.heap.size<=m/\m < (w3.setCell ⟨c,4,none⟩ (.slice a1 n1 c1)).heap.size:=by
  rcases hloc with hl | hl
  ·exact ak hl
  ·exact ah (ah ⟨_,hl,hW.size,by simpa [World.setCell] using (hown.lt _ hl).2⟩)
 have hnc':(Value.slice a1 n1 c1).ownBlock≠some c:=fun e=>by
  rcases hloc' with hl | hl | ⟨m,hl,h1,_⟩
  ·exact kN (by rw[<- hl];exact e)
  ·rw[hl] at e;cases e
  ·rw[hl] at e;cases e;have:=h.lt;omega
 have hne:∀ j v,j≠3->(vh::vl::va::vp::(pv++ex))[j]?=some v->∀ k,v.ownBlock=some k->¬ (vp.ownBlock=some k\/k=c):=by
  intro j v hj hv k hk hh;rcases hh with hh | rfl
  ·exact h.idx hv hvp hj k hk hh
  ·exact (h.wC hv _ hk).2.1 rfl
 have hB:=h.hB;have hc3:w3.heap[c]?=w.heap[c]?:=mH.block c h.lt kN;refine ⟨a1,n1,c1,rfl,hc3,⟨hB,?_,gZ h.vars hT ?_,h.mV,gZ h.held hT (hne 0 _ (by omega) rfl),h.left.jG hT (hne 1 _ (by omega) rfl),gZ h.fI hT (hne 2 _ (by omega) rfl),?_,?_,?_⟩,hT.mY (by have:=h.lt;omega) ?_⟩
 ·rw[heap_set _ (hc3.trans h.at_)];simp
 ·intro k hk hh
  have:=h.mV k hk
  rcases hh with hh | rfl
  ·have:=(h.wC hvp k hh).1;omega
  ·omega
 ·dsimp only;rw[ay];exact ownsRow_setCell_other hown (a:=⟨c,4,none⟩) hnc' _
 ·intro j p v uq pY;dsimp only at uq;have hpl:=h.Mc;by_cases hj:j < pv.length
  ·rw[aQ (by omega)] at uq
   rw[aQ hj] at pY;exact gZ (h.each j p v uq pY) hT (hne (4+j) v (by omega) (Fq pY))
  ·have hj':j=pv.length:=by
    have:=(aU.1 pY).1
    simp at this;omega
   subst hj';rw[aJ (by omega)] at pY
   rw[hpl,aJ (by omega)] at uq
   simp at uq pY;subst uq pY;exact aT _ _ _ _
 ·have h1:=Sep.turn (A:=[vh,vl,va]) (v:=vp) (v':=.slice a1 n1 c1) (R:=pv++ex) h.sep hT.size (by have:=h.lt;omega) h.lt hloc'
  refine (h1.nil (v:=.slice none 0 0) rfl).perm ?_;simp only[bG,dh,aI];refine List.Perm.trans ?_ (List.Perm.cons _ (List.Perm.cons _ (List.Perm.cons _ (List.Perm.cons _ (List.perm_middle (l₁:=pv) (a:=Value.slice none 0 0) (l₂:=ex)).symm))));exact (List.Perm.swap _ _ _).trans (List.Perm.cons _ ((List.Perm.swap _ _ _).trans (List.Perm.cons _ ((List.Perm.swap _ _ _).trans (List.Perm.cons _ (List.Perm.swap _ _ _))))))
 ·intro k hk;rcases hk with hk | rfl
  ·exact (h.wC hvp k hk).1
  ·exact hB
theorem St.F2 (h:St w B c V s vv vh vl va (.slice (some ⟨g,0,none⟩) (n+1) cap) (qv++[tv]) ex)(vI:qv.length=n)(hW:fO (fun _=>False) w W)(hu:u∈ex){e:TypeId}{sz:Nat}{xs:List fC}(hown:w.ownsRow B e sz u m xs) :
  ∀ v' w3,W.grownBy w3 tv.ownBlock->(w3.setCell ⟨g,n,none⟩ v').ownsRow B e sz u m xs:=by
 intro v' w3 hg;obtain ⟨i,hi⟩:=List.mem_iff_getElem?.1 hu;have hue:(vh::vl::va::(.slice (some ⟨g,0,none⟩) (n+1) cap)::((qv++[tv])++ex))[4+(n+1)+i]?=some u:=by
  rw[show 4+(n+1)+i=(n+1+i)+1+1+1+1 by omega,aM,aM,aM,aM,aJ (by simp;omega)]
  simp only[ay,aS,vI];rw[show n+1+i - (n+1)=i by omega]
  exact hi
 have x9:(vh::vl::va::(.slice (some ⟨g,0,none⟩) (n+1) cap)::((qv++[tv])++ex))[4+n]?=some tv:=Fq (by rw[<- vI];simp)
 have hvp:(vh::vl::va::(.slice (some ⟨g,0,none⟩) (n+1) cap)::((qv++[tv])++ex))[3]?=some (.slice (some ⟨g,0,none⟩) (n+1) cap):=rfl;have mH:fO (fun k=>tv.ownBlock=some k) w w3:=(hW.mono fun _ _ h=>h.elim).grown hg fun k hk=>ak hk
 refine ownsRow_setCell_other (gZ hown mH fun k hk hh=>h.idx hue x9 (by omega) k hk hh) (a:=⟨g,n,none⟩) (fun e=>h.idx hue hvp (by omega) g e rfl) _
def jZ (w:fu)(v:fC)(l:List Int):Prop :=
 ∃ ad cap,v=.slice ad l.length cap/\l.length<=maxLen/\l.length * 8<=140737488355328/\∀ i (hi:i < l.length),∃ a:Addr,ad=some a/\a.block < w.heap.size/\w.cell? (a.add i)=some (.int .i64 l[i])
theorem G3 {l:List Int}(h:w.ownsRow B 3 1 v l.length (intCells l)):oQ w v l:=by
 rcases h.2 with ⟨rfl,h2⟩ | ⟨g,cap,cur,rfl,hg,hh,hn,hm,hz,ht⟩
 ·exact ⟨none,0,by rw[h2],by rw[h2];exact aK _,by omega,fun h=>by omega⟩
 ·refine ⟨_,_,rfl,by omega,hn,fun _=>⟨g,0,cur,_,rfl,hh,fun i hi=>?_⟩⟩
  have e:cur[i]?=(intCells l)[i]?:=by
   rw[<- ht,bC (by omega)];simp
  rw[bX,e];simp[intCells,hi]
theorem St.G4 (h:St w B c V s vv vh vl va vp pv ex)(x:Int)(hW:fO (fun _=>False) w W) :
  ∀ v' w3,w3.ownsRow B 3 1 v' (s.left.length+1) (intCells s.left++[.int .i64 x])->W.grownBy w3 vl.ownBlock->(v'.ownBlock=vl.ownBlock\/v'.ownBlock=some W.heap.size) ->
   ∃ a1 n1 c1,v'=.slice a1 n1 c1/\w3.heap[c]?=w.heap[c]?/\Hid (St (w3.setCell ⟨c,2,none⟩ v') B c V { s with left:=s.left++[x] } vv vh v' va vp pv ex/\Below B w (w3.setCell ⟨c,2,none⟩ v')/\(w3.setCell ⟨c,2,none⟩ v').ownsRow B 3 1 v' (s.left++[x]).length (intCells (s.left++[x]))):=by
 intro v' w3 hown hg hloc;obtain ⟨a1,n1,c1,rfl⟩:=jm hown;have hvp:(vh::vl::va::vp::(pv++ex))[1]?=some vl:=rfl;have mH:fO (fun k=>vl.ownBlock=some k) w w3:=(hW.mono fun _ _ h=>h.elim).grown hg fun k hk=>ak hk
 have kN:¬ vl.ownBlock=some c:=fun e=>(h.wC hvp c e).2.1 rfl
 have hT:fO (fun k=>vl.ownBlock=some k\/k=c) w (w3.setCell ⟨c,2,none⟩ (.slice a1 n1 c1)):=fO.setCell (T:=fun k=>vl.ownBlock=some k\/k=c) (mH.mono fun k _ hk=>ak hk) (p:=⟨c,2,none⟩) (ak (ah rfl)) _
 have hloc':(Value.slice a1 n1 c1).ownBlock=vl.ownBlock\/(Value.slice a1 n1 c1).ownBlock=none\/∃ m,(Value.slice a1 n1 c1).ownBlock=some m/\w.heap.size<=m/\m < (w3.setCell ⟨c,2,none⟩ (.slice a1 n1 c1)).heap.size:=by
  rcases hloc with hl | hl
  ·exact ak hl
  ·exact ah (ah ⟨_,hl,hW.size,by simpa [World.setCell] using (hown.lt _ hl).2⟩)
 have hnc':(Value.slice a1 n1 c1).ownBlock≠some c:=fun e=>by
  rcases hloc' with hl | hl | ⟨m,hl,h1,_⟩
  ·exact kN (by rw[<- hl];exact e)
  ·rw[hl] at e;cases e
  ·rw[hl] at e;cases e;have:=h.lt;omega
 have hne:∀ j v,j≠1->(vh::vl::va::vp::(pv++ex))[j]?=some v->∀ k,v.ownBlock=some k->¬ (vl.ownBlock=some k\/k=c):=by
  intro j v hj hv k hk hh;rcases hh with hh | rfl
  ·exact h.idx hv hvp hj k hk hh
  ·exact (h.wC hv _ hk).2.1 rfl
 have hB:=h.hB;have hc3:w3.heap[c]?=w.heap[c]?:=mH.block c h.lt kN;have hown2:(w3.setCell ⟨c,2,none⟩ (.slice a1 n1 c1)).ownsRow B 3 1 (.slice a1 n1 c1) (s.left++[x]).length (intCells (s.left++[x])):=by
  have:=ownsRow_setCell_other hown (a:=⟨c,2,none⟩) hnc' (.slice a1 n1 c1)
  rw[ay];have e:intCells (s.left++[x])=intCells s.left++[.int .i64 x]:=by simp[intCells]
  rw[e];exact this
 refine ⟨a1,n1,c1,rfl,hc3,⟨hB,?_,gZ h.vars hT ?_,h.mV,gZ h.held hT (hne 0 _ (by omega) rfl),G3 hown2,gZ h.fI hT (hne 2 _ (by omega) rfl),gZ h.fG hT (hne 3 _ (by omega) rfl),?_,?_⟩,hT.mY (by have:=h.lt;omega) ?_,hown2⟩
 ·rw[heap_set _ (hc3.trans h.at_)];simp
 ·intro k hk hh
  have:=h.mV k hk
  rcases hh with hh | rfl
  ·have:=(h.wC hvp k hh).1;omega
  ·omega
 ·intro j p v uq pY;exact gZ (h.each j p v uq pY) hT (hne (4+j) v (by omega) (Fq pY))
 ·exact Sep.turn (A:=[vh]) (v:=vl) (v':=.slice a1 n1 c1) (R:=va::vp::(pv++ex)) h.sep hT.size (by have:=h.lt;omega) h.lt hloc'
 ·intro k hk;rcases hk with hk | rfl
  ·exact (h.wC hvp k hk).1
  ·exact hB
theorem PN:(prog.info? 3).map (fun i=>(i.zero,i.size,i.bytes))=some (some (.int .i64 0),1,8):=by kernel_rfl
theorem St.start {a:Nat}(hv:w.ownsRow 0 315 2 vv V.length (rP V))(hn:V.length<=maxLen)(hT:fO (fun _=>False) w W)(ha:w.heap.size<=a)(hb:w.heap.size<=b)(hc:w.heap.size<=c)(hab:a≠b)(hac:a≠c)(hbc:b≠c)(h0:W.heap[a]?=some (.cells (madeCells #[.int .i64 0] V.length) 3))(h1:W.heap[b]?=some (.cells (madeCells #[.slice none 0 0] 1) 187))(h2:W.heap[c]?=some (.cells #[vv,.slice (some ⟨a,0,none⟩) V.length V.length,.slice none 0 0,.slice none 0 0,.slice (some ⟨b,0,none⟩) 1 1,.int .i64 0,.bool false,.bool false] 59)) :
  St W w.heap.size c V ⟨List.replicate V.length 0,[],[],[[]],0,false,false⟩ vv (.slice (some ⟨a,0,none⟩) V.length V.length) (.slice none 0 0) (.slice none 0 0) (.slice (some ⟨b,0,none⟩) 1 1) [.slice none 0 0] []:=by
 have la:a < W.heap.size:=(aG.1 h0).1;have lb:b < W.heap.size:=(aG.1 h1).1;refine ⟨hc,h2,gZ hv hT (fun _ _ h=>h),fun k hk=>(hv.lt k hk).2,?_,⟨none,0,rfl,aK _,aj _,fun h=>absurd h (by simp)⟩,aT _ _ _ _,?_,?_,?_⟩
 ·refine ⟨by simp[intCells],.inr ⟨a,V.length,madeCells #[.int .i64 0] V.length,by simp,ha,h0,by simp,hn,by simp[madeCells],?_⟩⟩
  rw[toList_madeCells_one];simp[intCells]
 ·exact ⟨rfl,.inr ⟨b,1,madeCells #[.slice none 0 0] 1,rfl,hb,h1,aj _,by unfold maxLen;omega,by simp[madeCells],by rw[toList_madeCells_one];rfl⟩⟩
 ·intro i p v hp hvv;match i,hp,hvv with
  | 0,hp,hvv =>
   simp at hp hvv;subst hp hvv;exact aT _ _ _ _
  | i+1,hp,hvv=>simp at hp
 ·refine ⟨fun v hv' k hk=>?_,?_⟩
  ·simp only[dG,bY,List.not_mem_nil,or_false] at hv';rcases hv' with rfl | rfl | rfl | rfl | rfl
   ·have hk':a=k:=by simpa [Value.ownBlock] using hk
    subst hk';exact ⟨ha,hac,la⟩
   ·cases hk
   ·cases hk
   ·have hk':b=k:=by simpa [Value.ownBlock] using hk
    subst hk';exact ⟨hb,hbc,lb⟩
   ·cases hk
  ·simp[Value.ownBlock];omega
theorem Ik {p:fC}{t:TypeId}(h:W.heap[b]?=some (.cells #[p] t)):∀ j u,[p][j]?=some u->W.cell? ((⟨b,0,none⟩:Addr).add j)=some u:=by
 intro j u hj;match j,hj with
 | 0,hj=>simp at hj;subst hj;simp[Addr.add,World.cell?,h]
theorem Fv {h:Array Obj}{o p q:Obj}:(((h.push o).push p).push q)[h.size]?=some o/\(((h.push o).push p).push q)[h.size+1]?=some p/\(((h.push o).push p).push q)[h.size+2]?=some q:=by
 refine ⟨?_,?_,?_⟩
 ·rw[aB,if_neg (by simp;omega),G6]
 ·rw[aB,if_neg (by simp),wV]
 ·rw[aB,if_pos (by simp)]
theorem Hh (c op:Nat)(hop:op=61\/op=35)(n:Nat)(fD:fq)(pl own:Nat)(l r:Px.Ex)(ihl:rQ c l)(ihr:rQ c r):rQ c ⟨op,n,fD,pl,own,some l,some r⟩:=by
 intro k w ok q hx hok hl;obtain ⟨hq,kb,lq,rq,hkb,hne,hv,hkc,hxl,Bv⟩:=hx;obtain ⟨c0,c1,c2,c3,c4,c5,f⟩:=nH hv;have k0:w.cell? ⟨kb,0,none⟩=some (.pointer (some ⟨lq,0,none⟩)):=by simp[World.cell?,hkc]
 have hqc:=hok q hq;have zY:=hok kb hkb;have HL:Hid (iy w c k/\(ig w l _ lq/\ig w r _ rq)/\_/\_):=⟨hl,⟨hxl,Bv⟩,hv,hkc⟩;have HK:Hid (∀ i,(ok i/\i≠q/\i≠kb)->i < c):=fun i hi=>hok i hi.1
 have e1:Hid (iC ⟨op,n,fD,pl,own,some l,some r⟩ k=oh op own (iC l k).1 (iC r (iC l k).2)):=rfl;clear hl hv hkc hxl Bv hok;generalize hr1:iC l k=ra at e1;have HR1:Hid (_):=hr1;clear hr1;generalize hr2:iC r ra.2=rb at e1;have HR2:Hid (_):=hr2;clear hr2;have e2:Hid (oh op own ra.1 rb=(98,if uD ra.1 rb.1 then Px.say 6 own rb.2 else rb.2)):=by unfold Hid oh;rw[if_pos hop]
 have e4:Hid (uD ra.1 rb.1=(((ra.1:Int) != rb.1) && ((ra.1:Int) != 63) && ((rb.1:Int) != 63))):=by
  unfold Hid uD;rw[bA];simp;omega
 have o1:((op:Int) == 110)=false:=by rw[beq_eq_false_iff_ne];omega
 have o2:((op:Int) == 116)=false:=by rw[beq_eq_false_iff_ne];omega
 have o3:((op:Int) == 119)=false:=by rw[beq_eq_false_iff_ne];omega
 have o4:((op:Int) == 33)=false:=by rw[beq_eq_false_iff_ne];omega
 have OR:Hid (_):=hop;clear hop;go_enter func121,ntmps121
 go_wp2_with fail;refine (ihl k _ _ lq HL.o.2.1.1 HK.o HL.o.1).mono ?_;rw[HR1.o];rintro e w1 ⟨rfl,l1,b1⟩;have hv1:w1.heap[q]?=_:=(b1.block q hqc).trans HL.o.2.2.1;have hk1:w1.heap[kb]?=_:=(b1.block kb zY).trans HL.o.2.2.2;have hx1:ig w1 r _ rq:=HL.o.2.1.2.keep fun i hi=>b1.block i (HK.o i hi)
 obtain ⟨d0,d1,d2,d3,d4,d5,df⟩:=nH hv1;have Mg:w1.cell? ⟨kb,1,none⟩=some (.pointer (some ⟨rq,0,none⟩)):=by simp[World.cell?,hk1]
 have L1:Hid (iy w1 c ra.2/\Below c w w1/\ig w1 r _ rq/\_):=⟨l1,b1,hx1,hv1⟩;clear l1 b1 hv1 hk1 hx1 c0 c1 c2 c3 c4 c5 f;go_wp2_with fail;refine (ihr ra.2 _ _ rq L1.o.2.2.1 HK.o L1.o.1).mono ?_;rw[HR2.o];rintro e w2 ⟨rfl,l2,b2⟩;have hv2:w2.heap[q]?=_:=(b2.block q hqc).trans L1.o.2.2.2;obtain ⟨f0,f1,f2,f3,f4,f5,ff⟩:=nH hv2;have L2:Hid (iy w2 c rb.2/\Below c w1 w2):=⟨l2,b2⟩;clear l2 b2 hv2 d0 d1 d2 d3 d4 d5 df;have yc:∀ e w3,e=Ending.returned (.int .u8 98)->iy w3 c (if uD ra.1 rb.1 then Px.say 6 own rb.2 else rb.2)->Below c w2 w3->e=.returned (.int .u8 ((iC ⟨op,n,fD,pl,own,some l,some r⟩ k).1:Int))/\iy w3 c (iC ⟨op,n,fD,pl,own,some l,some r⟩ k).2/\Below c w w3:=by
  intro e w3 he hl3 hb3;rw[e1.o,e2.o];exact ⟨he,hl3,(L1.o.2.1.trans L2.o.2).trans hb3⟩
 have FIN:Hid (_):=yc;clear yc;cases g1:((ra.1:Int) != rb.1)
 ·rcases OR.o with ho | ho
  ·have o5:((op:Int) == 61)=true:=by rw[ho];rfl
   go_wp2_with fail;go_ret;exact FIN.o _ _ rfl (by rw[e4.o,g1];exact L2.o.1) (aH _ _)
  ·have o5:((op:Int) == 61)=false:=by rw[ho];rfl
   have o6:((op:Int) == 35)=true:=by rw[ho];rfl
   go_wp2_with fail;go_ret;exact FIN.o _ _ rfl (by rw[e4.o,g1];exact L2.o.1) (aH _ _)
 ·cases g2:((ra.1:Int) != 63)
  ·rcases OR.o with ho | ho
   ·have o5:((op:Int) == 61)=true:=by rw[ho];rfl
    go_wp2_with fail;go_ret;exact FIN.o _ _ rfl (by rw[e4.o,g1,g2];exact L2.o.1) (aH _ _)
   ·have o5:((op:Int) == 61)=false:=by rw[ho];rfl
    have o6:((op:Int) == 35)=true:=by rw[ho];rfl
    go_wp2_with fail;go_ret;exact FIN.o _ _ rfl (by rw[e4.o,g1,g2];exact L2.o.1) (aH _ _)
  ·cases g3:((rb.1:Int) != 63)
   ·rcases OR.o with ho | ho
    ·have o5:((op:Int) == 61)=true:=by rw[ho];rfl
     go_wp2_with fail;go_ret;exact FIN.o _ _ rfl (by rw[e4.o,g1,g2,g3];exact L2.o.1) (aH _ _)
    ·have o5:((op:Int) == 61)=false:=by rw[ho];rfl
     have o6:((op:Int) == 35)=true:=by rw[ho];rfl
     go_wp2_with fail;go_ret;exact FIN.o _ _ rfl (by rw[e4.o,g1,g2,g3];exact L2.o.1) (aH _ _)
   ·rcases OR.o with ho | ho
    ·have o5:((op:Int) == 61)=true:=by rw[ho];rfl
     go_wp2_with fail;refine (vH c 6 own rb.2 _ L2.o.1).mono ?_;rintro e w3 ⟨rfl,l3,b3⟩;have L3:Hid (_/\_):=⟨l3,b3⟩;clear l3 b3;go_wp2_with fail;go_ret;exact FIN.o _ _ rfl (by rw[e4.o,g1,g2,g3];exact L3.o.1) L3.o.2
    ·have o5:((op:Int) == 61)=false:=by rw[ho];rfl
     have o6:((op:Int) == 35)=true:=by rw[ho];rfl
     go_wp2_with fail;refine (vH c 6 own rb.2 _ L2.o.1).mono ?_;rintro e w3 ⟨rfl,l3,b3⟩;have L3:Hid (_/\_):=⟨l3,b3⟩;clear l3 b3;go_wp2_with fail;go_ret;exact FIN.o _ _ rfl (by rw[e4.o,g1,g2,g3];exact L3.o.1) L3.o.2
theorem Hi (c op:Nat)(hop:op=42\/op=47\/op=43\/op=45\/op=60)(n:Nat)(fD:fq)(pl own:Nat)(l r:Px.Ex)(ihl:rQ c l)(ihr:rQ c r):rQ c ⟨op,n,fD,pl,own,some l,some r⟩:=by
 intro k w ok q hx hok hl;obtain ⟨hq,kb,lq,rq,hkb,hne,hv,hkc,hxl,Bv⟩:=hx;obtain ⟨c0,c1,c2,c3,c4,c5,f⟩:=nH hv;have k0:w.cell? ⟨kb,0,none⟩=some (.pointer (some ⟨lq,0,none⟩)):=by simp[World.cell?,hkc]
 have hqc:=hok q hq;have zY:=hok kb hkb;have HL:Hid (iy w c k/\(ig w l _ lq/\ig w r _ rq)/\_/\_):=⟨hl,⟨hxl,Bv⟩,hv,hkc⟩;have HK:Hid (∀ i,(ok i/\i≠q/\i≠kb)->i < c):=fun i hi=>hok i hi.1
 have e1:Hid (iC ⟨op,n,fD,pl,own,some l,some r⟩ k=oh op own (iC l k).1 (iC r (iC l k).2)):=rfl;clear hl hv hkc hxl Bv hok;generalize hr1:iC l k=ra at e1;have HR1:Hid (_):=hr1;clear hr1;generalize hr2:iC r ra.2=rb at e1;have HR2:Hid (_):=hr2;clear hr2;have e2:Hid (oh op own ra.1 rb=(if op=60 then 98 else 105,if Px.isK ra.1 105 && Px.isK rb.1 105 then rb.2 else Px.say 6 own rb.2)):=by unfold Hid oh;rw[if_neg (by omega)]
 have o1:((op:Int) == 110)=false:=by rw[beq_eq_false_iff_ne];omega
 have o2:((op:Int) == 116)=false:=by rw[beq_eq_false_iff_ne];omega
 have o3:((op:Int) == 119)=false:=by rw[beq_eq_false_iff_ne];omega
 have o4:((op:Int) == 33)=false:=by rw[beq_eq_false_iff_ne];omega
 have o5:((op:Int) == 61)=false:=by rw[beq_eq_false_iff_ne];omega
 have o6:((op:Int) == 35)=false:=by rw[beq_eq_false_iff_ne];omega
 clear hop;go_enter func121,ntmps121
 go_wp2_with fail;refine (ihl k _ _ lq HL.o.2.1.1 HK.o HL.o.1).mono ?_;rw[HR1.o];rintro e w1 ⟨rfl,l1,b1⟩;have hv1:w1.heap[q]?=_:=(b1.block q hqc).trans HL.o.2.2.1;have hk1:w1.heap[kb]?=_:=(b1.block kb zY).trans HL.o.2.2.2;have hx1:ig w1 r _ rq:=HL.o.2.1.2.keep fun i hi=>b1.block i (HK.o i hi)
 obtain ⟨d0,d1,d2,d3,d4,d5,df⟩:=nH hv1;have Mg:w1.cell? ⟨kb,1,none⟩=some (.pointer (some ⟨rq,0,none⟩)):=by simp[World.cell?,hk1]
 have L1:Hid (iy w1 c ra.2/\Below c w w1/\ig w1 r _ rq/\_):=⟨l1,b1,hx1,hv1⟩;clear l1 b1 hv1 hk1 hx1 c0 c1 c2 c3 c4 c5 f;go_wp2_with fail;refine (ihr ra.2 _ _ rq L1.o.2.2.1 HK.o L1.o.1).mono ?_;rw[HR2.o];rintro e w2 ⟨rfl,l2,b2⟩;have hv2:w2.heap[q]?=_:=(b2.block q hqc).trans L1.o.2.2.2;obtain ⟨f0,f1,f2,f3,f4,f5,ff⟩:=nH hv2;have L2:Hid (iy w2 c rb.2/\Below c w1 w2/\_):=⟨l2,b2,hv2⟩;clear l2 b2 hv2 d0 d1 d2 d3 d4 d5 df;have yc:∀ (e:Ending) (w3:fu) (z:Nat),e=Ending.returned (.int .u8 (z:Int))->z=(if op=60 then 98 else 105)->iy w3 c (if Px.isK ra.1 105 && Px.isK rb.1 105 then rb.2 else Px.say 6 own rb.2)->Below c w2 w3->e=.returned (.int .u8 ((iC ⟨op,n,fD,pl,own,some l,some r⟩ k).1:Int))/\iy w3 c (iC ⟨op,n,fD,pl,own,some l,some r⟩ k).2/\Below c w w3:=by
  intro e w3 z he hz hl3 hb3;rw[e1.o,e2.o];subst hz;exact ⟨he,hl3,(L1.o.2.1.trans L2.o.2.1).trans hb3⟩
 have FIN:Hid (_):=yc;clear yc;cases g1:Px.isK ra.1 105
 ·by_cases ho:op=60
  ·have o7:((op:Int) == 60)=true:=by rw[ho];rfl
   have HO:Hid (_):=ho;clear ho;go_wp2_with (first | (go_at_call 123;refine (pW _ 105 _).mono ?_;rintro e w' ⟨rfl,rfl⟩))
   refine (vH c 6 own rb.2 _ L2.o.1).mono ?_;rintro e w3 ⟨rfl,l3,b3⟩;have hv3:w3.heap[q]?=_:=(b3.block q hqc).trans L2.o.2.2;obtain ⟨x0,x1,x2,x3,x4,x5,xf⟩:=nH hv3;have L3:Hid (_/\_):=⟨l3,b3⟩;clear l3 b3 hv3;go_wp2_with fail;go_ret;exact FIN.o _ _ 98 rfl (by rw[if_pos HO.o]) (by rw[g1];exact L3.o.1) L3.o.2
  ·have o7:((op:Int) == 60)=false:=by rw[beq_eq_false_iff_ne];omega
   have HO:Hid (_):=ho;clear ho;go_wp2_with (first | (go_at_call 123;refine (pW _ 105 _).mono ?_;rintro e w' ⟨rfl,rfl⟩))
   refine (vH c 6 own rb.2 _ L2.o.1).mono ?_;rintro e w3 ⟨rfl,l3,b3⟩;have hv3:w3.heap[q]?=_:=(b3.block q hqc).trans L2.o.2.2;obtain ⟨x0,x1,x2,x3,x4,x5,xf⟩:=nH hv3;have L3:Hid (_/\_):=⟨l3,b3⟩;clear l3 b3 hv3;go_wp2_with fail;go_ret;exact FIN.o _ _ 105 rfl (by rw[if_neg HO.o]) (by rw[g1];exact L3.o.1) L3.o.2
 ·cases g2:Px.isK rb.1 105
  ·by_cases ho:op=60
   ·have o7:((op:Int) == 60)=true:=by rw[ho];rfl
    have HO:Hid (_):=ho;clear ho;go_wp2_with (first | (go_at_call 123;refine (pW _ 105 _).mono ?_;rintro e w' ⟨rfl,rfl⟩))
    refine (vH c 6 own rb.2 _ L2.o.1).mono ?_;rintro e w3 ⟨rfl,l3,b3⟩;have hv3:w3.heap[q]?=_:=(b3.block q hqc).trans L2.o.2.2;obtain ⟨x0,x1,x2,x3,x4,x5,xf⟩:=nH hv3;have L3:Hid (_/\_):=⟨l3,b3⟩;clear l3 b3 hv3;go_wp2_with fail;go_ret;exact FIN.o _ _ 98 rfl (by rw[if_pos HO.o]) (by rw[g1,g2];exact L3.o.1) L3.o.2
   ·have o7:((op:Int) == 60)=false:=by rw[beq_eq_false_iff_ne];omega
    have HO:Hid (_):=ho;clear ho;go_wp2_with (first | (go_at_call 123;refine (pW _ 105 _).mono ?_;rintro e w' ⟨rfl,rfl⟩))
    refine (vH c 6 own rb.2 _ L2.o.1).mono ?_;rintro e w3 ⟨rfl,l3,b3⟩;have hv3:w3.heap[q]?=_:=(b3.block q hqc).trans L2.o.2.2;obtain ⟨x0,x1,x2,x3,x4,x5,xf⟩:=nH hv3;have L3:Hid (_/\_):=⟨l3,b3⟩;clear l3 b3 hv3;go_wp2_with fail;go_ret;exact FIN.o _ _ 105 rfl (by rw[if_neg HO.o]) (by rw[g1,g2];exact L3.o.1) L3.o.2
  ·by_cases ho:op=60
   ·have o7:((op:Int) == 60)=true:=by rw[ho];rfl
    have HO:Hid (_):=ho;clear ho;go_wp2_with (first | (go_at_call 123;refine (pW _ 105 _).mono ?_;rintro e w' ⟨rfl,rfl⟩))
    go_ret;exact FIN.o _ _ 98 rfl (by rw[if_pos HO.o]) (by rw[g1,g2];exact L2.o.1) (aH _ _)
   ·have o7:((op:Int) == 60)=false:=by rw[beq_eq_false_iff_ne];omega
    have HO:Hid (_):=ho;clear ho;go_wp2_with (first | (go_at_call 123;refine (pW _ 105 _).mono ?_;rintro e w' ⟨rfl,rfl⟩))
    go_ret;exact FIN.o _ _ 105 rfl (by rw[if_neg HO.o]) (by rw[g1,g2];exact L2.o.1) (aH _ _)
theorem uL (c:Nat)(x:Px.Ex)(h:mO x):rQ c x:=by
 match x,h with
 | ⟨op,n,fD,pl,own,none,none⟩,h =>
  by_cases h1:op=119
  ·subst h1;exact Fk c n fD pl own
  ·have h':op=110\/op=116\/op=119:=h;exact Fi c op n fD pl own (by omega)
 | ⟨op,n,fD,pl,own,some l,none⟩,h =>
  obtain ⟨h1,h2⟩:=(show op=33/\mO l from h);subst h1;exact Fl c n fD pl own l (uL c l h2)
 | ⟨op,n,fD,pl,own,some l,some r⟩,h =>
  obtain ⟨h1,h2,h3⟩:=(show (op=42\/op=47\/op=43\/op=45\/op=60\/op=61\/op=35)/\mO l/\mO r from h);by_cases h4:op=61\/op=35
  ·exact Hh c op h4 n fD pl own l r (uL c l h2) (uL c r h3)
  ·exact Hi c op (by omega) n fD pl own l r (uL c l h2) (uL c r h3)
variable {l:List Sm}{ok:Nat->Prop}{qs:List Nat}
theorem fV.get (h:fV w l ok qs)(k:Nat)(hk:k < l.length):∃ q,qs[k]?=some q/\mh w l[k] ok q:=by
 induction l generalizing qs k with
 | nil=>simp at hk
 | cons x l ih =>
  obtain ⟨q,qs',rfl,h1,h2⟩:=h.Ph;cases k with
  | zero=>exact ⟨q,rfl,h1⟩
  | succ k =>
   obtain ⟨q',g1,g2⟩:=ih h2 k (by simpa using hk)
   exact ⟨q',g1,g2⟩
theorem iq.cell {w:fu}{v:fC}{qs:List Nat}{ok:Nat->Prop}(h:iq w v qs ok){k q:Nat}(hk:qs[k]?=some q):∃ g cap,v=.slice (some ⟨g,0,none⟩) qs.length cap/\ok g/\w.cell? ⟨g,k,none⟩=some (.pointer (some ⟨q,0,none⟩)):=by
 rcases h with ⟨h1,h2⟩ | ⟨g,cap,cur,h1,h2,h3,h4,h5,h6,h7⟩
 ·subst h2;simp at hk
 ·refine ⟨g,cap,h1,h2,?_⟩;have hl:k < qs.length:=(aU.1 hk).1;have e1:cur[k]?=(qs.map ptr)[k]?:=by
   rw[<- h7,bC hl];simp
  simp only[World.cell?,h3];rw[e1];simp[hk,ptr]
theorem iq.len (h:iq w v qs ok):∃ a c,v=.slice a qs.length c/\qs.length<=maxLen:=by
 rcases h with ⟨h1,h2⟩ | ⟨g,cap,cur,h1,h2,h3,h4,h5,h6,h7⟩
 ·subst h2;exact ⟨none,0,h1,by simp⟩
 ·exact ⟨_,cap,h1,by omega⟩
def zZ (c:Nat)(x:Sm):Prop:=∀ (k:Px.Lk) (w:fu) (ok:Nat->Prop) (q:Nat),mh w x ok q->(∀ i,ok i->i < c)->iy w c k->vS x->jM x.one->jM x.two->k.vars.length+1+Px.cnt x.one+Px.cnt x.two<=1000000 ->
 Calls prog 85 #[.pointer (some ⟨c,0,none⟩),.pointer (some ⟨q,0,none⟩)] w fun e w'=>e=.returned (.tuple #[])/\iy w' c (pO x k)/\Below c w w'
def z8 (c:Nat)(l:List Sm):Prop:=∀ (k:Px.Lk) (w:fu) (ok:Nat->Prop) (v:fC) (qs:List Nat),iq w v qs ok->fV w l ok qs->(∀ i,ok i->i < c)->iy w c k->jM l->k.vars.length+Px.cnt l<=1000000 ->
 Calls prog 29 #[.pointer (some ⟨c,0,none⟩),v] w fun e w'=>e=.returned (.tuple #[])/\iy w' c (iG l k)/\Below c w w'
theorem PU (h:jM l)(k:Nat)(hk:k < l.length):vS l[k]/\jM l[k].one/\jM l[k].two:=by
 induction l generalizing k with
 | nil=>simp at hk
 | cons x l ih =>
  obtain ⟨h1,h2,h3,h4⟩:=zi.1 h;cases k with
  | zero=>exact ⟨h1,h2,h3⟩
  | succ k=>exact ih h4 k (by simpa using hk)
theorem Il (c:Nat)(l:List Sm)(hx:∀ i (hi:i < l.length),zZ c l[i]):z8 c l:=by
 intro k w ok v qs hs hm hok hl hw hc;obtain ⟨va,vc,rfl,hml⟩:=hs.len;unfold maxLen at hml;have hlen:=hm.len;have H:Hid (iq w (.slice va qs.length vc) qs ok/\fV w l ok qs/\(∀ i,ok i->i < c)/\iy w c k/\jM l):=⟨hs,hm,hok,hl,hw⟩;have HX:Hid (_):=hx;have HLen:Hid (_):=hlen;clear hs hm hok hl hw hx hlen;go_enter func29,ntmps29
 go_wp2_with fail;go_loopw [4] (fun i wr=>∃ n:Nat,n<=qs.length/\i=.int .i64 n/\Hid (Below c w wr/\∃ k',iy wr c k'/\iG (l.drop n) k'=iG l k/\k'.vars.length+Px.cnt (l.drop n)<=1000000)) (fun i _=>qs.length - (intOf i).toNat)
 case atStart=>exact ⟨0,by omega,rfl,aH _ _,k,H.o.2.2.2.1,rfl,hc⟩
 case round =>
  obtain ⟨n,hn,rfl,hr⟩:=hrel;obtain ⟨hb,k',hk',he,hv⟩:=hr.o;clear hr;by_cases hlt:n < qs.length
  ·have hnl:n < l.length:=by have:=HLen.o;omega
   obtain ⟨q,hq1,hq2⟩:=H.o.2.1.get n hnl;obtain ⟨g,cap,hgv,hg,hcell⟩:=H.o.1.cell hq1;cases hgv;have hcr:wr.cell? ⟨g,n,none⟩=some (.pointer (some ⟨q,0,none⟩)):=by rw[hb.cell (p:=⟨g,n,none⟩) (H.o.2.2.1 g hg)];exact hcell
   have hq3:mh wr l[n] ok q:=hq2.keep fun i hi=>hb.block i (H.o.2.2.1 i hi)
   have hdrop:l.drop n=l[n]::l.drop (n+1):=cB hnl;rw[hdrop,KX] at he;rw[hdrop,Cq] at hv;have HH:Hid (Below c w wr/\iy wr c k'/\iG (l.drop (n+1)) (pO l[n] k')=iG l k/\mh wr l[n] ok q/\k'.vars.length+(1+Px.cnt l[n].one+Px.cnt l[n].two+Px.cnt (l.drop (n+1)))<=1000000):=⟨hb,hk',he,hq3,hv⟩;clear hb hk' he hq3 hcell hq2 hdrop hv;go_wp2_with fail;refine (HX.o n hnl k' _ ok q HH.o.2.2.2.1 H.o.2.2.1 HH.o.2.1 (PU H.o.2.2.2.2 n hnl).1 (PU H.o.2.2.2.2 n hnl).2.1 (PU H.o.2.2.2.2 n hnl).2.2 ?hcnt).mono ?_
   case hcnt=>have:=HH.o.2.2.2.2;omega
   rintro e w1 ⟨rfl,l1,b1⟩;have L1:Hid (_/\_):=⟨l1,b1⟩;clear l1 b1;go_wp2_with fail;refine ⟨⟨n+1,by omega,by go_num,HH.o.1.trans L1.o.2,pO l[n] k',L1.o.1,HH.o.2.2.1,?_⟩,by simp[intOf];omega⟩
   have Hj:=zn [l[n]] k';rw[KX,KV,Cq,zk] at Hj
   have:=HH.o.2.2.2.2
   omega
  ·have hnl:l.drop n=[]:=cZ (by have:=HLen.o;omega)
   rw[hnl,KV] at he;have HH:Hid (Below c w wr/\iy wr c (iG l k)):=⟨hb,by rw[<- he];exact hk'⟩
   clear hb hk' he hnl hv;go_wp2_with fail;go_end0
   exact ⟨rfl,HH.o.2,HH.o.1⟩
