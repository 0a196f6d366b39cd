import Derived.Test.YtgkhgealpneodaaGreatDoorG04
import Derived.Deep.OwnRows
set_option maxRecDepth 100000
set_option maxHeartbeats 4000000
namespace Go.Proofs.YtgkhgealpneodaaGreatDoor
open Go.RowKit Tryz
namespace Ref
open Px
variable{W w w':dY}{B b c cap g i m n:Nat}{V:Vs}{s:Rs}{tv u v va vh vl vp vv:dZ}{ex pv qv:List dZ}
theorem St.beside(h:St w B c V s vv vh vl va vp pv ex)(hv:v∈pv++ex):∀k,v.ownBlock=some k->¬(k=c\/va.ownBlock=some k):=by
 intro k hk hh;obtain rfl|hh:=hh;·exact(h.sep.own v (by simp only[bn];exact aj (aj (aj (aj hv)))) _ hk).2.1 rfl
 obtain⟨i,hi⟩:=List.mem_iff_getElem?.1 hv;exact h.sep.mem (i:=4+i) (j:=2) (by rw[show 4+i=i+1+1+1+1 by omega];exact hi) (show(vh::vl::va::vp::(pv++ex))[2]?=some va from rfl) (by omega) k hk hh
theorem St.GU(h:St w B c V s vv vh vl va vp pv ex)(ht:fE (fun k=>k=c\/va.ownBlock=some k) w w'):Below B w w':=by
 refine ht.qj (by have:=h.lt;have:=h.hB;omega) fun k hk=>?_;obtain rfl|hk:=hk;·exact h.hB
 exact(h.sep.own va (by simp) k hk).1
theorem St.xM(h:St w B c V s vv vh vl va vp pv ex)(ht:fE (·=c) w w'):Below B w w':=ht.qj (by have:=h.lt;have:=h.hB;omega) fun k hk=>by rw[hk];exact h.hB
variable{top:List (dX×Int)}
theorem St.popped{ps:List (List (dX×Int))}(h:St w B c V s vv vh vl va (.slice (some ⟨g,0,none⟩) (n+1) cap) (qv++[tv]) ex)(hp:s.eU=ps++[top])(hn:n=ps.length):St (w.setCell ⟨c,4,none⟩ (.slice (some ⟨g,0,none⟩) n cap)) B c V {s with eU:=ps} vv vh vl va (.slice (some ⟨g,0,none⟩) n cap) qv (tv::ex)/\(w.setCell ⟨c,4,none⟩ (.slice (some ⟨g,0,none⟩) n cap)).ownsRow B 244 2 tv top.length (rZ top):=by
 subst hn;have hT:fE (·=c) w (w.setCell ⟨c,4,none⟩ (.slice (some ⟨g,0,none⟩) ps.length cap)):=r9 (fE.refl _ _) rfl;have vN:qv.length=ps.length:=by have:=h.Nl;rw[hp]at this;simpa using this
 have hne:∀v∈vh::vl::va::(.slice (some ⟨g,0,none⟩) (ps.length+1) cap)::((qv++[tv])++ex),∀k,v.ownBlock=some k->¬k=c:=fun v hv k hk=>(h.sep.own v hv k hk).2.1;have hB:=h.hB;refine⟨⟨hB,by rw[heap_set _ h.at_];simp,iM h.vars hT fun k hk=>by have:=h.nX k hk;omega,h.nX,iM h.held hT (hne _ (by simp)),h.left.oL hT (hne _ (by simp)),iM h.eY hT (hne _ (by simp)),?_,?_,?_⟩,?_⟩;·have hh:=h.eU;rw[hp,aC]at hh;have h2:=ownsRow_pop (n:=ps.length) (xs:=qv) (last:=[tv]) (by omega) hh;exact iM h2 hT (fun k hk=>hne (.slice (some ⟨g,0,none⟩) (ps.length+1) cap) (by simp) k hk)
 ·intro i p v hpi Nq;dsimp only at hpi;have hlt:i<ps.length:=(aT.1 hpi).1;refine iM (h.each i p v ?_ ?_) hT (hne _ (by simp[List.mem_of_getElem? Nq]));·rw[hp,bg hlt];exact hpi
  rw[bg (by omega)];exact Nq
 ·have hs:=Sep.turn (A:=[vh,vl,va]) (v:=.slice (some ⟨g,0,none⟩) (ps.length+1) cap) (v':=.slice (some ⟨g,0,none⟩) ps.length cap) (R:=(qv++[tv])++ex) h.sep hT.size (by have:=h.lt;omega) h.lt (ak rfl);simpa using hs
 refine iM (h.each ps.length top tv ?_ ?_) hT (hne _ (by simp));·rw[hp];simp
 rw[<- vN];simp
theorem St.Nr(h:St w B c V s vv vh vl va vp pv ex)(hp:s.eU≠[]):∃g cap n qv tv,vp=.slice (some ⟨g,0,none⟩) (n+1) cap/\n+1<=cap/\cap<=maxLen/\n=s.eU.dropLast.length/\pv=qv++[tv]/\qv.length=n/\s.eU=s.eU.dropLast++[s.eU.getLastD []]/\w.cell? ⟨g,n,none⟩=some tv/\∀o,w.frozen? ⟨g,o,none⟩=false:=by
 have hpl:=bR.2 hp;have hpv:=h.Nl;have hpe:s.eU=s.eU.dropLast++[s.eU.getLastD []]:=by obtain⟨qs,q,e⟩:∃qs q,s.eU=qs++[q]:=⟨_,_,(bM hp).symm⟩;rw[e];simp[List.getLastD_eq_getLast?]
 obtain⟨h1,h2⟩:=h.eU;obtain⟨_,h2⟩|⟨g,cap,cur,rfl,hg,hh,hn,hm,hz,ht⟩:=h2;·omega
 have hne:pv≠[]:=fun e=>by rw[e]at hpv;simp at hpv;omega
 have QY:pv=pv.dropLast++[pv.getLast hne]:=(bM hne).symm;have hdl:s.eU.dropLast.length=s.eU.length-1:=cK;refine⟨g,cap,s.eU.dropLast.length,pv.dropLast,pv.getLast hne,by rw[hdl];congr 1;omega,by omega,hm,rfl,QY,by rw[cK,hdl];omega,hpe,?_,fun o=>by simp[World.frozen?,hh]⟩;have e:cur[s.eU.dropLast.length]?=pv[s.eU.dropLast.length]?:=by rw[<- ht,bE (by omega)];simp
 simp only[World.cell?,hh];rw[e,hdl,<- hpv,<- List.getLast?_eq_getElem?,List.getLast?_eq_some_getLast hne];rfl
theorem Jw{a:Option Addr}(h:w.ownsRow B 244 2 (.slice a n c) top.length (rZ top)):n=top.length/\top.length<=maxLen/\∀j(hj:j<top.length),∃g,a=some ⟨g,0,none⟩/\w.cell? ⟨g,j*2,none⟩=some (.string top[j].1)/\w.cell? ⟨g,j*2+1,none⟩=some (eF top[j].2):=by
 obtain⟨h1,h2⟩|⟨g,cap,cur,h1,h2,h3,h4,h5,h6,h7⟩:=h.2;·cases h1;exact⟨h2.symm,by rw[h2];exact aQ _,fun j hj=>by omega⟩
 cases h1;refine⟨rfl,by omega,fun j hj=>⟨g,rfl,?_,?_⟩⟩
 ·have hc:w.cell? ⟨g,j*2,none⟩=(rZ top)[j*2]?:=by rw[<- h7,bE (by omega)];simp[World.cell?,h3]
  rw[hc];exact(WZ top j hj).1
 have hc:w.cell? ⟨g,j*2+1,none⟩=(rZ top)[j*2+1]?:=by rw[<- h7,bE (by omega)];simp[World.cell?,h3]
 rw[hc];exact(WZ top j hj).2
theorem qw8(w:dX)(v:Int)(L:List (dX×Int))(s:Rs):(fT w v true 3 1 s).2.eY <+: (ny ((w,v)::L) s).eY:=by
 rw[ny];cases h:fT w v true 3 1 s with| mk o s1=>
 match o with| none=>exact aR _| some none=>exact aR _| some (some _)=>exact VD L s1
theorem _root_.Go.RowKit.Below.pQ(h:Below B w.drew w'):Below B w w':=⟨h.os,h.tape,h.output,h.size,h.block⟩
theorem St.fewer(h:St w B c V s vv vh vl va vp pv (v::ex)):St w B c V s vv vh vl va vp pv ex:=⟨h.hB,h.at_,h.vars,h.nX,h.held,h.left,h.eY,h.eU,h.each,h.sep.sub (List.Sublist.cons_cons _ (List.Sublist.cons_cons _ (List.Sublist.cons_cons _ (List.Sublist.cons_cons _ (List.Sublist.append (List.Sublist.refl _) (List.sublist_cons_self _ _))))))⟩
theorem St.Jy(h:St w B c V s vv vh vl va vp pv ex):St (w.setCell ⟨c,5,none⟩ (eF 3)) B c V {s with over:=3} vv vh vl va vp pv ex:=h.own (r9 (fE.refl _ _) rfl) (by rw[heap_set _ h.at_];simp) rfl rfl rfl rfl
theorem Xf(B c:Nat)(V:Vs)(a:iL)(s:Rs)(vv vh vl va vp:dZ)(pv ex:List dZ)(w:dY)(h:St w B c V s vv vh vl va vp pv ex)(hl:s.eY.length<=1000000000)(hn:s.left=[]):fI 142 #[fq c,.agg #[.string a.eH,eF a.arg,eF (a.nth:Int),.bool a.undo]] w fun e w'=>e=fM (.tuple #[eF 0,.bool false])/\∃vl' va',St w' B c V {s with eY:=s.eY++[a],stop:=true} vv vh vl' va' vp pv ex/\fE (fun k=>k=c\/va.ownBlock=some k) w w':=by have:=Xa B c V a s vv vh vl va vp pv ex w h hl;unfold vM at this;rw[Np a hn]at this;exact this
theorem Ns(B c:Nat)(V:Vs)(a:iL)(s:Rs)(vv vh vl va vp:dZ)(pv ex:List dZ)(w:dY)(h:St w B c V s vv vh vl va vp pv ex)(hl:s.eY.length<=1000000000){n:Int}{r:List Int}(hn:s.left=n::r):fI 142 #[fq c,.agg #[.string a.eH,eF a.arg,eF (a.nth:Int),.bool a.undo]] w fun e w'=>e=fM (.tuple #[eF n,.bool true])/\∃vl' va',St w' B c V {s with eY:=s.eY++[a],left:=r} vv vh vl' va' vp pv ex/\fE (fun k=>k=c\/va.ownBlock=some k) w w':=by have:=Xa B c V a s vv vh vl va vp pv ex w h hl;unfold vM at this;rw[GQ a hn]at this;exact this
theorem Xg(B c:Nat)(V:Vs)(s:Rs)(vv vh vl va vp:dZ)(pv ex:List dZ)(w:dY)(h:St w B c V s vv vh vl va vp pv ex)(hp:s.eU≠[])(hb:(mM s).eY.length<=1000000000)(ho:s.over=0):fI 61 #[fq c] w fun e w'=>e=fM (.tuple #[])/\Below B w w'/\∃vl' va' vp' pv',St w' B c V (mM s) vv vh vl' va' vp' pv' ex:=by
 obtain⟨c0,c1,c2,c3,c4,c5,c6,c7,cf⟩:=oh h.at_;obtain⟨g,cap,n,qv,tv,rfl,hcap,hcm,hn,rfl,wR,hpe,hcell,hfz⟩:=h.Nr hp;generalize hps:s.eU.dropLast=ps at *;generalize htop:s.eU.getLastD []=top at *;obtain⟨hS,hrow⟩:=h.popped hpe hn;obtain⟨ta,tn,tc,rfl⟩:=lu hrow;obtain⟨rfl,QZ,hcells⟩:=Jw hrow;have hU:mM s=ny top.reverse {s with eU:=ps}:=by unfold mM;rw[hps,htop]
 have hBw:=h.xM (w':=w.setCell ⟨c,4,none⟩ (.slice (some ⟨g,0,none⟩) n cap)) (r9 (fE.refl _ _) rfl);have H:Hid (_/\_/\_/\_/\_):=⟨hS,hrow,hU,hBw,hb⟩;unfold maxLen at hcm QZ;clear hS hrow hU hBw h hpe hps htop hcells hb hn wR hp;go_enter func61,ntmps61;go_wp2_with fail;go_loopw [4] (fun i wr=>∃j:Nat,j<=top.length/\i=eF ((j:Int)-1)/\Hid (Below B w wr/\∃s' vl' va',St wr B c V s' vv vh vl' va' (.slice (some ⟨g,0,none⟩) n cap) qv (.slice ta top.length tc::ex)/\wr.ownsRow B 244 2 (.slice ta top.length tc) top.length (rZ top)/\ny (top.take j).reverse s'=mM s/\s'.over=0)) (fun i _=>((intOf i)+1).toNat)
 case atStart=>exact⟨top.length,ay _,by go_num,H.o.2.2.2.1,_,_,_,H.o.1,H.o.2.1,by rw[H.o.2.2.1,dH],ho⟩
 case round=>
  obtain⟨j,hj,rfl,hr⟩:=hrel;by_cases hlt:0<j
  ·obtain⟨j,rfl⟩:∃j',j=j'+1:=⟨j-1,by omega⟩;have hjt:j<top.length:=by omega
   obtain⟨hbr,s',vl',va',hs',hrow,rG,hov⟩:=hr.o;obtain⟨_,_,hcells⟩:=Jw hrow;obtain⟨gt,rfl,_,_⟩:=hcells j hjt;have htk:(top.take (j+1)).reverse=(top[j].1,top[j].2)::(top.take j).reverse:=by rw[aZ hjt,List.reverse_append];rfl
   rw[htk]at rG;generalize hR:fT top[j].1 top[j].2 true 3 1 s'=R;have hpre:R.2.eY <+: (mM s).eY:=by rw[<- rG,<- hR];exact qw8 _ _ _ _
   have HU:Hid (ny ((top[j].1,top[j].2)::(top.take j).reverse) s'=mM s/\fT top[j].1 top[j].2 true 3 1 s'=R/\R.2.eY <+: (mM s).eY):=⟨rG,hR,hpre⟩;have H0:Hid (Below B w wr/\St wr B c V s' vv vh vl' va' (.slice (some ⟨g,0,none⟩) n cap) qv (.slice (some ⟨gt,0,none⟩) top.length tc::ex)/\wr.ownsRow B 244 2 (.slice (some ⟨gt,0,none⟩) top.length tc) top.length (rZ top)/\s'.over=0):=⟨hbr,hs',hrow,hov⟩;clear hr hbr hs' hrow rG hov hcells htk hR hpre;go_wp2_with fail;go_loopw [5,6] (fun d t w2=>∃(dn:Bool)(tt:Nat),d=.bool dn/\t=eF tt/\1<=tt/\tt<=4/\Hid (Below B w w2/\∃s2 om jO,St w2 B c V s2 vv vh om jO (.slice (some ⟨g,0,none⟩) n cap) qv (.slice (some ⟨gt,0,none⟩) top.length tc::ex)/\w2.ownsRow B 244 2 (.slice (some ⟨gt,0,none⟩) top.length tc) top.length (rZ top)/\s2.over=0/\(dn=false->fT top[j].1 top[j].2 true (4-tt) tt s2=R)/\(dn=true->∃x,R=(some (some x),s2)))) (fun _ t _=>4-(intOf t).toNat)
   case atStart=>exact⟨false,1,rfl,rfl,by omega,by omega,H0.o.1,s',vl',va',H0.o.2.1,H0.o.2.2.1,H0.o.2.2.2,fun _=>HU.o.2.1,fun h=>by cases h⟩
   case round=>
    obtain⟨dn,tt,rfl,rfl,ht1,ht4,hr2⟩:=hrel;cases dn
    ·by_cases ht3:tt<=3
     ·obtain⟨hb2,s2,om,jO,hs2,hrow2,sO,pR,_⟩:=hr2.o;obtain⟨_,_,wS⟩:=Jw hrow2;obtain⟨g',e',hc1,hc2⟩:=wS j hjt;cases e';have pR:=pR rfl;obtain⟨k,hk⟩:∃k,4-tt=k+1:=⟨3-tt,by omega⟩;have hk2:4-(tt+1)=k:=by omega
      rw[hk]at pR;have oM:s2.eY.length<=1000000000:=by have h1:s2.eY.length<=(fT top[j].1 top[j].2 true (k+1) tt s2).2.eY.length:=(Me top[j].1 top[j].2 true (k+1) tt s2).length_le;rw[pR]at h1;have h2:=HU.o.2.2.length_le;have h3:=H.o.2.2.2.2;omega
      have H2:Hid (Below B w wr/\St wr B c V s2 vv vh om jO (.slice (some ⟨g,0,none⟩) n cap) qv (.slice (some ⟨gt,0,none⟩) top.length tc::ex)/\wr.ownsRow B 244 2 (.slice (some ⟨gt,0,none⟩) top.length tc) top.length (rZ top)/\s2.over=0/\fT top[j].1 top[j].2 true (k+1) tt s2=R):=⟨hb2,hs2,hrow2,sO,pR⟩;clear hr2 hb2 hs2 hrow2 sO pR wS;cases hsl:s2.left with
      |nil=>
       have HE:Hid _:=hsl;have ER:Hid (R=(none,{s2 with eY:=s2.eY++[⟨top[j].1,top[j].2,tt,true⟩],stop:=true})):=by unfold Hid;rw[<- H2.o.2.2.2.2,fT,Np _ HE.o]
       clear hsl;go_wp2_with fail;go_region_with (go_at_call 142;refine(Xf B c V ⟨top[j].1,top[j].2,tt,true⟩ s2 vv vh om jO _ qv _ _ H2.o.2.1.drew oM HE.o).mono ?_;rintro e w3 ⟨rfl,oW,zw,h3,t3⟩;have H3:Hid (_/\_):=⟨h3,t3⟩;clear h3 t3)
       all_goals
        go_wp2_with fail;refine bodyPost_ret (results_none rfl _ _ _) rfl ?_;have hfin:mM s={s2 with eY:=s2.eY++[⟨top[j].1,top[j].2,tt,true⟩],stop:=true}:=by rw[<- HU.o.1,ny,HU.o.2.1,ER.o]
        rw[hfin];exact⟨rfl,H2.o.1.trans (H2.o.2.1.drew.GU H3.o.2).pQ,_,_,_,_,H3.o.1.fewer⟩
      |cons x r=>
      have HE:Hid _:=hsl;clear hsl;by_cases hx:0<=x
      ·have ER:Hid (R=(some (some x),{s2 with eY:=s2.eY++[⟨top[j].1,top[j].2,tt,true⟩],left:=r})):=by unfold Hid;rw[<- H2.o.2.2.2.2,fT,GQ _ HE.o];simp only;rw[aA hx]
       go_wp2_with fail;go_region_with (go_at_call 142;refine(Ns B c V ⟨top[j].1,top[j].2,tt,true⟩ s2 vv vh om jO _ qv _ _ H2.o.2.1.drew oM HE.o).mono ?_;rintro e w3 ⟨rfl,oW,zw,h3,t3⟩;have H3:Hid (_/\_):=⟨h3,t3⟩;clear h3 t3)
       all_goals
        go_wp2_with fail;refine⟨⟨true,tt+1,rfl,by go_num,by omega,by omega,H2.o.1.trans (H2.o.2.1.drew.GU H3.o.2).pQ,_,oW,zw,H3.o.1,iM (World.ownsRow.drew H2.o.2.2.1) H3.o.2 (H2.o.2.1.drew.beside (by simp)),H2.o.2.2.2.1,fun h=>(by cases h),fun _=>⟨x,ER.o⟩⟩,by simp[intOf];omega⟩
      have ER:Hid (fT top[j].1 top[j].2 true k (tt+1) {s2 with eY:=s2.eY++[⟨top[j].1,top[j].2,tt,true⟩],left:=r}=R):=by unfold Hid;rw[<- H2.o.2.2.2.2,fT,GQ _ HE.o];simp only;rw[ah hx]
      go_wp2_with fail;go_region_with (go_at_call 142;refine(Ns B c V ⟨top[j].1,top[j].2,tt,true⟩ s2 vv vh om jO _ qv _ _ H2.o.2.1.drew oM HE.o).mono ?_;rintro e w3 ⟨rfl,oW,zw,h3,t3⟩;have H3:Hid (_/\_):=⟨h3,t3⟩;clear h3 t3)
      all_goals
       go_wp2_with fail;refine⟨⟨false,tt+1,by simp[hx],by go_num,by omega,by omega,H2.o.1.trans (H2.o.2.1.drew.GU H3.o.2).pQ,_,oW,zw,H3.o.1,iM (World.ownsRow.drew H2.o.2.2.1) H3.o.2 (H2.o.2.1.drew.beside (by simp)),H2.o.2.2.2.1,fun _=>by rw[hk2];exact ER.o,fun h=>by cases h⟩,by simp[intOf];omega⟩
     obtain rfl:tt=4:=by omega
     obtain⟨hb2,s2,om,jO,hs2,hrow2,sO,pR,_⟩:=hr2.o;have pR:=pR rfl;obtain⟨m0,m1,m2,m3,m4,m5,m6,m7,mf⟩:=oh hs2.at_;have H2:Hid (_/\_/\_):=⟨hb2,hs2,pR⟩;clear hr2 hb2 hs2 hrow2 pR;go_wp2_with fail;refine bodyPost_ret (results_none rfl _ _ _) rfl ?_;have hfin:mM s={s2 with over:=3}:=by rw[<- HU.o.1,ny,HU.o.2.1,<- H2.o.2.2];rfl
     rw[hfin];exact⟨rfl,H2.o.1.trans (H2.o.2.1.xM (r9 (fE.refl _ _) rfl)),_,_,_,_,H2.o.2.1.Jy.fewer⟩
    obtain⟨hb2,s2,om,jO,hs2,hrow2,sO,_,pR⟩:=hr2.o;obtain⟨x,Xh⟩:=pR rfl;have H2:Hid (_/\_/\_/\_/\_):=⟨hb2,hs2,hrow2,sO,Xh⟩;clear hr2 hb2 hs2 hrow2 pR Xh sO;go_wp2_with fail;all_goals
     refine⟨⟨j,by omega,rfl,H2.o.1,s2,om,jO,H2.o.2.1,H2.o.2.2.1,?_,H2.o.2.2.2.1⟩,by simp[intOf]⟩;rw[<- HU.o.1,ny,HU.o.2.1,H2.o.2.2.2.2]
  obtain rfl:j=0:=by omega
  obtain⟨hbr,s',vl',va',hs',hrow,rG,hov⟩:=hr.o;have H0:Hid (_/\_/\_):=⟨hbr,hs',rG⟩;clear hr hbr hs' hrow rG hov;go_wp2_with fail;go_end0
  rw[<- H0.o.2.2];exact⟨rfl,H0.o.1,_,_,_,_,H0.o.2.1.fewer⟩
theorem St.idx(h:St w B c V s vv vh vl va vp pv ex){j:Nat}(hi:(vh::vl::va::vp::(pv++ex))[i]?=some v)(hj:(vh::vl::va::vp::(pv++ex))[j]?=some u)(hij:i≠j):∀k,v.ownBlock=some k->u.ownBlock≠some k:=h.sep.mem hi hj hij
theorem St.xO(h:St w B c V s vv vh vl va vp pv ex)(hi:(vh::vl::va::vp::(pv++ex))[i]?=some v):∀k,v.ownBlock=some k->B<=k/\k≠c/\k<w.heap.size:=h.sep.own v (bL hi)
theorem GV(h:pv[i]?=some v):(vh::vl::va::vp::(pv++ex))[4+i]?=some v:=by rw[show 4+i=i+1+1+1+1 by omega,bC,bC,bC,bC,bg (aT.1 h).1];exact h
theorem St.Xi(h:St w B c V s vv (.slice (some ⟨g,0,none⟩) m cap) vl va vp pv ex)(hm:m=s.held.length)(i:Nat)(v:Int):St (w.setCell ⟨g,i,none⟩ (eF v)) B c V {s with held:=s.held.set i v} vv (.slice (some ⟨g,0,none⟩) m cap) vl va vp pv ex/\Below B w (w.setCell ⟨g,i,none⟩ (eF v)):=by
 subst hm;have hT:fE (·=g) w (w.setCell ⟨g,i,none⟩ (eF v)):=fE.setCell (T:=(·=g)) (fE.refl _ _) (p:=⟨g,i,none⟩) (ak rfl) _;have hg:=h.xO (i:=0) rfl g rfl;have hne:∀j u,j≠0->((.slice (some ⟨g,0,none⟩) s.held.length cap)::vl::va::vp::(pv++ex))[j]?=some u->∀k,u.ownBlock=some k->¬k=g:=by intro j u hj hu k hk e;subst e;exact h.idx hu (show((.slice (some ⟨k,0,none⟩) s.held.length cap)::vl::va::vp::(pv++ex))[0]?=some _ from rfl) hj k hk rfl
 refine⟨⟨h.hB,?_,iM h.vars hT fun k hk e=>by have:=h.nX k hk;omega,h.nX,?_,h.left.oL hT (hne 1 _ (by decide) rfl),iM h.eY hT (hne 2 _ (by decide) rfl),iM h.eU hT (hne 3 _ (by decide) rfl),?_,h.sep.world hT.size⟩,hT.qj (by have:=h.lt;have:=h.hB;omega) fun k hk=>by rw[hk];exact hg.1⟩;·rw[hT.block c h.lt (fun e=>hg.2.1 e.symm)];exact h.at_
 ·have:=(h.held.stored i (eF v)).1;dsimp only;rw[List.length_set];have e:(gB s.held).set i (eF v)=gB (s.held.set i v):=by unfold gB;rw[List.map_set]
  rw[e]at this;exact this
 intro j p u hp hu;exact iM (h.each j p u hp hu) hT (hne (4+j) u (by omega) (GV hu))
theorem St.Nt(h:St w B c V s vv vh vl va (.slice (some ⟨g,0,none⟩) (n+1) cap) (qv++[tv]) ex)(hp:s.eU=s.eU.dropLast++[top])(hn:n=s.eU.dropLast.length)(u:dX)(x:Int)(hW:fE (fun _=>False) w W):∀v' w3,w3.ownsRow B 244 2 v' (top.length+1) (rZ top++[.string u,eF x])->W.grownBy w3 tv.ownBlock->(v'.ownBlock=tv.ownBlock\/v'.ownBlock=some W.heap.size) ->
   ∃a1 n1 c1,v'=.slice a1 n1 c1/\w3.heap[c]?=w.heap[c]?/\w3.heap[g]?=w.heap[g]?/\Hid (St (w3.setCell ⟨g,n,none⟩ v') B c V {s with eU:=jq s.eU [(u,x)]} vv vh vl va (.slice (some ⟨g,0,none⟩) (n+1) cap) (qv++[v']) ex/\Below B w (w3.setCell ⟨g,n,none⟩ v')):=by
 intro v' w3 hown hg hloc;obtain⟨a1,n1,c1,rfl⟩:=lu hown;have vN:qv.length=n:=by have:=h.Nl;rw[hp]at this;simp at this;rw[hn];simpa using this
 have EB:(vh::vl::va::(.slice (some ⟨g,0,none⟩) (n+1) cap)::((qv++[tv])++ex))[4+n]?=some tv:=GV (by rw[<- vN];simp);have hvp:(vh::vl::va::(.slice (some ⟨g,0,none⟩) (n+1) cap)::((qv++[tv])++ex))[3]?=some (.slice (some ⟨g,0,none⟩) (n+1) cap):=rfl;have hgB:=h.xO hvp g rfl;have vo:fE (fun k=>tv.ownBlock=some k) w w3:=(hW.mono fun _ _ h=>h.elim).grown hg fun k hk=>ak hk;have lV:¬tv.ownBlock=some c:=fun e=>(h.xO EB c e).2.1 rfl;have EC:¬tv.ownBlock=some g:=fun e=>h.idx EB hvp (by omega) g e rfl;have hT:fE (fun k=>tv.ownBlock=some k\/k=g) w (w3.setCell ⟨g,n,none⟩ (.slice a1 n1 c1)):=fE.setCell (T:=fun k=>tv.ownBlock=some k\/k=g) (vo.mono fun k _ hk=>ak hk) (p:=⟨g,n,none⟩) (ak (aj rfl)) _;have hloc':(Value.slice a1 n1 c1).ownBlock=tv.ownBlock\/(Value.slice a1 n1 c1).ownBlock=none\/∃m,(Value.slice a1 n1 c1).ownBlock=some m/\w.heap.size<=m/\m<(w3.setCell ⟨g,n,none⟩ (.slice a1 n1 c1)).heap.size:=by
  obtain hl|hl:=hloc;·exact ak hl
  ·exact aj (aj ⟨_,hl,hW.size,by simpa[World.setCell]using(hown.lt _ hl).2⟩)
 have Q0:(Value.slice a1 n1 c1).ownBlock≠some g:=fun e=>by
  obtain hl|hl|⟨m,hl,h1,_⟩:=hloc';·exact EC (by rw[<- hl];exact e)
  ·rw[hl]at e;cases e
  ·rw[hl]at e;cases e;omega
 have hne:∀j v,j≠3->j≠4+n->(vh::vl::va::(.slice (some ⟨g,0,none⟩) (n+1) cap)::((qv++[tv])++ex))[j]?=some v->∀k,v.ownBlock=some k->¬(tv.ownBlock=some k\/k=g):=by
  intro j v hj hj' hv k hk hh;obtain hh|rfl:=hh;·exact h.idx hv EB hj' k hk hh
  ·exact h.idx hv hvp hj k hk rfl
 have hB:=h.hB;have hd:(jq s.eU [(u,x)])=s.eU.dropLast++[top++[(u,x)]]:=by
  unfold jq
  conv=>lhs;rw[hp]
  simp[List.getLastD_eq_getLast?]
 refine⟨a1,n1,c1,rfl,vo.block c h.lt lV,vo.block g hgB.2.2 EC,⟨hB,?_,iM h.vars hT ?_,h.nX,iM h.held hT (hne 0 _ (by omega) (by omega) rfl),h.left.oL hT (hne 1 _ (by omega) (by omega) rfl),iM h.eY hT (hne 2 _ (by omega) (by omega) rfl),?_,?_,?_⟩,hT.qj (by have:=h.lt;omega) ?_⟩;·rw[hT.block c h.lt (by rintro(e|e);exact lV e;exact hgB.2.1 e.symm)];exact h.at_
 ·intro k hk hh;have:=h.nX k hk;obtain hh|rfl:=hh;·have:=(h.xO EB k hh).1;omega
  ·omega
 ·have h3:w3.ownsRow B 241 1 (.slice (some ⟨g,0,none⟩) (n+1) cap) s.eU.length (qv++[tv]):=iM h.eU vo fun k hk=>by cases hk;exact EC
  have hlen:s.eU.length=n+1:=by rw[hp];simp[hn]
  rw[hlen]at h3;have:=(h3.stored n (.slice a1 n1 c1)).1;have e:(qv++[tv]).set n (.slice a1 n1 c1)=qv++[.slice a1 n1 c1]:=by rw[List.set_append_right _ _ (by omega)];simp[vN]
  rw[e]at this;dsimp only;rw[hd,aC,<- hn];exact this
 ·intro j p v vO sP;dsimp only at vO;rw[hd]at vO;by_cases hj:j<n
  ·rw[bg (by omega)]at vO;rw[bg (by omega)]at sP;have Jz:(qv++[tv])[j]?=some v:=by rw[bg (by omega)];exact sP
   refine iM (h.each j p v ?_ Jz) hT (hne (4+j) v (by omega) (by omega) (GV Jz));rw[hp,bg (by omega)];exact vO
  ·have hj':j=n:=by have:=(aT.1 sP).1;simp at this;omega
   subst hj';rw[aY (by omega),<- hn]at vO;rw[aY (by omega),vN]at sP;simp at vO sP;subst vO sP;have:=ownsRow_setCell_other hown (a:=⟨g,j,none⟩) Q0 (.slice a1 n1 c1);rw[Xs,aC];exact this
 ·have:=Sep.turn (A:=vh::vl::va::(.slice (some ⟨g,0,none⟩) (n+1) cap)::qv) (v:=tv) (v':=.slice a1 n1 c1) (R:=ex) (by simpa using h.sep) hT.size (by have:=h.lt;omega) h.lt hloc';simpa using this
 ·intro k hk;obtain hk|rfl:=hk;·exact(h.xO EB k hk).1
  ·exact hgB.1
theorem Nu:(prog.info? 241).map (fun i=>(i.zero,i.size,i.bytes))=some (some (iE),1,24):=by kernel_rfl
theorem St.Q6(h:St w B c V s vv vh vl va vp pv ex)(hW:fE (fun _=>False) w W):∀v' w3,w3.ownsRow B 241 1 v' (s.eU.length+1) (pv++[iE])->W.grownBy w3 vp.ownBlock->(v'.ownBlock=vp.ownBlock\/v'.ownBlock=some W.heap.size) ->
   ∃a1 n1 c1,v'=.slice a1 n1 c1/\w3.heap[c]?=w.heap[c]?/\Hid (St (w3.setCell ⟨c,4,none⟩ v') B c V {s with eU:=s.eU++[[]]} vv vh vl va v' (pv++[iE]) ex/\Below B w (w3.setCell ⟨c,4,none⟩ v')):=by
 intro v' w3 hown hg hloc;obtain⟨a1,n1,c1,rfl⟩:=lu hown;have hvp:(vh::vl::va::vp::(pv++ex))[3]?=some vp:=rfl;have vo:fE (fun k=>vp.ownBlock=some k) w w3:=(hW.mono fun _ _ h=>h.elim).grown hg fun k hk=>ak hk;have lV:¬vp.ownBlock=some c:=fun e=>(h.xO hvp c e).2.1 rfl;have hT:fE (fun k=>vp.ownBlock=some k\/k=c) w (w3.setCell ⟨c,4,none⟩ (.slice a1 n1 c1)):=fE.setCell (T:=fun k=>vp.ownBlock=some k\/k=c) (vo.mono fun k _ hk=>ak hk) (p:=⟨c,4,none⟩) (ak (aj rfl)) _;have hloc':(Value.slice a1 n1 c1).ownBlock=vp.ownBlock\/(Value.slice a1 n1 c1).ownBlock=none\/∃m,(Value.slice a1 n1 c1).ownBlock=some m/\w.heap.size<=m/\m<(w3.setCell ⟨c,4,none⟩ (.slice a1 n1 c1)).heap.size:=by
  obtain hl|hl:=hloc;·exact ak hl
  ·exact aj (aj ⟨_,hl,hW.size,by simpa[World.setCell]using(hown.lt _ hl).2⟩)
 have hnc':(Value.slice a1 n1 c1).ownBlock≠some c:=fun e=>by
  obtain hl|hl|⟨m,hl,h1,_⟩:=hloc';·exact lV (by rw[<- hl];exact e)
  ·rw[hl]at e;cases e
  ·rw[hl]at e;cases e;have:=h.lt;omega
 have hne:∀j v,j≠3->(vh::vl::va::vp::(pv++ex))[j]?=some v->∀k,v.ownBlock=some k->¬(vp.ownBlock=some k\/k=c):=by
  intro j v hj hv k hk hh;obtain hh|rfl:=hh;·exact h.idx hv hvp hj k hk hh
  ·exact(h.xO hv _ hk).2.1 rfl
 have hB:=h.hB;have hc3:w3.heap[c]?=w.heap[c]?:=vo.block c h.lt lV;refine⟨a1,n1,c1,rfl,hc3,⟨hB,?_,iM h.vars hT ?_,h.nX,iM h.held hT (hne 0 _ (by omega) rfl),h.left.oL hT (hne 1 _ (by omega) rfl),iM h.eY hT (hne 2 _ (by omega) rfl),?_,?_,?_⟩,hT.qj (by have:=h.lt;omega) ?_⟩;·rw[heap_set _ (hc3.trans h.at_)];simp
 ·intro k hk hh;have:=h.nX k hk;obtain hh|rfl:=hh;·have:=(h.xO hvp k hh).1;omega
  ·omega
 ·dsimp only;rw[aC];exact ownsRow_setCell_other hown (a:=⟨c,4,none⟩) hnc' _
 ·intro j p v vO sP;dsimp only at vO;have hpl:=h.Nl;by_cases hj:j<pv.length;·rw[bg (by omega)]at vO;rw[bg hj]at sP;exact iM (h.each j p v vO sP) hT (hne (4+j) v (by omega) (GV sP))
  ·have hj':j=pv.length:=by have:=(aT.1 sP).1;simp at this;omega
   subst hj';rw[aY (by omega)]at sP;rw[hpl,aY (by omega)]at vO;simp at vO sP;subst vO sP;exact aX _ _ _ _
 ·have h1:=Sep.turn (A:=[vh,vl,va]) (v:=vp) (v':=.slice a1 n1 c1) (R:=pv++ex) h.sep hT.size (by have:=h.lt;omega) h.lt hloc';refine(h1.nil (v:=iE) rfl).perm ?_;simp only[bJ,dz,aM];refine List.Perm.trans ?_ (List.Perm.cons _ (List.Perm.cons _ (List.Perm.cons _ (List.Perm.cons _ (List.perm_middle (l₁:=pv) (a:=Value.slice none 0 0) (l₂:=ex)).symm))));exact(List.Perm.swap _ _ _).trans (List.Perm.cons _ ((List.Perm.swap _ _ _).trans (List.Perm.cons _ ((List.Perm.swap _ _ _).trans (List.Perm.cons _ (List.Perm.swap _ _ _))))))
 ·intro k hk;obtain hk|rfl:=hk;·exact(h.xO hvp k hk).1
  ·exact hB
theorem St.znp(h:St w B c V s vv vh vl va (.slice (some ⟨g,0,none⟩) (n+1) cap) (qv++[tv]) ex)(wR:qv.length=n)(hW:fE (fun _=>False) w W)(hu:u∈ex){e:TypeId}{sz:Nat}{xs:List dZ}(hown:w.ownsRow B e sz u m xs):∀v' w3,W.grownBy w3 tv.ownBlock->(w3.setCell ⟨g,n,none⟩ v').ownsRow B e sz u m xs:=by
 intro v' w3 hg;obtain⟨i,hi⟩:=List.mem_iff_getElem?.1 hu;have hue:(vh::vl::va::(.slice (some ⟨g,0,none⟩) (n+1) cap)::((qv++[tv])++ex))[4+(n+1)+i]?=some u:=by rw[show 4+(n+1)+i=(n+1+i)+1+1+1+1 by omega,bC,bC,bC,bC,aY (by simp;omega)];simp only[aC,aS,wR];rw[show n+1+i-(n+1)=i by omega];exact hi
 have EB:(vh::vl::va::(.slice (some ⟨g,0,none⟩) (n+1) cap)::((qv++[tv])++ex))[4+n]?=some tv:=GV (by rw[<- wR];simp);have hvp:(vh::vl::va::(.slice (some ⟨g,0,none⟩) (n+1) cap)::((qv++[tv])++ex))[3]?=some (.slice (some ⟨g,0,none⟩) (n+1) cap):=rfl;have vo:fE (fun k=>tv.ownBlock=some k) w w3:=(hW.mono fun _ _ h=>h.elim).grown hg fun k hk=>ak hk;refine ownsRow_setCell_other (iM hown vo fun k hk hh=>h.idx hue EB (by omega) k hk hh) (a:=⟨g,n,none⟩) (fun e=>h.idx hue hvp (by omega) g e rfl) _
def zx(w:dY)(v:dZ)(l:List Int):Prop :=∃ad cap,v=.slice ad l.length cap/\l.length<=maxLen/\l.length*8<=140737488355328/\∀i(hi:i<l.length),∃a:Addr,ad=some a/\a.block<w.heap.size/\w.cell? (a.add i)=some (eF l[i])
theorem qya{l:List Int}(h:w.ownsRow B 3 1 v l.length (gB l)):qw w v l:=by
 obtain⟨rfl,h2⟩|⟨g,cap,cur,rfl,hg,hh,hn,hm,hz,ht⟩:=h.2;·exact⟨none,0,by rw[h2],by rw[h2];exact aQ _,by omega,fun h=>by omega⟩
 refine⟨_,_,rfl,by omega,hn,fun _=>⟨g,0,cur,_,rfl,hh,fun i hi=>?_⟩⟩;have e:cur[i]?=(gB l)[i]?:=by rw[<- ht,bE (by omega)];simp
 rw[cZ,e];simp[gB,hi]
theorem St.znk(h:St w B c V s vv vh vl va vp pv ex)(x:Int)(hW:fE (fun _=>False) w W):∀v' w3,w3.ownsRow B 3 1 v' (s.left.length+1) (gB s.left++[eF x])->W.grownBy w3 vl.ownBlock->(v'.ownBlock=vl.ownBlock\/v'.ownBlock=some W.heap.size) ->
   ∃a1 n1 c1,v'=.slice a1 n1 c1/\w3.heap[c]?=w.heap[c]?/\Hid (St (w3.setCell ⟨c,2,none⟩ v') B c V {s with left:=s.left++[x]} vv vh v' va vp pv ex/\Below B w (w3.setCell ⟨c,2,none⟩ v')/\(w3.setCell ⟨c,2,none⟩ v').ownsRow B 3 1 v' (s.left++[x]).length (gB (s.left++[x]))):=by
 intro v' w3 hown hg hloc;obtain⟨a1,n1,c1,rfl⟩:=lu hown;have hvp:(vh::vl::va::vp::(pv++ex))[1]?=some vl:=rfl;have vo:fE (fun k=>vl.ownBlock=some k) w w3:=(hW.mono fun _ _ h=>h.elim).grown hg fun k hk=>ak hk;have lV:¬vl.ownBlock=some c:=fun e=>(h.xO hvp c e).2.1 rfl;have hT:fE (fun k=>vl.ownBlock=some k\/k=c) w (w3.setCell ⟨c,2,none⟩ (.slice a1 n1 c1)):=fE.setCell (T:=fun k=>vl.ownBlock=some k\/k=c) (vo.mono fun k _ hk=>ak hk) (p:=⟨c,2,none⟩) (ak (aj rfl)) _;have hloc':(Value.slice a1 n1 c1).ownBlock=vl.ownBlock\/(Value.slice a1 n1 c1).ownBlock=none\/∃m,(Value.slice a1 n1 c1).ownBlock=some m/\w.heap.size<=m/\m<(w3.setCell ⟨c,2,none⟩ (.slice a1 n1 c1)).heap.size:=by
  obtain hl|hl:=hloc;·exact ak hl
  ·exact aj (aj ⟨_,hl,hW.size,by simpa[World.setCell]using(hown.lt _ hl).2⟩)
 have hnc':(Value.slice a1 n1 c1).ownBlock≠some c:=fun e=>by
  obtain hl|hl|⟨m,hl,h1,_⟩:=hloc';·exact lV (by rw[<- hl];exact e)
  ·rw[hl]at e;cases e
  ·rw[hl]at e;cases e;have:=h.lt;omega
 have hne:∀j v,j≠1->(vh::vl::va::vp::(pv++ex))[j]?=some v->∀k,v.ownBlock=some k->¬(vl.ownBlock=some k\/k=c):=by
  intro j v hj hv k hk hh;obtain hh|rfl:=hh;·exact h.idx hv hvp hj k hk hh
  ·exact(h.xO hv _ hk).2.1 rfl
 have hB:=h.hB;have hc3:w3.heap[c]?=w.heap[c]?:=vo.block c h.lt lV;have hown2:(w3.setCell ⟨c,2,none⟩ (.slice a1 n1 c1)).ownsRow B 3 1 (.slice a1 n1 c1) (s.left++[x]).length (gB (s.left++[x])):=by
  have:=ownsRow_setCell_other hown (a:=⟨c,2,none⟩) hnc' (.slice a1 n1 c1);rw[aC];have e:gB (s.left++[x])=gB s.left++[eF x]:=by simp[gB]
  rw[e];exact this
 refine⟨a1,n1,c1,rfl,hc3,⟨hB,?_,iM h.vars hT ?_,h.nX,iM h.held hT (hne 0 _ (by omega) rfl),qya hown2,iM h.eY hT (hne 2 _ (by omega) rfl),iM h.eU hT (hne 3 _ (by omega) rfl),?_,?_⟩,hT.qj (by have:=h.lt;omega) ?_,hown2⟩;·rw[heap_set _ (hc3.trans h.at_)];simp
 ·intro k hk hh;have:=h.nX k hk;obtain hh|rfl:=hh;·have:=(h.xO hvp k hh).1;omega
  ·omega
 ·intro j p v vO sP;exact iM (h.each j p v vO sP) hT (hne (4+j) v (by omega) (GV sP))
 ·exact Sep.turn (A:=[vh]) (v:=vl) (v':=.slice a1 n1 c1) (R:=va::vp::(pv++ex)) h.sep hT.size (by have:=h.lt;omega) h.lt hloc'
 ·intro k hk;obtain hk|rfl:=hk;·exact(h.xO hvp k hk).1
  ·exact hB
theorem Nv:(prog.info? 3).map (fun i=>(i.zero,i.size,i.bytes))=some (some (eF 0),1,8):=by kernel_rfl
theorem St.start{a:Nat}(hv:w.ownsRow 0 101 2 vv V.length (rY V))(hn:V.length<=maxLen)(hT:fE (fun _=>False) w W)(ha:w.heap.size<=a)(hb:w.heap.size<=b)(hc:w.heap.size<=c)(hab:a≠b)(hac:a≠c)(hbc:b≠c)(h0:W.heap[a]?=some (.cells (madeCells #[eF 0] V.length) 3))(h1:W.heap[b]?=some (.cells (madeCells #[iE] 1) 241))(h2:W.heap[c]?=some (.cells #[vv,.slice (some ⟨a,0,none⟩) V.length V.length,iE,iE,.slice (some ⟨b,0,none⟩) 1 1,eF 0,.bool false,.bool false] 93)):St W w.heap.size c V ⟨List.replicate V.length 0,[],[],[[]],0,false,false⟩ vv (.slice (some ⟨a,0,none⟩) V.length V.length) (iE) (iE) (.slice (some ⟨b,0,none⟩) 1 1) [iE] []:=by
 have la:a<W.heap.size:=(aN.1 h0).1;have lb:b<W.heap.size:=(aN.1 h1).1;refine⟨hc,h2,iM hv hT (fun _ _ h=>h),fun k hk=>(hv.lt k hk).2,?_,⟨none,0,rfl,aQ _,ay _,fun h=>absurd h (by simp)⟩,aX _ _ _ _,?_,?_,?_⟩;·refine⟨by simp[gB],.inr ⟨a,V.length,madeCells #[eF 0] V.length,by simp,ha,h0,by simp,hn,by simp[madeCells],?_⟩⟩;rw[toList_madeCells_one];simp[gB]
 ·exact⟨rfl,.inr ⟨b,1,madeCells #[iE] 1,rfl,hb,h1,ay _,by unfold maxLen;omega,by simp[madeCells],by rw[toList_madeCells_one];rfl⟩⟩
 ·intro i p v hp hvv;match i,hp,hvv with| 0,hp,hvv=>simp at hp hvv;subst hp hvv;exact aX _ _ _ _| i+1,hp,hvv=>simp at hp
 refine⟨fun v hv' k hk=>?_,?_⟩
 ·simp only[bQ,bn,List.not_mem_nil,or_false]at hv';obtain rfl|rfl|rfl|rfl|rfl:=hv'
  ·have hk':a=k:=by simpa[Value.ownBlock]using hk
   subst hk';exact⟨ha,hac,la⟩
  ·cases hk
  ·cases hk
  ·have hk':b=k:=by simpa[Value.ownBlock]using hk
   subst hk';exact⟨hb,hbc,lb⟩
  cases hk
 simp[Value.ownBlock];omega
theorem JB{p:dZ}{t:TypeId}(h:W.heap[b]?=some (.cells #[p] t)):∀j u,[p][j]?=some u->W.cell? ((⟨b,0,none⟩:Addr).add j)=some u:=by intro j u hj;match j,hj with| 0,hj=>simp at hj;subst hj;simp[Addr.add,World.cell?,h]
theorem GX{h:Array Obj}{o p q:Obj}:(((h.push o).push p).push q)[h.size]?=some o/\(((h.push o).push p).push q)[h.size+1]?=some p/\(((h.push o).push p).push q)[h.size+2]?=some q:=by
 refine⟨?_,?_,?_⟩;·rw[aD,ah (by simp;omega),MU]
 ·rw[aD,ah (by simp),xJ]
 rw[aD,aA (by simp)]
theorem znu(c op:Nat)(hop:op=61\/op=35)(n:Nat)(eH:dX)(pl own:Nat)(l r:fG)(ihl:tY c l)(ihr:tY c r):tY c ⟨op,n,eH,pl,own,some l,some r⟩:=by
 intro k w ok q hx hok hl;obtain⟨hq,kb,lq,rq,hkb,hne,hv,hkc,hxl,Jv⟩:=hx;obtain⟨c0,c1,c2,c3,c4,c5,f⟩:=oD hv;have k0:w.cell? ⟨kb,0,none⟩=some (fq lq):=by simp[World.cell?,hkc]
 have hqc:=hok q hq;have Bo:=hok kb hkb;have HL:Hid (jk w c k/\(ji w l _ lq/\ji w r _ rq)/\_/\_):=⟨hl,⟨hxl,Jv⟩,hv,hkc⟩;have HK:Hid (∀i,(ok i/\i≠q/\i≠kb)->i<c):=fun i hi=>hok i hi.1;have e1:Hid (jr ⟨op,n,eH,pl,own,some l,some r⟩ k=pI op own (jr l k).1 (jr r (jr l k).2)):=rfl;generalize hr1:jr l k=ra at e1;have HR1:Hid _:=hr1;generalize hr2:jr r ra.2=rb at e1;have HR2:Hid _:=hr2;have e2:Hid (pI op own ra.1 rb=(98,if vS ra.1 rb.1 then Px.say 6 own rb.2 else rb.2)):=by unfold Hid pI;rw[aA hop]
 have e4:Hid (vS ra.1 rb.1=(((ra.1:Int) != rb.1)&&((ra.1:Int) != 63)&&((rb.1:Int) != 63))):=by unfold Hid vS;rw[bI];simp;omega
 have o1:((op:Int)==110)=false:=by rw[beq_eq_false_iff_ne];omega
 have o2:((op:Int)==116)=false:=by rw[beq_eq_false_iff_ne];omega
 have o3:((op:Int)==119)=false:=by rw[beq_eq_false_iff_ne];omega
 have o4:((op:Int)==33)=false:=by rw[beq_eq_false_iff_ne];omega
 have OR:Hid _:=hop;go_enter func75,ntmps75;go_wp2_with fail;refine(ihl k _ _ lq HL.o.2.1.1 HK.o HL.o.1).mono ?_;rw[HR1.o];rintro e w1 ⟨rfl,l1,b1⟩;have hv1:w1.heap[q]?=_:=(b1.block q hqc).trans HL.o.2.2.1;have hk1:w1.heap[kb]?=_:=(b1.block kb Bo).trans HL.o.2.2.2;have hx1:ji w1 r _ rq:=HL.o.2.1.2.keep fun i hi=>b1.block i (HK.o i hi);obtain⟨d0,d1,d2,d3,d4,d5,df⟩:=oD hv1;have Xe:w1.cell? ⟨kb,1,none⟩=some (fq rq):=by simp[World.cell?,hk1]
 have L1:Hid (jk w1 c ra.2/\Below c w w1/\ji w1 r _ rq/\_):=⟨l1,b1,hx1,hv1⟩;go_wp2_with fail;refine(ihr ra.2 _ _ rq L1.o.2.2.1 HK.o L1.o.1).mono ?_;rw[HR2.o];rintro e w2 ⟨rfl,l2,b2⟩;have hv2:w2.heap[q]?=_:=(b2.block q hqc).trans L1.o.2.2.2;obtain⟨f0,f1,f2,f3,f4,f5,ff⟩:=oD hv2;have L2:Hid (jk w2 c rb.2/\Below c w1 w2):=⟨l2,b2⟩;have ED:∀e w3,e=Ending.returned (.int .u8 98)->jk w3 c (if vS ra.1 rb.1 then Px.say 6 own rb.2 else rb.2)->Below c w2 w3->e=fM (.int .u8 ((jr ⟨op,n,eH,pl,own,some l,some r⟩ k).1:Int))/\jk w3 c (jr ⟨op,n,eH,pl,own,some l,some r⟩ k).2/\Below c w w3:=by intro e w3 he hl3 hb3;rw[e1.o,e2.o];exact⟨he,hl3,(L1.o.2.1.trans L2.o.2).trans hb3⟩
 have FIN:Hid _:=ED;cases g1:((ra.1:Int) != rb.1)
 ·obtain ho|ho:=OR.o
  ·have o5:((op:Int)==61)=true:=by rw[ho];rfl
   go_wp2_with fail;go_ret;exact FIN.o _ _ rfl (by rw[e4.o,g1];exact L2.o.1) (aF _ _)
  have o5:((op:Int)==61)=false:=by rw[ho];rfl
  have o6:((op:Int)==35)=true:=by rw[ho];rfl
  go_wp2_with fail;go_ret;exact FIN.o _ _ rfl (by rw[e4.o,g1];exact L2.o.1) (aF _ _)
 cases g2:((ra.1:Int) != 63)
 ·obtain ho|ho:=OR.o
  ·have o5:((op:Int)==61)=true:=by rw[ho];rfl
   go_wp2_with fail;go_ret;exact FIN.o _ _ rfl (by rw[e4.o,g1,g2];exact L2.o.1) (aF _ _)
  have o5:((op:Int)==61)=false:=by rw[ho];rfl
  have o6:((op:Int)==35)=true:=by rw[ho];rfl
  go_wp2_with fail;go_ret;exact FIN.o _ _ rfl (by rw[e4.o,g1,g2];exact L2.o.1) (aF _ _)
 cases g3:((rb.1:Int) != 63)
 ·obtain ho|ho:=OR.o
  ·have o5:((op:Int)==61)=true:=by rw[ho];rfl
   go_wp2_with fail;go_ret;exact FIN.o _ _ rfl (by rw[e4.o,g1,g2,g3];exact L2.o.1) (aF _ _)
  have o5:((op:Int)==61)=false:=by rw[ho];rfl
  have o6:((op:Int)==35)=true:=by rw[ho];rfl
  go_wp2_with fail;go_ret;exact FIN.o _ _ rfl (by rw[e4.o,g1,g2,g3];exact L2.o.1) (aF _ _)
 obtain ho|ho:=OR.o
 ·have o5:((op:Int)==61)=true:=by rw[ho];rfl
  go_wp2_with fail;refine(wQ c 6 own rb.2 _ L2.o.1).mono ?_;rintro e w3 ⟨rfl,l3,b3⟩;have L3:Hid (_/\_):=⟨l3,b3⟩;go_wp2_with fail;go_ret;exact FIN.o _ _ rfl (by rw[e4.o,g1,g2,g3];exact L3.o.1) L3.o.2
 have o5:((op:Int)==61)=false:=by rw[ho];rfl
 have o6:((op:Int)==35)=true:=by rw[ho];rfl
 go_wp2_with fail;refine(wQ c 6 own rb.2 _ L2.o.1).mono ?_;rintro e w3 ⟨rfl,l3,b3⟩;have L3:Hid (_/\_):=⟨l3,b3⟩;go_wp2_with fail;go_ret;exact FIN.o _ _ rfl (by rw[e4.o,g1,g2,g3];exact L3.o.1) L3.o.2
theorem znw(c op:Nat)(hop:op=42\/op=47\/op=43\/op=45\/op=60)(n:Nat)(eH:dX)(pl own:Nat)(l r:fG)(ihl:tY c l)(ihr:tY c r):tY c ⟨op,n,eH,pl,own,some l,some r⟩:=by
 intro k w ok q hx hok hl;obtain⟨hq,kb,lq,rq,hkb,hne,hv,hkc,hxl,Jv⟩:=hx;obtain⟨c0,c1,c2,c3,c4,c5,f⟩:=oD hv;have k0:w.cell? ⟨kb,0,none⟩=some (fq lq):=by simp[World.cell?,hkc]
 have hqc:=hok q hq;have Bo:=hok kb hkb;have HL:Hid (jk w c k/\(ji w l _ lq/\ji w r _ rq)/\_/\_):=⟨hl,⟨hxl,Jv⟩,hv,hkc⟩;have HK:Hid (∀i,(ok i/\i≠q/\i≠kb)->i<c):=fun i hi=>hok i hi.1;have e1:Hid (jr ⟨op,n,eH,pl,own,some l,some r⟩ k=pI op own (jr l k).1 (jr r (jr l k).2)):=rfl;generalize hr1:jr l k=ra at e1;have HR1:Hid _:=hr1;generalize hr2:jr r ra.2=rb at e1;have HR2:Hid _:=hr2;have e2:Hid (pI op own ra.1 rb=(if op=60 then 98 else 105,if jL ra.1 105&&jL rb.1 105 then rb.2 else Px.say 6 own rb.2)):=by unfold Hid pI;rw[ah (by omega)]
 have o1:((op:Int)==110)=false:=by rw[beq_eq_false_iff_ne];omega
 have o2:((op:Int)==116)=false:=by rw[beq_eq_false_iff_ne];omega
 have o3:((op:Int)==119)=false:=by rw[beq_eq_false_iff_ne];omega
 have o4:((op:Int)==33)=false:=by rw[beq_eq_false_iff_ne];omega
 have o5:((op:Int)==61)=false:=by rw[beq_eq_false_iff_ne];omega
 have o6:((op:Int)==35)=false:=by rw[beq_eq_false_iff_ne];omega
 go_enter func75,ntmps75;go_wp2_with fail;refine(ihl k _ _ lq HL.o.2.1.1 HK.o HL.o.1).mono ?_;rw[HR1.o];rintro e w1 ⟨rfl,l1,b1⟩;have hv1:w1.heap[q]?=_:=(b1.block q hqc).trans HL.o.2.2.1;have hk1:w1.heap[kb]?=_:=(b1.block kb Bo).trans HL.o.2.2.2;have hx1:ji w1 r _ rq:=HL.o.2.1.2.keep fun i hi=>b1.block i (HK.o i hi);obtain⟨d0,d1,d2,d3,d4,d5,df⟩:=oD hv1;have Xe:w1.cell? ⟨kb,1,none⟩=some (fq rq):=by simp[World.cell?,hk1]
 have L1:Hid (jk w1 c ra.2/\Below c w w1/\ji w1 r _ rq/\_):=⟨l1,b1,hx1,hv1⟩;go_wp2_with fail;refine(ihr ra.2 _ _ rq L1.o.2.2.1 HK.o L1.o.1).mono ?_;rw[HR2.o];rintro e w2 ⟨rfl,l2,b2⟩;have hv2:w2.heap[q]?=_:=(b2.block q hqc).trans L1.o.2.2.2;obtain⟨f0,f1,f2,f3,f4,f5,ff⟩:=oD hv2;have L2:Hid (jk w2 c rb.2/\Below c w1 w2/\_):=⟨l2,b2,hv2⟩;have ED:∀(e:Ending)(w3:dY)(z:Nat),e=Ending.returned (.int .u8 (z:Int))->z=(if op=60 then 98 else 105)->jk w3 c (if jL ra.1 105&&jL rb.1 105 then rb.2 else Px.say 6 own rb.2)->Below c w2 w3->e=fM (.int .u8 ((jr ⟨op,n,eH,pl,own,some l,some r⟩ k).1:Int))/\jk w3 c (jr ⟨op,n,eH,pl,own,some l,some r⟩ k).2/\Below c w w3:=by intro e w3 z he hz hl3 hb3;rw[e1.o,e2.o];subst hz;exact⟨he,hl3,(L1.o.2.1.trans L2.o.2.1).trans hb3⟩
 have FIN:Hid _:=ED;cases g1:jL ra.1 105
 ·by_cases ho:op=60
  ·have o7:((op:Int)==60)=true:=by rw[ho];rfl
   have HO:Hid _:=ho;go_wp2_with (first|(go_at_call 77;refine(qJ _ 105 _).mono ?_;rintro e w' ⟨rfl,rfl⟩))
   refine(wQ c 6 own rb.2 _ L2.o.1).mono ?_;rintro e w3 ⟨rfl,l3,b3⟩;have hv3:w3.heap[q]?=_:=(b3.block q hqc).trans L2.o.2.2;obtain⟨x0,x1,x2,x3,x4,x5,xf⟩:=oD hv3;have L3:Hid (_/\_):=⟨l3,b3⟩;go_wp2_with fail;go_ret;exact FIN.o _ _ 98 rfl (by rw[aA HO.o]) (by rw[g1];exact L3.o.1) L3.o.2
  have o7:((op:Int)==60)=false:=by rw[beq_eq_false_iff_ne];omega
  have HO:Hid _:=ho;go_wp2_with (first|(go_at_call 77;refine(qJ _ 105 _).mono ?_;rintro e w' ⟨rfl,rfl⟩))
  refine(wQ c 6 own rb.2 _ L2.o.1).mono ?_;rintro e w3 ⟨rfl,l3,b3⟩;have hv3:w3.heap[q]?=_:=(b3.block q hqc).trans L2.o.2.2;obtain⟨x0,x1,x2,x3,x4,x5,xf⟩:=oD hv3;have L3:Hid (_/\_):=⟨l3,b3⟩;go_wp2_with fail;go_ret;exact FIN.o _ _ 105 rfl (by rw[ah HO.o]) (by rw[g1];exact L3.o.1) L3.o.2
 cases g2:jL rb.1 105
 ·by_cases ho:op=60
  ·have o7:((op:Int)==60)=true:=by rw[ho];rfl
   have HO:Hid _:=ho;go_wp2_with (first|(go_at_call 77;refine(qJ _ 105 _).mono ?_;rintro e w' ⟨rfl,rfl⟩))
   refine(wQ c 6 own rb.2 _ L2.o.1).mono ?_;rintro e w3 ⟨rfl,l3,b3⟩;have hv3:w3.heap[q]?=_:=(b3.block q hqc).trans L2.o.2.2;obtain⟨x0,x1,x2,x3,x4,x5,xf⟩:=oD hv3;have L3:Hid (_/\_):=⟨l3,b3⟩;go_wp2_with fail;go_ret;exact FIN.o _ _ 98 rfl (by rw[aA HO.o]) (by rw[g1,g2];exact L3.o.1) L3.o.2
  have o7:((op:Int)==60)=false:=by rw[beq_eq_false_iff_ne];omega
  have HO:Hid _:=ho;go_wp2_with (first|(go_at_call 77;refine(qJ _ 105 _).mono ?_;rintro e w' ⟨rfl,rfl⟩))
  refine(wQ c 6 own rb.2 _ L2.o.1).mono ?_;rintro e w3 ⟨rfl,l3,b3⟩;have hv3:w3.heap[q]?=_:=(b3.block q hqc).trans L2.o.2.2;obtain⟨x0,x1,x2,x3,x4,x5,xf⟩:=oD hv3;have L3:Hid (_/\_):=⟨l3,b3⟩;go_wp2_with fail;go_ret;exact FIN.o _ _ 105 rfl (by rw[ah HO.o]) (by rw[g1,g2];exact L3.o.1) L3.o.2
 by_cases ho:op=60
 ·have o7:((op:Int)==60)=true:=by rw[ho];rfl
  have HO:Hid _:=ho;go_wp2_with (first|(go_at_call 77;refine(qJ _ 105 _).mono ?_;rintro e w' ⟨rfl,rfl⟩))
  go_ret;exact FIN.o _ _ 98 rfl (by rw[aA HO.o]) (by rw[g1,g2];exact L2.o.1) (aF _ _)
 have o7:((op:Int)==60)=false:=by rw[beq_eq_false_iff_ne];omega
 have HO:Hid _:=ho;go_wp2_with (first|(go_at_call 77;refine(qJ _ 105 _).mono ?_;rintro e w' ⟨rfl,rfl⟩))
 go_ret;exact FIN.o _ _ 105 rfl (by rw[ah HO.o]) (by rw[g1,g2];exact L2.o.1) (aF _ _)
theorem vY(c:Nat)(x:fG)(h:nU x):tY c x:=by
 match x,h with
 |⟨op,n,eH,pl,own,none,none⟩,h=>
  by_cases h1:op=119;·subst h1;exact zhq c n eH pl own
  have h':op=110\/op=116\/op=119:=h;exact zhr c op n eH pl own (by omega)
 |⟨op,n,eH,pl,own,some l,none⟩,h=>obtain⟨h1,h2⟩:=(show op=33/\nU l from h);subst h1;exact znt c n eH pl own l (vY c l h2)
 |⟨op,n,eH,pl,own,some l,some r⟩,h=>
 obtain⟨h1,h2,h3⟩:=(show(op=42\/op=47\/op=43\/op=45\/op=60\/op=61\/op=35)/\nU l/\nU r from h);by_cases h4:op=61\/op=35;·exact znu c op h4 n eH pl own l r (vY c l h2) (vY c r h3)
 exact znw c op (by omega) n eH pl own l r (vY c l h2) (vY c r h3)
variable{l:List Sm}{ok:Nat->Prop}{qs:List Nat}
theorem gF.get(h:gF w l ok qs)(k:Nat)(hk:k<l.length):∃q,qs[k]?=some q/\nM w l[k] ok q:=by
 induction l generalizing qs k with| nil=>simp at hk| cons x l ih=>
 obtain⟨q,qs',rfl,h1,h2⟩:=h.QH;cases k with| zero=>exact⟨q,rfl,h1⟩| succ k=>
 obtain⟨q',g1,g2⟩:=ih h2 k (by simpa using hk);exact⟨q',g1,g2⟩
theorem jc.cell{w:dY}{v:dZ}{qs:List Nat}{ok:Nat->Prop}(h:jc w v qs ok){k q:Nat}(hk:qs[k]?=some q):∃g cap,v=.slice (some ⟨g,0,none⟩) qs.length cap/\ok g/\w.cell? ⟨g,k,none⟩=some (fq q):=by
 obtain⟨h1,h2⟩|⟨g,cap,cur,h1,h2,h3,h4,h5,h6,h7⟩:=h;·subst h2;simp at hk
 refine⟨g,cap,h1,h2,?_⟩;have hl:k<qs.length:=(aT.1 hk).1;have e1:cur[k]?=(qs.map ptr)[k]?:=by rw[<- h7,bE hl];simp
 simp only[World.cell?,h3];rw[e1];simp[hk,ptr]
theorem jc.len(h:jc w v qs ok):∃a c,v=.slice a qs.length c/\qs.length<=maxLen:=by
 obtain⟨h1,h2⟩|⟨g,cap,cur,h1,h2,h3,h4,h5,h6,h7⟩:=h;·subst h2;exact⟨none,0,h1,by simp⟩
 exact⟨_,cap,h1,by omega⟩
def Bp(c:Nat)(x:Sm):Prop:=∀(k:gM)(w:dY)(ok:Nat->Prop)(q:Nat),nM w x ok q->(∀i,ok i->i<c)->jk w c k->xg x->jZ x.one->jZ x.two->k.vars.length+1+iJ x.one+iJ x.two<=1000000 ->
 fI 40 #[fq c,fq q] w fun e w'=>e=fM (.tuple #[])/\jk w' c (qF x k)/\Below c w w'
def Br(c:Nat)(l:List Sm):Prop:=∀(k:gM)(w:dY)(ok:Nat->Prop)(v:dZ)(qs:List Nat),jc w v qs ok->gF w l ok qs->(∀i,ok i->i<c)->jk w c k->jZ l->k.vars.length+iJ l<=1000000 ->
 fI 19 #[fq c,v] w fun e w'=>e=fM (.tuple #[])/\jk w' c (jv l k)/\Below c w w'
theorem Q7(h:jZ l)(k:Nat)(hk:k<l.length):xg l[k]/\jZ l[k].one/\jZ l[k].two:=by
 induction l generalizing k with| nil=>simp at hk| cons x l ih=>
 obtain⟨h1,h2,h3,h4⟩:=Ak.1 h;cases k with| zero=>exact⟨h1,h2,h3⟩| succ k=>exact ih h4 k (by simpa using hk)
theorem JC(c:Nat)(l:List Sm)(hx:∀i(hi:i<l.length),Bp c l[i]):Br c l:=by
 intro k w ok v qs hs hm hok hl hw hc;obtain⟨va,vc,rfl,hml⟩:=hs.len;unfold maxLen at hml;have hlen:=hm.len;have H:Hid (jc w (.slice va qs.length vc) qs ok/\gF w l ok qs/\(∀i,ok i->i<c)/\jk w c k/\jZ l):=⟨hs,hm,hok,hl,hw⟩;have HX:Hid _:=hx;have HLen:Hid _:=hlen;clear hs hm hok hl hw hx hlen;go_enter func19,ntmps19;go_wp2_with fail;go_loopw [4] (fun i wr=>∃n:Nat,n<=qs.length/\i=eF n/\Hid (Below c w wr/\∃k',jk wr c k'/\jv (l.drop n) k'=jv l k/\k'.vars.length+iJ (l.drop n)<=1000000)) (fun i _=>qs.length-(intOf i).toNat)
 case atStart=>exact⟨0,by omega,rfl,aF _ _,k,H.o.2.2.2.1,rfl,hc⟩
 case round=>
  obtain⟨n,hn,rfl,hr⟩:=hrel;obtain⟨hb,k',hk',he,hv⟩:=hr.o;clear hr;by_cases hlt:n<qs.length
  ·have hnl:n<l.length:=by have:=HLen.o;omega
   obtain⟨q,hq1,hq2⟩:=H.o.2.1.get n hnl;obtain⟨g,cap,hgv,hg,hcell⟩:=H.o.1.cell hq1;cases hgv;have hcr:wr.cell? ⟨g,n,none⟩=some (fq q):=by rw[hb.cell (p:=⟨g,n,none⟩) (H.o.2.2.1 g hg)];exact hcell
   have hq3:nM wr l[n] ok q:=hq2.keep fun i hi=>hb.block i (H.o.2.2.1 i hi);have hdrop:l.drop n=l[n]::l.drop (n+1):=bV hnl;rw[hdrop,Ma]at he;rw[hdrop,D8]at hv;have HH:Hid (Below c w wr/\jk wr c k'/\jv (l.drop (n+1)) (qF l[n] k')=jv l k/\nM wr l[n] ok q/\k'.vars.length+(1+iJ l[n].one+iJ l[n].two+iJ (l.drop (n+1)))<=1000000):=⟨hb,hk',he,hq3,hv⟩;clear hb hk' he hq3 hcell hq2 hdrop hv;go_wp2_with fail;refine(HX.o n hnl k' _ ok q HH.o.2.2.2.1 H.o.2.2.1 HH.o.2.1 (Q7 H.o.2.2.2.2 n hnl).1 (Q7 H.o.2.2.2.2 n hnl).2.1 (Q7 H.o.2.2.2.2 n hnl).2.2 ?hcnt).mono ?_;case hcnt=>have:=HH.o.2.2.2.2;omega
   rintro e w1 ⟨rfl,l1,b1⟩;have L1:Hid (_/\_):=⟨l1,b1⟩;clear l1 b1;go_wp2_with fail;refine⟨⟨n+1,by omega,by go_num,HH.o.1.trans L1.o.2,qF l[n] k',L1.o.1,HH.o.2.2.1,?_⟩,by simp[intOf];omega⟩;have hvx:=zh [l[n]] k';rw[Ma,L9,D8,Al]at hvx;have:=HH.o.2.2.2.2;omega
  have hnl:l.drop n=[]:=dh (by have:=HLen.o;omega);rw[hnl,L9]at he;have HH:Hid (Below c w wr/\jk wr c (jv l k)):=⟨hb,by rw[<- he];exact hk'⟩;clear hb hk' he hnl hv;go_wp2_with fail;go_end0
  exact⟨rfl,HH.o.2,HH.o.1⟩
