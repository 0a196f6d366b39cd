import Derived.Test.YtgkhgealpneodaaGreatDoorG41
import Derived.Test.YtgkhgealpneodaaGreatDoorG42
set_option maxRecDepth 100000
set_option maxHeartbeats 8000000
namespace Go.Proofs.YtgkhgealpneodaaGreatDoor
open Go.RowKit
namespace Gl
open Jn Lg Lw Px Ref Rn
open Gn (Ev Er Live Off nJ)
open Gj (cB kL)
theorem rK{w0:dY}{E F:Nat->Addr}{s:dX}{b:Nat}{q:Int}{z:Zs}{e:Ev}{op:Bool}{ve:dZ}{L:List Int}{n g kc:Nat}{je iT:dZ}{wr w2 w5:dY}{v' v2:dZ}{a:Int}(h:La w0 E F s b q z e op ve L n (.slice (some ⟨g,0,none⟩) 1 kc) je iT wr)(hb:gU wr w2)(hv:w2.ownsRow wr.heap.size 3 1 v' L.length (gB L))(t:fE (fun k=>v'.ownBlock=some k) w2 w5)(h2:w5.ownsRow w0.heap.size 3 1 v2 (L.length+1) (gB L++[eF a]))(hl:v2.ownBlock=v'.ownBlock\/∃k,v2.ownBlock=some k/\wr.heap.size<=k):∃a1 c1,v2=.slice a1 (L.length+1) c1/\w5.cell? ⟨g,0,none⟩=some je/\w5.frozen? ⟨g,0,none⟩=false/\g<w5.heap.size/\w5.cell? ⟨z.W,6,none⟩=some (.slice (some ⟨g,0,none⟩) 1 kc)/\Hid (La w0 E F s b q z e op ve (L++[a]) n (.slice (some ⟨g,0,none⟩) 1 kc) v2 iT (w5.setCell ⟨g,0,none⟩ v2)):=by
 have hT:gU wr w5:=Ac hb t (ay _) fun k hk=>(hv.lt k hk).1;have h5:=h.same hT;obtain⟨_,_,_,_,e1,_,k0⟩:=h5.yV;cases e1;obtain⟨cg,hg⟩:=DW h5.lh.kn (k:=g) rfl;have hsh:∃a1 c1,v2=.slice a1 (L.length+1) c1:=by
  obtain⟨_,h⟩|⟨g,cap,cur,rfl,_⟩:=h2.2;·omega
  exact⟨_,_,rfl⟩
 obtain⟨a1,c1,rfl⟩:=hsh;refine⟨a1,c1,rfl,k0,by simp[World.frozen?,hg],lt_of_block hg,(jy h5.lh.at_).2.2.2.2.2.2.1,h5.F9 (L':=L++[a]) ?_ fun k hk=>h.er.off ?_⟩;·rw[rI,aC];exact h2
 obtain e|⟨j,e,hj⟩:=hl;·exact(hv.lt k (by rw[<- e];exact hk)).1
 rw[hk]at e;cases e;exact hj
theorem yhw(w0:dY)(E F:Nat->Addr)(s:dX)(b:Nat)(q:Int)(z:Zs)(e:Ev)(a:Int)(w:dY)(hq0:0<=q)(ha:mZ a)(hC:(Gj.cont s e.L (kL e.o)).length<=10000000000)(hl:e.L.length<=100000000)(h:Ok w0 E F s b q z e w):fI 15 #[fq z.W,eF a] w (LG w0 E F s b q z e):=by
 obtain⟨jm,je,iT,h,lv⟩:=h;obtain⟨i0,hi,hz0,hz1,hz2⟩:=info_parts Nv;obtain⟨c0,c1,c2,c3,c4,c5,c6,c7,c8,c9,c10,cf,cl⟩:=jy h.lh.at_;have HX:Hid _:=Gn.U3 w0 E F s b q e w hq0 hC h.er lv a ha;have H:Hid (_/\Live e):=⟨h,lv⟩;clear h lv hC c0 c1 c2 c3 c4 c6 c7 c8 c10 c9;go_enter Tryz.func15,Tryz.ntmps15;go_wp2_with fail;refine aB HX.o ?_;rintro r w1 (⟨hA,rfl,her,hfr⟩|⟨hA,hq,rfl,her,hfr⟩|⟨hA,rfl,m,f,va,her,hlv,hfr⟩);·clear c5 cf cl HX;have H1:Hid (La w0 E F s b q z e e.asked (fq e.eb) e.L (nS e.L e.o) jm je iT w1):=⟨her,H.o.1.lh.Iy hfr⟩;obtain⟨c0,c1,c2,c3,c4,c5,c6,c7,c8,c9,c10,cf,cl⟩:=jy H1.o.lh.at_;rw[hA]at c9;clear her hfr c0 c1 c2 c3 c5 c6 c7 c8 c10;go_wp2_with fail;refine aB (wG b _ q _ H1.o.er.fs.bk) ?_;rintro r w2 ⟨rfl,rfl⟩;go_wp2_with fail;refine aB (yU 8 _) ?_;rintro r w2 ⟨rfl,rfl⟩;go_wp2_with fail;go_ret;exact⟨rfl,e,⟨_,_,_,H1.o,H.o.2⟩,Nat.le_add_right _ _⟩
 ·clear c5 cf cl HX;have H1:Hid (La w0 E F s b q z e e.asked (fq e.eb) e.L (nS e.L e.o) jm je iT w1):=⟨her,H.o.1.lh.Iy hfr⟩;obtain⟨c0,c1,c2,c3,c4,c5,c6,c7,c8,c9,c10,cf,cl⟩:=jy H1.o.lh.at_;rw[hA]at c9;clear her hfr c0 c1 c2 c5 c6 c7 c8 c10;go_wp2_with fail;refine aB (wG b _ q _ H1.o.er.fs.bk) ?_;rintro r w2 ⟨rfl,rfl⟩;go_wp2_with fail;refine aB (DZ z.W q 9 _ c3) ?_;rintro r w2 ⟨rfl,rfl⟩;rw[show(decide ((9:Int)=9)&&decide (0<q))=true by simp[hq]];go_wp2_with fail;go_ret;exact⟨rfl,e,⟨_,_,_,H1.o,H.o.2⟩,Nat.le_add_right _ _⟩
 clear c5 cf cl HX;have ho:e.o=true:=H.o.2.aw hA;generalize hE':({e with asked:=false,L:=e.L++[a],o:=false,m:=m,f:=f,va:=va}:Ev)=e' at her hlv hfr;have hE1:e'.L=e.L++[a]/\e'.o=false/\e'.asked=false/\e'.eb=e.eb:=by subst hE';exact⟨rfl,rfl,rfl,rfl⟩
 clear hE';have H1:Hid (La w0 E F s b q z e' e.asked (fq e.eb) e.L (nS e.L e.o) jm je iT w1):=⟨her,H.o.1.lh.Iy hfr⟩;have HE:Hid (_/\Live e'):=⟨hE1,hlv⟩;obtain⟨c0,c1,c2,c3,c4,c5,c6,c7,c8,c9,c10,cf,cl⟩:=jy H1.o.lh.at_;rw[hA]at c9;clear her hfr hE1 hlv H c0 c1 c2 c5 c6 c7 c8 c10;go_wp2_with fail;refine aB (wG b _ q _ H1.o.er.fs.bk) ?_;rintro r w2 ⟨rfl,rfl⟩;go_wp2_with fail;refine aB (DZ z.W q 0 _ c3) ?_;rintro r w1 ⟨rfl,rfl⟩;obtain⟨g,kc,ka,km,rfl,rfl,k0⟩:=H1.o.yV;clear c3 c4 c9 cf cl k0;go_wp2_with fail;go_loopw [7] (fun i wr=>(i=eF 0/\wr=w1)\/(i=eF 1/\Hid (∃lF,La w0 E F s b q z e' e.asked (fq e.eb) (e.L++[a]) (nS e.L e.o) (.slice (some ⟨g,0,none⟩) 1 kc) lF iT wr))) (fun i _=>1-(intOf i).toNat)
 case atStart=>exact ak ⟨rfl,rfl⟩
 case round=>
  obtain⟨rfl,rfl⟩|⟨rfl,hr⟩:=hrel
  ·obtain⟨c0,c1,c2,c3,c4,c5,c6,c7,c8,c9,c10,cf,cl⟩:=jy H1.o.lh.at_;obtain⟨_,_,_,_,e1,e2,k0⟩:=H1.o.yV;cases e1;cases e2;clear c0 c1 c2 c3 c4 c5 c7 c8 c9 c10;have HC:Hid (∀W,gU wr W->fI 27 #[.slice ka e.L.length km] W fun r w'=>∃v',r=fM v'/\gU wr w'/\gU W w'/\w'.ownsRow wr.heap.size 3 1 v' e.L.length (gB e.L)):=fun W hb=>(qm4 e.L _ W (mB (H1.o.same hb).lh.k0 (by omega))).mono fun r w'⟨v',h1,h2,h3⟩=>⟨v',h1,hb.trans (h2.mono hb.size),h2,JK h3 hb.size⟩;have HB:Hid (w0.heap.size<=wr.heap.size):=H1.o.er.be.size;have hA:∀w2:dY,∀j u,[Value.int .i64 a][j]?=some u->(w2.alloc (.cells #[eF a] 3)).cell? ((⟨w2.heap.size,0,none⟩:Addr).add j)=some u:=fun w2 j u hj=>by match j,hj with| 0,hj=>simp at hj;subst hj;simp[Addr.add]
   have HA:Hid _:=hA;have HA2:Hid (∀w2,Below (wr.alloc (.cells #[eF a] 3)).drew.heap.size (wr.alloc (.cells #[eF a] 3)).drew w2->∀j u,[Value.int .i64 a][j]?=some u->w2.cell? ((⟨wr.heap.size,0,none⟩:Addr).add j)=some u):=fun w2 hb j u hj=>by
    have h2:((⟨wr.heap.size,0,none⟩:Addr).add j).block=wr.heap.size:=by unfold Addr.add;split<;>rfl
    rw[<- hA wr j u hj];exact aH (hb.block _ (by rw[h2];show wr.heap.size<(wr.heap.push _).size;simp))
   have hgl:g<wr.heap.size:=(H1.o.lh.kn.lt g rfl).2;have rL:Hid (∀u∈[Value.int .i64 a],u.oneCell'=true):=fun u hu=>by simp at hu;subst hu;rfl
   have rN:Hid (e.L.length+1<=maxLen):=by unfold Hid maxLen;omega
   have rS:Hid ((e.L.length+1)*8<=140737488355328):=by unfold Hid;omega
   clear hA;go_wp2_with fail;go_region_law (first
    |(refine zk rfl _ _ 32 rfl w0.heap.size 3 i0 (eF 0) 1 8 Tryz.underlying32 hi hz0 hz1 hz2 rfl (bX 0) _ _ _ rfl ((JK B2.o.2.2 HB.o).alloc _) _ 1 1 _ rfl rfl (HA.o _) rL.o rN.o rS.o (by have:=B2.o.1.size;have:=HB.o;simp;omega) ?_;intro v2 w5 hown' hgrow hloc;obtain⟨x1,y1,rfl,q0,q1,q2,q3,HL⟩:=rK H1.o B2.o.1 B2.o.2.2 (((fE.refl _ _).alloc _).grown hgrow fun k hk=>ak hk) hown' (hloc.imp id fun e=>⟨_,e,by have:=B2.o.1.size;simp;omega⟩);clear hown' hgrow hloc)
    |(refine zk rfl _ _ 32 rfl w0.heap.size 3 i0 (eF 0) 1 8 Tryz.underlying32 hi hz0 hz1 hz2 rfl (bX 0) _ _ _ rfl (JK B2.o.2.2 HB.o) ⟨wr.heap.size,0,none⟩ 1 1 _ rfl rfl (HA2.o _ B2.o.2.1) rL.o rN.o rS.o (aK HB.o B2.o.1.size) ?_;intro v2 w5 hown' hgrow hloc;obtain⟨x1,y1,rfl,q0,q1,q2,q3,HL⟩:=rK H1.o B2.o.1 B2.o.2.2 ((fE.refl _ _).grown hgrow fun k hk=>ak hk) hown' (hloc.imp id fun e=>⟨_,e,B2.o.1.size⟩);clear hown' hgrow hloc)
    |(go_simp;go_wp2_with (go_at_call 27;(first|refine(HC.o _ (aF _ _).drew).mono ?_|refine(HC.o _ ((aF _ _).alloc (ay _) _).drew).mono ?_);rintro r w2 ⟨v',rfl,hb2,hb3,hr2⟩;obtain⟨xa,xn,xc,rfl⟩:=lu hr2;have B2:Hid (_/\_/\_):=⟨hb2,hb3,hr2⟩;have p6:=(jy (H1.o.same hb2).lh.at_).2.2.2.2.2.2.1;have pl:z.W<w2.heap.size:=lt_of_block (H1.o.same hb2).lh.at_;clear hb2 hb3 hr2)))
   all_goals
    go_wp2_with fail;exact⟨aj ⟨by go_num,_,HL.o⟩,by simp[intOf]⟩
  obtain⟨lF,hr1⟩:=hr.o;obtain⟨c0,c1,c2,c3,c4,c5,c6,c7,c8,c9,c10,cf,cl⟩:=jy hr1.lh.at_;have HR:Hid _:=hr1;clear hr hr1 c0 c1 c2 c3 c4 c5 c7 c8 c10 H1;go_wp2_with fail;refine aB (yU 0 _) ?_;rintro r w2 ⟨rfl,rfl⟩;go_wp2_with fail;go_ret;have sA:=HR.o.Af false;have hn:nS (e.L++[a]) false=nS e.L e.o:=by rw[ho];simp[nS]
  rw[<- hn,<- HE.o.1.1,<- HE.o.1.2.2.2]at sA;refine⟨rfl,e',⟨.slice (some ⟨g,0,none⟩) 1 kc,lF,iT,?_,HE.o.2⟩,?_⟩;·rw[HE.o.1.2.1,HE.o.1.2.2.1];exact sA
  rw[HE.o.1.1,ho];simp
theorem Ok.same{w0:dY}{E F:Nat->Addr}{s:dX}{b:Nat}{q:Int}{z:Zs}{e:Ev}{w w':dY}(h:Ok w0 E F s b q z e w)(hb:gU w w'):Ok w0 E F s b q z e w':=by obtain⟨x,y,v,h1,h2⟩:=h;exact⟨x,y,v,h1.same hb,h2⟩
theorem yhy(w0:dY)(E F:Nat->Addr)(hblk:∀l,jZ l->∀c m B,q9 c m B E l)(s:dX)(b:Nat)(q:Int)(z:Zs)(e:Ev)(k n:Int)(wd:dX)(va:Option Addr)(vl vc:Nat)(w:dY)(h5:k≠5)(h6:k≠6)(hn:mZ n)(hwd:wd.size<=maxLen)(hs:s.size<=maxLen)(hq0:0<=q)(hc:(Gj.cont s e.L (kL e.o)).length<=10000000000)(hl:e.L.length<=100000000)(h:Ok w0 E F s b q z e w):fI 5 #[fq z.W,.agg #[eF k,eF n,.string wd,.slice va vl vc]] w (LG w0 E F s b q z e):=by
 have hok:Ok w0 E F s b q z e (w.alloc (.cells #[eF k,eF n,.string wd,.slice va vl vc] 36)):=h.same ((aF _ _).alloc (ay _) _);have HN:Hid _:=yh3 w0 E F s b q z e _ hq0 (by omega) hl hok;have HT:Hid _:=yhw w0 E F s b q z e n _ hq0 hn hc hl hok;have HV:Hid _:=yhk w0 E F s b q z e wd _ hl hok;have Gb:=hok.same (w':=(w.alloc (.cells #[eF k,eF n,.string wd,.slice va vl vc] 36)).drew) (aF _ _).drew;have HO:Hid (s≠wd->_):=fun hne=>yhm w0 E F hblk s wd b q z e _ hwd hne hc (by omega) Gb;have Vh:Hid _:=Gb;have sB:Hid _:=wG b _ q (w.alloc (.cells #[eF k,eF n,.string wd,.slice va vl vc] 36)).drew Gb.choose_spec.choose_spec.choose_spec.1.er.fs.bk;have HOK:Hid _:=hok;obtain⟨jm,je,iT,ho,lv⟩:=hok;have HS:Hid _:=ygw w0 E F hblk s b q z e _ _ _ jm je iT _ hs hc (by omega) ho lv;have HF:Hid _:=wG b _ q _ ho.er.fs.bk;obtain⟨_,_,_,h1,_⟩:=h;obtain⟨c0,c1,c2,c3,c4,c5,c6,c7,c8,c9,c10,cf,cl⟩:=jy h1.lh.at_;by_cases k1:k=1;·subst k1;go_enter Tryz.func5,Tryz.ntmps5;go_wp2_with fail;refine aB HN.o ?_;rintro r w1 ⟨rfl,hQ⟩;have Q:Hid _:=hQ;go_wp2_with fail;go_ret;exact⟨rfl,Q.o⟩
 by_cases k2:k=2;·subst k2;go_enter Tryz.func5,Tryz.ntmps5;go_wp2_with fail;refine aB HT.o ?_;rintro r w1 ⟨rfl,hQ⟩;have Q:Hid _:=hQ;go_wp2_with fail;go_ret;exact⟨rfl,Q.o⟩
 by_cases k3:k=3;·subst k3;go_enter Tryz.func5,Tryz.ntmps5;go_wp2_with fail;refine aB HV.o ?_;rintro r w1 ⟨rfl,hQ⟩;have Q:Hid _:=hQ;go_wp2_with fail;go_ret;exact⟨rfl,Q.o⟩
 by_cases k4:k=4;·subst k4;go_enter Tryz.func5,Tryz.ntmps5;go_wp2_with fail;refine aB HF.o ?_;rintro r w1 ⟨rfl,rfl⟩;go_wp2_with fail;refine aB HS.o ?_;rintro r w1 ⟨rfl,e',hla,hlv,hL,ho,ha⟩;have Q:Hid (∃e',Ok w0 E F s b q z e' w1/\e'.L.length<=e.L.length+e.o.toNat):=⟨e',⟨jm,je,iT,by rw[hL,ho,ha];exact hla,hlv⟩,by rw[hL];exact Nat.le_add_right _ _⟩;go_wp2_with fail;go_ret;exact⟨rfl,Q.o⟩
 by_cases k7:k=7
 ·subst k7;cases hw:(wd.toList==s.toList)with
  |true=>
   go_enter Tryz.func5,Tryz.ntmps5;go_wp2_with fail;go_region_with (go_at_call 12;refine aB sB.o ?_;rintro r w1 ⟨rfl,rfl⟩)
   all_goals
    go_wp2_with fail;go_ret;exact⟨rfl,e,Vh.o,Nat.le_add_right _ _⟩
  |false=>
  have hne:s≠wd:=fun e=>by subst e;simp at hw
  have yA:Hid _:=HO.o hne;go_enter Tryz.func5,Tryz.ntmps5;go_wp2_with fail;go_region_with (go_at_call 12;refine aB sB.o ?_;rintro r w1 ⟨rfl,rfl⟩)
  all_goals
   go_wp2_with fail;refine aB yA.o ?_;rintro r w1 ⟨rfl,hQ⟩;have Q:Hid _:=hQ;go_wp2_with fail;go_ret;exact⟨rfl,Q.o⟩
 go_enter Tryz.func5,Tryz.ntmps5;go_wp2_with fail;go_ret;exact⟨rfl,e,HOK.o,Nat.le_add_right _ _⟩
open Tn (Gt)
def SB(N:Nat)(s:Rs):Prop:=N<=s.eY.length+s.left.length/\(s.stop=true->N<s.eY.length)
theorem ykv(N:Nat)(w:dX)(a:Int)(u:Bool)(k:Nat):∀t s,SB N s->SB N (fT w a u k t s).2:=by
 induction k with| zero=>intro t s h;rw[fT];exact h| succ k ih=>
 intro t s h;rw[fT];have hq:SB N (Px.ask ⟨w,a,t,u⟩ s).2:=by
  unfold SB at h |-;unfold Px.ask;split;·rename_i hl;simp[hl]at h |-;omega
  rename_i v r hl;simp[hl]at h |-;exact⟨by omega,fun hs=>by have:=h.2 hs;omega⟩
 generalize Px.ask ⟨w,a,t,u⟩ s=p at hq |-;obtain⟨_|v,s1⟩:=p;·exact hq
 dsimp only;split;·exact hq
 exact ih _ _ hq
theorem yku(N:Nat)(L:List (dX×Int)):∀s,SB N s->SB N (ny L s):=by
 induction L with
 |nil=>exact fun s h=>h
 |cons a L ih=>
 intro s h;rw[ny];have q:=ykv N a.1 a.2 true 3 1 s h;generalize fT a.1 a.2 true 3 1 s=p at q |-;obtain⟨_|_|_,s1⟩:=p;·exact q
 ·exact q
 exact ih _ q
theorem yky(N:Nat)(V:Vs)(eH:dX)(ex:Option fG)(gH undo:dX)(n:Nat)(s:Rs)(h:SB N s):SB N (uU V eH ex gH undo n s):=by
 unfold uU;split;·exact h
 rename_i arg _;have q:=ykv N eH arg false n 1 s h;generalize fT eH arg false n 1 s=p at q |-;obtain⟨_|_|_,s1⟩:=p<;>exact q
theorem yk0{N:Nat}{f:Rs->Rs}(h:∀s,SB N s->SB N (f s))(n:Nat):∀s,SB N s->SB N (jE f n s):=by
 induction n with
 |zero=>exact fun s h=>h
 |succ n ih=>exact fun s hs=>ih _ (h _ hs)
theorem ykz(N:Nat)(V:Vs)(x:Sm)(h1:∀s,SB N s->SB N (ig V x.one s))(h2:∀s,SB N s->SB N (ig V x.two s))(s:Rs)(h:SB N s):SB N (iQ V x s):=by
 have q1:=h1 {s with eU:=s.eU++[[]]} h;unfold iQ;dsimp only;generalize ig V x.one {s with eU:=s.eU++[[]]}=s1 at q1 |-;have q3:SB N (mM {s1 with failed:=false}):=yku N _ _ q1
 repeat' split
 all_goals first|exact h|exact yky _ _ _ _ _ _ _ s h|exact h1 _ h|exact h2 _ h|exact q1|exact q3|exact h2 _ q3|exact yk0 h1 _ _ h
theorem ykt(N:Nat)(V:Vs)(l:List Sm):∀s,SB N s->SB N (ig V l s):=by
 match l with
 |[]=>intro s h;rw[CP];exact h
 |⟨op,eH,pl,ex,gH,gG,undo,n,gZ,one,two⟩::rest=>
 intro s h;rw[Ed];refine ykt N V rest _ ?_;split;·exact ykz N V _ (ykt N V one) (ykt N V two) s h
 exact h
theorem ykw(V:Vs)(l:List Sm)(a:List Int)(h:(Px.play V l a).over=0):a.length<(Px.play V l a).eY.length:=by
 have q:=ykt a.length V l ⟨List.replicate V.length 0,a,[],[[]],0,false,false⟩ ⟨Nat.le_add_left _ _,fun h=>by cases h⟩;unfold Px.play at h |-;generalize ig V l ⟨List.replicate V.length 0,a,[],[[]],0,false,false⟩=s at q h |-;have q2:SB a.length (mM s):=yku _ _ _ q;unfold jH at h |-;dsimp only at h |-;split at h;·rename_i hb;rw[aA hb];exact And.right q (hb.resolve_left fun hn=>hn h)
 rename_i hb;rw[ah hb];split at h
 ·rename_i hf;rw[aA hf];split at h;·cases h
  rename_i hg;rw[ah hg];refine And.right q2 ?_;cases hs:(mM s).stop;·exact absurd ⟨h,hs⟩ hg
  rfl
 cases h
theorem ykx{w0:dY}{E F:Nat->Addr}{s:dX}{b:Nat}{q:Int}{e:Ev}{w:dY}(h:Er w0 E F s b q e w)(lv:Live e)(ho:e.o=true):e.L.length<4000000:=aJ (ykw _ _ _ (pM h lv ho e.l h.y.r)) (Xu h.y.r h.y.c e.L)
theorem Vi(a:Addr)(x k:Nat)(hk:0<k):a.add (x+k)=⟨(a.add x).block,(a.add x).off+k,none⟩:=by
 unfold Addr.add;rw[ah (by omega)];split;·rename_i h;rw[h,cZ]
 rw[dL]
theorem yij(E F:Nat->Addr)(hblk:∀l,jZ l->∀c m B,q9 c m B E l)(s:dX)(Q:Int)(m:Nat)(v:dZ)(w0:dY)(hsm:s.size<=maxLen)(hm:m<=1000000000000000000)(g:Gt w0 E F)(ha:Ki w0 v m):fI 3 #[.string s,eF Q,v] w0 fun e w'=>e=fM (.bool true)/\gU w0 w':=by
 have HW:Hid _:=yhj w0 E F hblk s Q hsm g;have G:Hid (_/\_):=⟨hblk,ha⟩;obtain⟨ad,cap,rfl,_⟩:=ha;go_enter Tryz.func3,Tryz.ntmps3;go_wp2_with fail;refine aB HW.o ?_;rintro r w1 ⟨W,rfl,hb,hWl,hcase⟩;obtain⟨b,q,z,e,hq0,rfl,hok,hL⟩|h5:=hcase
 ·have H1:Hid (Ok w0 E F s b q z e w1/\e.L=[]):=⟨hok,hL⟩;go_wp2_with fail;go_loopw [9] (fun i wr=>∃j:Nat,j<=m/\i=eF j/\Hid (∃e,Ok w0 E F s b q z e wr/\e.L.length<=4000000)) (fun i _=>m-(intOf i).toNat)
  case atStart=>exact⟨0,aQ _,rfl,e,H1.o.1,by rw[H1.o.2];exact aQ _⟩
  case round=>
   obtain⟨j,hj,rfl,hr⟩:=hrel;obtain⟨e,hok,hL⟩:=hr.o;have hok':=hok;obtain⟨_,_,_,hla,hlv⟩:=hok';obtain⟨c0,c1,c2,c3,c4,c5,c6,c7,c8,c9,c10,cf,cl⟩:=jy hla.lh.at_;have HB:Hid (gU w0 wr):=hla.er.be;by_cases hlt:j<m
   ·have hlt':(j:Int)<(m:Int):=by omega
    obtain⟨ad',cap',e',hcell⟩:=G.o.2;cases e';obtain⟨a,k,n,wd,va,vl,vc,rfl,hab,k0,k1,k2,k3,hn,hwd⟩:=hcell j hlt;have hkeep:∀i,wr.cell? (a.add i)=w0.cell? (a.add i):=fun i=>aH (HB.o.block _ (by rw[show(a.add i).block=a.block by unfold Addr.add;split<;>rfl];exact hab));have k0':=(hkeep _).trans k0;have k1':=(hkeep _).trans k1;have k2':=(hkeep _).trans k2;have k3':=(hkeep _).trans k3;rw[Vi a _ 1 (by decide)]at k1';rw[Vi a _ 2 (by decide)]at k2';rw[Vi a _ 3 (by decide)]at k3';have hs3:s.size<=300:=Tn.U4 hla.er.y.r;have hcl:=yjc s e.L e.o hs3 hlv.hL;have HS:Hid (k≠5->k≠6->_):=fun h5 h6=>yhy w0 E F G.o.1 s b q z e k n wd va vl vc wr h5 h6 hn hwd hsm hq0 (by omega) (by omega) hok;have HK:Hid (Ok w0 E F s b q z e wr/\e.L.length<=4000000):=⟨hok,hL⟩;have HT:Hid (e.L.length+e.o.toNat<=4000000):=by
     unfold Hid;cases ho:e.o;·exact hL
     exact ykx hla.er hlv ho
    by_cases h5:k=5;·subst h5;go_wp2_with fail;exact⟨⟨j+1,by omega,by go_num,e,HK.o.1,HK.o.2⟩,by simp[intOf];omega⟩
    by_cases h6:k=6;·subst h6;go_wp2_with fail;exact⟨⟨j+1,by omega,by go_num,e,HK.o.1,HK.o.2⟩,by simp[intOf];omega⟩
    have HS2:Hid _:=HS.o h5 h6;have q5:(k==5)=false:=by rw[beq_eq_false_iff_ne];exact h5
    have q6:(k==6)=false:=by rw[beq_eq_false_iff_ne];exact h6
    have r5:decide (k=5)=false:=decide_eq_false h5;have r6:decide (k=6)=false:=decide_eq_false h6;go_wp2_with fail;refine aB HS2.o ?_;rintro r w2 ⟨rfl,e2,hok2,hL2⟩;have H2:Hid (_/\_):=⟨hok2,hL2⟩;go_wp2_with fail;exact⟨⟨j+1,by omega,by go_num,e2,H2.o.1,aK H2.o.2 HT.o⟩,by simp[intOf];omega⟩
   obtain rfl:j=m:=by omega
   have hne:¬((j:Int)<(j:Int)):=by omega
   go_wp2_with fail;go_ret;exact⟨rfl,HB.o⟩
 have HB:Hid _:=hb;go_wp2_with fail;go_loopw [9] (fun i wr=>i=eF 0/\wr=w1) (fun _ _=>0)
 case atStart=>exact⟨rfl,rfl⟩
 case round=>
  obtain⟨rfl,rfl⟩:=hrel;by_cases hlt:0<m
  ·have hlt':(0:Int)<(m:Int):=by omega
   go_wp2_with fail;go_ret;exact⟨rfl,HB.o⟩
  obtain rfl:m=0:=by omega
  go_wp2_with fail;go_ret;exact⟨rfl,HB.o⟩
