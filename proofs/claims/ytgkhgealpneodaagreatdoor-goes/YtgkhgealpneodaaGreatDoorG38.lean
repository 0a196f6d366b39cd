import Derived.Test.YtgkhgealpneodaaGreatDoorG37
import Derived.Test.YtgkhgealpneodaaGreatDoorG26
import Derived.Test.YtgkhgealpneodaaGreatDoorG32
import Derived.Lib.SmallJoins
import Derived.Test.YtgkhgealpneodaaGreatDoorG36
set_option maxRecDepth 100000
set_option maxHeartbeats 4000000
namespace Go.Proofs.YtgkhgealpneodaaGreatDoor
open Go.RowKit
namespace Jn
theorem Ac{n:Nat}{T:Nat->Prop}{w w1 w2:dY}(h:Below n w w1)(t:fE T w1 w2)(hn:n<=w.heap.size)(hT:∀k,T k->n<=k):Below n w w2:=⟨t.os.trans h.os,t.tape.trans h.tape,t.output.trans h.output,aK h.size t.size,fun k hk=>(t.block k (aJ hk (aK hn h.size)) fun e=>absurd (hT k e) (by omega)).trans (h.block k hk)⟩
theorem Iu{w:dY}{n:Nat}{t:TypeId}{a b c d:dZ}(h:w.heap[n]?=some (.cells #[a,b,c,d] t))(p q r s:dZ):((((w.setCell ⟨n,0,none⟩ p).setCell ⟨n,1,none⟩ q).setCell ⟨n,2,none⟩ r).setCell ⟨n,3,none⟩ s).heap[n]?=some (.cells #[p,q,r,s] t) /\
  fE (·=n) w ((((w.setCell ⟨n,0,none⟩ p).setCell ⟨n,1,none⟩ q).setCell ⟨n,2,none⟩ r).setCell ⟨n,3,none⟩ s):=by
 have h1:(w.setCell ⟨n,0,none⟩ p).heap[n]?=some (.cells #[p,b,c,d] t):=by rw[Ref.heap_set _ h]<;>rfl
 have h2:((w.setCell ⟨n,0,none⟩ p).setCell ⟨n,1,none⟩ q).heap[n]?=some (.cells #[p,q,c,d] t):=by rw[Ref.heap_set _ h1]<;>rfl
 have h3:(((w.setCell ⟨n,0,none⟩ p).setCell ⟨n,1,none⟩ q).setCell ⟨n,2,none⟩ r).heap[n]?=some (.cells #[p,q,r,d] t):=by rw[Ref.heap_set _ h2]<;>rfl
 exact⟨by rw[Ref.heap_set _ h3]<;>rfl,((((fE.refl (·=n) w).setCell (p:=⟨n,0,none⟩) (ak rfl) _).setCell (p:=⟨n,1,none⟩) (ak rfl) _).setCell (p:=⟨n,2,none⟩) (ak rfl) _).setCell (p:=⟨n,3,none⟩) (ak rfl) _⟩
theorem Ad{w:dY}{n:Nat}{a b c d:dZ}{t:TypeId}(h:w.heap[n]?=some (.cells #[a,b,c,d] t)):w.cell? ⟨n,0,none⟩=some a/\w.cell? ⟨n,1,none⟩=some b/\w.cell? ⟨n,2,none⟩=some c/\w.cell? ⟨n,3,none⟩=some d/\∀o,w.frozen? ⟨n,o,none⟩=false:=by refine⟨?_,?_,?_,?_,?_⟩<;>simp[World.cell?,World.frozen?,h]
end Jn
namespace Tn
open Jn Lg Px
theorem Lp:Tryz.prog.globalNamed "internal/strconv.uint64pow10" = some 17:=by kernel_rfl
structure Gt(w:dY)(E F:Nat->Addr):Prop where
 l:Gw w E
 t:Je w E
 v1:w.cell? ⟨11,0,none⟩=some (.iface 393 (.pointer (some (F 1))))
 v2:w.cell? ⟨13,0,none⟩=some (.iface 393 (.pointer (some (F 2))))
 v3:w.cell? ⟨14,0,none⟩=some (.iface 393 (.pointer (some (F 3))))
 v4:w.cell? ⟨12,0,none⟩=some (.iface 393 (.pointer (some (F 4))))
 b:∀i,1<=i->i<=4->∃c t,w.heap[(F i).block]?=some (.cells c t (0,0))
 ne:∀i j,1<=i->i<=4->1<=j->j<=4->i≠j->F i≠F j
 k:Mk.Gk w w.heap.size
 tab:Lib.TabIs Tryz.prog w "internal/strconv.uint64pow10" .u64 Lib.pow10Tab
theorem Gt.below{w w':dY}{E F:Nat->Addr}(h:Gt w E F)(k:gU w w'):Gt w' E F:=by
 have hv:∀{g:Nat}{v:dZ},w.cell? ⟨g,0,none⟩=some v->w'.cell? ⟨g,0,none⟩=some v:=fun{g v}hc=>by rw[k.cell (p:=⟨g,0,none⟩) (lt_of_cell hc)];exact hc
 have g:=h.k.below k;refine⟨h.l.below k,h.t.below k,hv h.v1,hv h.v2,hv h.v3,hv h.v4,fun i h1 h2=>?_,h.ne,⟨g.tab,aK g.lo k.size⟩,Joins.tab_stays Lp h.tab k (ay _)⟩;obtain⟨c,t,hb⟩:=h.b i h1 h2;exact⟨c,t,(k.block _ (lt_of_block hb)).trans hb⟩
structure Fit(P:Pg):Prop where
 ok:∀i∈P.ins,qX i
 li:P.ins.length<=10000000
 lw:P.gT.length<=10000000
 nv:P.nv<=10000000
theorem F7{s:dX}{l:List Sm}(h:Px.read s=.ok l):Fit (iU l):=by
 obtain⟨hg,hl⟩:=qxp h;have hw:=Od l [];have hv:=Oe l [];simp only[aV,cZ]at hw hv;have iw:∀w,fF (kI l []) w<65536:=fun w=>by have:=Y7 (kI l []) w;omega
 have iv:∀w,fF (jw l []) w<65536:=fun w=>by have:=Y7 (jw l []) w;omega
 have hi:=zH (fF (kI l [])) (fF (jw l [])) l 0;refine⟨Oh iw iv l hg 0 (by omega),?_,?_,?_⟩;·show(gL _ _ l 0).length<=_;omega
 ·show(kI l []).length<=_;omega
 show(jw l []).length<=_;omega
theorem UZ(eb g:Nat)(w:dY)(h:w.cell? ⟨eb,0,none⟩=some (fq g)):fI 57 #[fq eb] w fun e w'=>e=fM (.bool true)/\w'=w:=by go_enter Tryz.func57,Tryz.ntmps57;go_wp2_with fail;go_ret;exact⟨rfl,rfl⟩
theorem yfu(g n:Nat)(w:dY)(h:w.cell? ⟨g,89,none⟩=some (eF (n:Int))):fI 58 #[fq g] w fun e w'=>e=fM (eF (n:Int))/\w'=w:=by go_enter Tryz.func58,Tryz.ntmps58;go_wp2_with fail;go_ret;exact⟨rfl,rfl⟩
end Tn
namespace Gj
open Cd Fi Gf Jn Rn
open Gf (F0 F1 mq jN)
open Jn (jJ)
theorem F1.other{w:dY}{B b:Nat}{q:Int}{v:dZ}{fb k:Nat}{C:dX}{c:Array dZ}{t:TypeId}{fr:Nat×Nat}(h:F1 w B b q v fb C)(hk:w.heap[k]?=some (.cells c t fr))(h1:t≠53)(h2:t≠161)(h3:t≠159):k≠b/\k≠fb/\v.ownBlock≠some k:=by
 obtain⟨n,hn⟩:=h.bk;obtain⟨x,hx⟩:=h.fl;refine⟨?_,?_,uR h.row hk h3⟩;·rintro rfl;rw[hn]at hk;cases hk;exact h1 rfl
 rintro rfl;rw[hx]at hk;cases hk;exact h2 rfl
theorem F1.away{w w':dY}{B b:Nat}{q:Int}{v:dZ}{fb:Nat}{C:dX}{T:Nat->Prop}(h:F1 w B b q v fb C)(t:fE T w w')(hT:∀k,T k->k≠b/\k≠fb/\v.ownBlock≠some k):F1 w' B b q v fb C:=by obtain⟨n,hn⟩:=h.bk;obtain⟨x,hx⟩:=h.fl;exact⟨⟨n,(t.block b (lt_of_block hn) fun e=>(hT _ e).1 rfl).trans hn⟩,iM h.row t (fun k hk e=>(hT _ e).2.2 hk),⟨x,(t.block fb (lt_of_block hx) fun e=>(hT _ e).2.1 rfl).trans hx⟩,h.lo⟩
theorem mN(B b jl:Nat)(q:Int)(v:dZ)(fb:Nat)(C:dX)(vs:dZ)(wd:dX)(ar tr:Int)(un:Bool)(w:dY)(h:F1 w B b q v fb C)(hb:w.heap[jl]?=some (jJ b (C.size:Int) vs wd ar tr un)):fI 137 #[fq jl] w fun e w'=>e=fM (.tuple #[.string C,.nilIface])/\gU w w':=by
 have HR:Hid _:=cX B b q v fb C w h;have G:Hid (w.heap[jl]?=some (jJ b (C.size:Int) vs wd ar tr un)):=hb;obtain⟨c0,c1,c2,c3,c4,c5,c6,cf,cl⟩:=AV hb;go_enter Tryz.func137,Tryz.ntmps137;go_wp2_with fail;refine aB HR.o ?_;rintro e w1 ⟨rfl,hb1⟩;obtain⟨d0,d1,_⟩:=AV ((hb1.block jl cl).trans G.o);have B1:Hid _:=hb1;go_wp2_with fail;all_goals (try go_region)
 all_goals (try go_wp2_with fail)
 all_goals
  go_ret2;first
   |exact⟨rfl,B1.o⟩
   |exact⟨rfl,B1.o.drew⟩
   |exact⟨rfl,B1.o.drew.drew⟩
def Ph(B b jl:Nat)(q:Int)(v:dZ)(fb:Nat)(C d:dX)(vs:dZ)(wd:dX)(ar tr:Int)(un:Bool)(w:dY)(e:Ending)(w':dY):Prop:=e=fM (.bool (mq q C.size d.size))/\(∃C',C'=(if mq q C.size d.size then C++d else C)/\F1 w' B b q v fb C'/\w'.heap[jl]?=some (jJ b (C'.size:Int) vs wd ar tr un))/\fE (fun k=>k=jl\/k=b\/k=fb) w w'
theorem mS(B b jl:Nat)(q:Int)(v:dZ)(fb:Nat)(C d:dX)(vs:dZ)(wd:dX)(ar tr:Int)(un:Bool)(w:dY)(hC:C.size+d.size<=1000000000000)(hq0:0<=q)(h:F1 w B b q v fb C)(hb:w.heap[jl]?=some (jJ b (C.size:Int) vs wd ar tr un)):fI 139 #[fq jl,.string d] w (Ph B b jl q v fb C d vs wd ar tr un w):=by
 have HW:Hid _:=eE B b q v fb C d w hC hq0 h;obtain⟨o1,o2,o3⟩:=F1.other h hb (by decide) (by decide) (by decide);have G:Hid (w.heap[jl]?=some (jJ b (C.size:Int) vs wd ar tr un)):=hb;obtain⟨c0,c1,c2,c3,c4,c5,c6,cf,cl⟩:=AV hb;go_enter Tryz.func139,Tryz.ntmps139;go_wp2_with fail;refine aB HW.o ?_;rintro e w1 ⟨rfl,f1,t1⟩;have hb1:=(t1.block jl cl (fun h=>h.elim o1 o2)).trans G.o;obtain⟨d0,d1,d2,d3,d4,d5,d6,df,dl⟩:=AV hb1;cases hok:mq q C.size d.size with| false=>rw[hok,ah (by decide)]at f1;have H1:Hid (Ph B b jl q v fb C d vs wd ar tr un w (fM (.bool false)) w1):=⟨by rw[hok],⟨C,by rw[hok,ah (by decide)],f1,hb1⟩,t1.mono fun k _ hk=>aj hk⟩;go_wp2_with fail;go_ret;exact H1.o| true=>
 rw[hok,aA rfl]at f1;have hsz:wrap64 ((C.size:Int)+(d.size:Int))=((C++d).size:Int):=by rw[ByteArray.size_append];unfold wrap64;omega
 have hsz2:IntKind.i64.wrap ((C.size:Int)+(d.size:Int))=((C++d).size:Int):=by rw[ByteArray.size_append,IntKind.wrap_i64];omega
 have HE:Hid (Ph B b jl q v fb C d vs wd ar tr un w (fM (.bool true)) (w1.setCell ⟨jl,1,none⟩ (eF ((C++d).size:Int)))):=by have ht:fE (·=jl) w1 (w1.setCell ⟨jl,1,none⟩ (eF ((C++d).size:Int))):=(fE.refl (·=jl) w1).setCell (p:=⟨jl,1,none⟩) (ak rfl) _;exact⟨by rw[hok],⟨C++d,by rw[hok,aA rfl],F1.away f1 ht fun k hk=>by rw[hk];exact⟨o1,o2,(F1.other f1 hb1 (by decide) (by decide) (by decide)).2.2⟩,by rw[Ref.heap_set _ hb1]<;>rfl⟩,(t1.mono fun k _ hk=>aj hk).trans (ht.mono fun k _ hk=>ak hk)⟩
 have HD:Hid (∀W,(W=w1.setCell ⟨jl,1,none⟩ (eF ((C++d).size:Int))\/W=(w1.setCell ⟨jl,1,none⟩ (eF ((C++d).size:Int))).drew)->Ph B b jl q v fb C d vs wd ar tr un w (fM (.bool true)) W):=by
  rintro W (rfl|rfl);·exact HE.o
  obtain⟨x1,⟨C',x2,x3,x4⟩,x5⟩:=HE.o;exact⟨x1,⟨C',x2,x3.below (aF _ _).drew,x4⟩,x5.drew⟩
 generalize ((C++d).size:Int)=Z at *;go_wp2_with fail;all_goals (try go_region)
 all_goals (try go_wp2_with fail)
 all_goals
  go_ret;exact HD.o _ (by first|exact ak rfl|exact aj rfl)
def kL(o:Bool):List UInt8:=if o then[63]else[]
theorem mT(o:Bool):(10:UInt8)∉kL o:=by cases o<;>decide
theorem yjd(s:dX)(L:List Int):∃X,cont s L []=X++[10]:=by
 obtain rfl|⟨M,a,rfl⟩:=List.eq_nil_or_concat L;·exact⟨hl s.data.toList,by rw[hZ,OX]⟩
 refine⟨hd s.data.toList++(body M++63::33::Lib.itoa a),?_⟩;simp[cont,body,ln]
theorem Lr(s:dX)(L:List Int):cont s L [63]=cont s L []++[63]:=by simp[cont]
theorem Pj(a b:List UInt8):(⟨a.toArray⟩:dX)++⟨b.toArray⟩=⟨(a++b).toArray⟩:=by apply ByteArray.ext;simp
theorem ykb(s:dX)(L:List Int)(o:Bool):∃X,cB s L (kL o)=⟨(X++[if o then 63 else 10]).toArray⟩/\(X++[if o then 63 else 10]).length=(cont s L (kL o)).length:=by
 cases o with
 |false=>obtain⟨X,hX⟩:=yjd s L;refine⟨X,?_,by show(X++[10]).length=(cont s L []).length;rw[hX]⟩;show(⟨(cont s L []).toArray⟩:dX)=_;rw[hX];all_goals rfl
 |true=>
 refine⟨cont s L [],?_,by show _=(cont s L [63]).length;rw[Lr]<;>rfl⟩;show(⟨(cont s L [63]).toArray⟩:dX)=_;rw[Lr];all_goals rfl
theorem ykm(s:dX)(L:List Int):cB s L (kL false)++⟨#[63]⟩=cB s L (kL true):=by show(⟨(cont s L []).toArray⟩:dX)++⟨([63]:List UInt8).toArray⟩=⟨(cont s L [63]).toArray⟩;rw[Pj,Lr]
structure JS(B b jl:Nat)(q:Int)(v:dZ)(fb:Nat)(s:dX)(L:List Int)(o:Bool)(vs:dZ)(wd:dX)(ar tr:Int)(un:Bool)(w:dY):Prop where
 f:F1 w B b q v fb (cB s L (kL o))
 j:w.heap[jl]?=some (jJ b ((cB s L (kL o)).size:Int) vs wd ar tr un)
theorem JS.below{B b jl:Nat}{q:Int}{v:dZ}{fb:Nat}{s:dX}{L:List Int}{o:Bool}{vs:dZ}{wd:dX}{ar tr:Int}{un:Bool}{w w':dY}(h:JS B b jl q v fb s L o vs wd ar tr un w)(hb:gU w w'):JS B b jl q v fb s L o vs wd ar tr un w':=⟨h.f.below hb,(hb.block jl (lt_of_block h.j)).trans h.j⟩
theorem JS.new{B b jl n:Nat}{q:Int}{v:dZ}{fb:Nat}{s:dX}{L:List Int}{o:Bool}{vs:dZ}{wd:dX}{ar tr:Int}{un:Bool}{w w':dY}(h:JS B b jl q v fb s L o vs wd ar tr un w)(t:fE (·=n) w w')(hn:n≠jl)(h1:n≠b/\n≠fb/\v.ownBlock≠some n):JS B b jl q v fb s L o vs wd ar tr un w':=⟨F1.away h.f t fun k hk=>by rw[hk];exact h1,(t.block jl (lt_of_block h.j) fun e=>hn e.symm).trans h.j⟩
def Ls(E:Nat->Addr)(B b jl:Nat)(q:Int)(v:dZ)(fb:Nat)(s:dX)(L:List Int)(o:Bool)(vs:dZ)(wd:dX)(ar tr:Int)(un:Bool)(w:dY)(e:Ending)(w':dY):Prop:=
 fE (fun k=>k=jl\/k=b\/k=fb) w w' /\
 ((e=fM (.tuple #[.agg #[.string wd,eF ar,eF tr,.bool un],.bool o,.nilIface])/\JS B b jl q v fb s L true vs wd ar tr un w') \/
  (o=false/\0<q/\∃f,e=fM (.tuple #[.agg #[.string ⟨#[]⟩,eF 0,eF 0,.bool false],.bool false,.iface 120 (fq f)])/\Jn.FJ w' f (.iface 393 (.pointer (some (E 8))))/\JS B b jl q v fb s L false vs wd ar tr un w'))
theorem ykn(E:Nat->Addr)(B b jl:Nat)(q:Int)(v:dZ)(fb:Nat)(s:dX)(L:List Int)(o:Bool)(vs:dZ)(wd:dX)(ar tr:Int)(un:Bool)(w:dY)(hq0:0<=q)(hG:21<=B)(hj:B<=jl)(hC:(cont s L (kL o)).length<=100000000000)(h:JS B b jl q v fb s L o vs wd ar tr un w)(g:Lg.q8 w E):fI 59 #[fq jl] w (Ls E B b jl q v fb s L o vs wd ar tr un w):=by
 have hb0:gU w (w.alloc (.cells #[.string ⟨#[]⟩,eF 0,eF 0,.bool false] 130)):=(aF _ _).alloc (ay _) _;have HS:Hid _:=mN B b jl q v fb (cB s L (kL o)) vs wd ar tr un _ (h.f.below hb0) ((hb0.block jl (lt_of_block h.j)).trans h.j);obtain⟨X,hX,hXl⟩:=ykb s L o;have HX:Hid (∀w1,fI 138 #[.string (cB s L (kL o)),.string ⟨#[10]⟩] w1 fun e w'=>e=fM (.bool ((if o then(63:UInt8)else 10)==10))/\gU w1 w'):=fun w1=>by rw[hX];exact yjq X (if o then 63 else 10) w1 (by rw[hXl];unfold maxLen;omega)
 have hcz:(cB s L (kL o)).size=(cont s L (kL o)).length:=tL _;have HA:Hid (∀w1,gU w w1->_):=fun w1 hb1=>mS B b jl q v fb (cB s L (kL o)) ⟨#[63]⟩ vs wd ar tr un w1 (by show _+1<=_;omega) hq0 (h.f.below hb1) ((hb1.block jl (lt_of_block h.j)).trans h.j);have G:Hid (JS B b jl q v fb s L o vs wd ar tr un w/\Lg.q8 w E):=⟨h,g⟩;have cl:=lt_of_block h.j;have Pk:Hid (b<w.heap.size/\fb<w.heap.size/\(∀k,v.ownBlock=some k->k<w.heap.size)/\B<=b/\B<=fb):=by obtain⟨n,hn⟩:=h.f.bk;obtain⟨x,hx⟩:=h.f.fl;exact⟨lt_of_block hn,lt_of_block hx,fun k hk=>(h.f.row.lt k hk).2,h.f.lo⟩
 have HN:Hid ((w.alloc (.cells #[.string ⟨#[]⟩,eF 0,eF 0,.bool false] 130)).heap[w.heap.size]?=some (.cells #[.string ⟨#[]⟩,eF 0,eF 0,.bool false] 130)):=uQ;have hz0:w.heap.size<(w.alloc (.cells #[.string ⟨#[]⟩,eF 0,eF 0,.bool false] 130)).heap.size:=lt_of_block HN.o;have B0:Hid _:=hb0;have NW:Hid (w.heap.size≠jl/\w.heap.size≠b/\w.heap.size≠fb/\v.ownBlock≠some w.heap.size):=by obtain⟨l1,l2,l3,_⟩:=Pk.o;exact⟨by omega,by omega,by omega,fun e=>absurd (l3 _ e) (by omega)⟩
 generalize hS:cB s L (kL o)=S at HS HX HA;go_enter Tryz.func59,Tryz.ntmps59;go_wp2_with fail;generalize w.alloc (.cells #[.string ⟨#[]⟩,eF 0,eF 0,.bool false] 130)=W at *;refine aB HS.o ?_;rintro e w1 ⟨rfl,hb1⟩;have B1:Hid _:=B0.o.trans (hb1.mono B0.o.size);have N1:Hid _:=(hb1.block _ hz0).trans HN.o;go_wp2_with fail;refine aB (HX.o _) ?_;rintro e w2 ⟨rfl,hb2⟩;have B2:Hid (gU w w2):=B1.o.trans (hb2.mono B1.o.size);have N2:Hid _:=(hb2.block _ (lt_of_block N1.o)).trans N1.o;cases o with
 |true=>
  obtain⟨c0,c1,c2,c3,c4,c5,c6,cf,cl3⟩:=AV ((B2.o.block jl cl).trans G.o.1.j);obtain⟨r0,r2,r3,r4,rf⟩:=Ad N2.o;have HQ:Hid _:=Iu N2.o (.string wd) (eF ar) (eF tr) (.bool un);have hd0:((if true=true then(63:UInt8)else 10)==10)=false:=by decide
  rw[hd0];go_wp2_with fail;all_goals (try go_region)
  all_goals (try go_wp2_with fail)
  all_goals
   obtain⟨q1,q2⟩:=HQ.o;obtain⟨m0,m1,m2,m3,_⟩:=Ad q1;have QE:Hid _:=q2;generalize (((w2.setCell ⟨w.heap.size,0,none⟩ (.string wd)).setCell ⟨w.heap.size,1,none⟩ (eF ar)).setCell ⟨w.heap.size,2,none⟩ (eF tr)).setCell ⟨w.heap.size,3,none⟩ (.bool un)=W4 at *;refine bodyPost_ret (v:=.tuple #[.agg #[.string wd,eF ar,eF tr,.bool un],.bool true,.nilIface]) (by simp[results,Tryz.results59,go_sem,m0,m1,m2,m3]) rfl ?_;exact⟨fE.new (((fE.refl (fun _=>False) w).below B2.o).mono fun _ _ h=>h.elim) QE.o (fun k hk e=>absurd hk (by omega)),ak ⟨rfl,(G.o.1.below B2.o).new QE.o NW.o.1 NW.o.2⟩⟩
 |false=>
 have hd0:((if false=true then(63:UInt8)else 10)==10)=true:=by decide
 rw[hd0];go_wp2_with fail;refine aB (HA.o w2 B2.o) ?_;rintro e w3 ⟨rfl,⟨C',hC',f3,j3⟩,t3⟩;have n3:w3.heap[w.heap.size]?=_:=(t3.block _ (lt_of_block N2.o) (by
  obtain⟨n1,n2,n3,_⟩:=NW.o;rintro(h|h|h);·exact n1 h
  ·exact n2 h
  ·exact n3 h)).trans N2.o
 have T3:Hid (fE (fun k=>k=jl\/k=b\/k=fb) w w3):=(((fE.refl (fun _=>False) w).below B2.o).mono fun _ _ h=>h.elim).trans t3;obtain⟨c0,c1,c2,c3,c4,c5,c6,cf,cl3⟩:=AV j3;obtain⟨r0,r2,r3,r4,rf⟩:=Ad n3;cases hok:mq q S.size (⟨#[63]⟩:dX).size with
 |true=>
  rw[hok,aA rfl,<- hS,ykm]at hC';have HJ:Hid (JS B b jl q v fb s L true vs wd ar tr un w3):=⟨by rw[hC']at f3;exact f3,by rw[hC']at j3;exact j3⟩;have HQ:Hid _:=Iu n3 (.string wd) (eF ar) (eF tr) (.bool un);go_wp2_with fail;all_goals (try go_region)
  all_goals (try go_wp2_with fail)
  all_goals
   obtain⟨q1,q2⟩:=HQ.o;obtain⟨m0,m1,m2,m3,_⟩:=Ad q1;have QE:Hid _:=q2;generalize (((w3.setCell ⟨w.heap.size,0,none⟩ (.string wd)).setCell ⟨w.heap.size,1,none⟩ (eF ar)).setCell ⟨w.heap.size,2,none⟩ (eF tr)).setCell ⟨w.heap.size,3,none⟩ (.bool un)=W4 at *;refine bodyPost_ret (v:=.tuple #[.agg #[.string wd,eF ar,eF tr,.bool un],.bool false,.nilIface]) (by simp[results,Tryz.results59,go_sem,m0,m1,m2,m3]) rfl ?_;exact⟨fE.new T3.o QE.o (fun k hk e=>absurd hk (by omega)),ak ⟨rfl,HJ.o.new QE.o NW.o.1 NW.o.2⟩⟩
 |false=>
 rw[hok,ah (by decide),<- hS]at hC';have hq:0<q:=by unfold mq at hok;simp at hok;exact hok.1
 have HJ:Hid (JS B b jl q v fb s L false vs wd ar tr un w3):=⟨by rw[hC']at f3;exact f3,by rw[hC']at j3;exact j3⟩;have c8:w3.cell? ⟨1,0,none⟩=some (.iface 393 (.pointer (some (E 8)))):=by
  have h8:=G.o.2.v8;obtain⟨_,_,_,l4,l5⟩:=Pk.o;refine(aH (w:=w) (a:=⟨1,0,none⟩) (T3.o.block _ (lt_of_cell h8) fun h=>?_)).trans h8;obtain h|h|h:=h;·have h':1=jl:=h;omega
  ·have h':1=b:=h;omega
  have h':1=fb:=h;omega
 have HQ:Hid _:=Iu n3 (.string ⟨#[]⟩) (eF 0) (eF 0) (.bool false);have hl3:w.heap.size<w3.heap.size:=lt_of_block n3;go_wp2_with fail;all_goals (try go_region)
 all_goals (try go_wp2_with fail)
 all_goals
  obtain⟨q1,q2⟩:=HQ.o;have hz4:((((w3.setCell ⟨w.heap.size,0,none⟩ (.string ⟨#[]⟩)).setCell ⟨w.heap.size,1,none⟩ (eF 0)).setCell ⟨w.heap.size,2,none⟩ (eF 0)).setCell ⟨w.heap.size,3,none⟩ (.bool false)).heap.size=w3.heap.size:=by simp[World.setCell]
  generalize (((w3.setCell ⟨w.heap.size,0,none⟩ (.string ⟨#[]⟩)).setCell ⟨w.heap.size,1,none⟩ (eF 0)).setCell ⟨w.heap.size,2,none⟩ (eF 0)).setCell ⟨w.heap.size,3,none⟩ (.bool false)=W4 at *;have b5:=((aF W4.heap.size W4).alloc (ay _) (.cells #[.string ⟨#[116,104,97,116,32,105,116,32,119,97,115,32,97,115,107,101,100]⟩,.iface 393 (.pointer (some (E 8)))] 122)).drew;have n5:(W4.alloc (.cells #[.string ⟨#[116,104,97,116,32,105,116,32,119,97,115,32,97,115,107,101,100]⟩,.iface 393 (.pointer (some (E 8)))] 122)).drew.heap[w3.heap.size]?=some (.cells #[.string ⟨#[116,104,97,116,32,105,116,32,119,97,115,32,97,115,107,101,100]⟩,.iface 393 (.pointer (some (E 8)))] 122):=by rw[<- hz4];exact uQ
  obtain⟨m0,m1,m2,m3,_⟩:=Ad ((b5.block _ (lt_of_block q1)).trans q1);have QE:Hid (Ls E B b jl q v fb s L false vs wd ar tr un w (fM (.tuple #[.agg #[.string ⟨#[]⟩,eF 0,eF 0,.bool false],.bool false,.iface 120 (fq w3.heap.size)])) (W4.alloc (.cells #[.string ⟨#[116,104,97,116,32,105,116,32,119,97,115,32,97,115,107,101,100]⟩,.iface 393 (.pointer (some (E 8)))] 122)).drew):=⟨(fE.new T3.o q2 (fun k hk e=>absurd hk (by omega))).trans (((fE.refl (fun _=>False) W4).below b5).mono fun _ _ h=>h.elim),aj ⟨rfl,hq,_,rfl,⟨_,n5⟩,(HJ.o.new q2 NW.o.1 NW.o.2).below b5⟩⟩;generalize (W4.alloc (.cells #[.string ⟨#[116,104,97,116,32,105,116,32,119,97,115,32,97,115,107,101,100]⟩,.iface 393 (.pointer (some (E 8)))] 122)).drew=W5 at *;refine bodyPost_ret (v:=.tuple #[.agg #[.string ⟨#[]⟩,eF 0,eF 0,.bool false],.bool false,.iface 120 (fq w3.heap.size)]) (by simp[results,Tryz.results59,go_sem,m0,m1,m2,m3]) rfl ?_;exact QE.o
open Rn (rU)
open Jn (Cv)
def Cy(B b o0 Bm jl:Nat)(q:Int)(v va:dZ)(fb:Nat)(C:dX)(wd:dX)(ar tr:Int)(un:Bool)(a:Int)(w w':dY):Prop:=
 ∃vs va',w'.heap[jl]?=some (jJ b (C.size:Int) vs wd ar tr un)/\rU w' o0 Bm vs [a] va'/\F1 w' B b q v fb C/\fE (fun k=>(k=jl\/k=b\/k=fb)\/∃cur,w.heap[k]?=some (.cells cur 3 (0,0))/\((o0<=k/\k<Bm)\/va.ownBlock=some k)) w w' /\
  (va'=va\/∃n,va'.ownBlock=some n/\w.heap.size<=n/\n<w'.heap.size)
theorem Cy.drew{B b o0 Bm jl:Nat}{q:Int}{v va:dZ}{fb:Nat}{C:dX}{wd:dX}{ar tr:Int}{un:Bool}{a:Int}{w w':dY}(h:Cy B b o0 Bm jl q v va fb C wd ar tr un a w w'):Cy B b o0 Bm jl q v va fb C wd ar tr un a w w'.drew:=by obtain⟨vs,va',h1,h2,h3,h4,h5⟩:=h;exact⟨vs,va',h1,h2.keep fun _ _ _ _=>rfl,h3.below (aF _ _).drew,h4.drew,h5⟩
theorem yhx{B b o0 Bm jl:Nat}{q:Int}{v va:dZ}{fb:Nat}{C:dX}{vs:dZ}{wd:dX}{ar tr:Int}{un:Bool}{w W:dY}(a:Int)(hW:fE (fun k=>k=jl\/k=b\/k=fb) w W)(CF:W.heap[jl]?=some (jJ b (C.size:Int) vs wd ar tr un))(Iw:F1 W B b q v fb C):∀n5,n5=W.heap.size->∀v' w5,w5.ownsRow n5 3 1 v' 1 [eF a]->W.grownBy w5 none ->
   ∃a1 n1 k1,v'=.slice a1 n1 k1/\w5.cell? ⟨jl,0,none⟩=some (fq b)/\w5.cell? ⟨jl,2,none⟩=some vs/\w5.frozen? ⟨jl,2,none⟩=false/\jl<w5.heap.size/\Hid (∀w6,(w6=w5.setCell ⟨jl,2,none⟩ v'\/w6=(w5.setCell ⟨jl,2,none⟩ v').drew)->Cy B b o0 Bm jl q v va fb C wd ar tr un a w w6):=by
 intro n5 Qd v' w5 hown hg;subst Qd;have hT:fE (fun _=>False) W w5:=(fE.refl (fun _=>False) W).grown hg fun k hk=>by cases hk
 have Lu:=(hT.block jl (lt_of_block CF) fun h=>h).trans CF;have hjz:=lt_of_block CF;obtain⟨c0,c1,c2,c3,c4,c5,c6,cf,cl⟩:=AV Lu;obtain⟨hl,h⟩:=hown;obtain⟨_,h2⟩|⟨g,cap,cur,rfl,hgW,hh,k4,k5,k6,k7⟩:=h;·omega
 have hO:=F1.other Iw CF (by decide) (by decide) (by decide);have ht:fE (·=jl) w5 (w5.setCell ⟨jl,2,none⟩ (.slice (some ⟨g,0,none⟩) 1 cap)):=(fE.refl (·=jl) w5).setCell (p:=⟨jl,2,none⟩) (ak rfl) _;have hgj:¬g=jl:=by omega
 have Pm:=(ht.block g (lt_of_block hh) hgj).trans hh;have hE:Cy B b o0 Bm jl q v va fb C wd ar tr un a w (w5.setCell ⟨jl,2,none⟩ (.slice (some ⟨g,0,none⟩) 1 cap)):=by
  refine⟨_,.slice (some ⟨g,0,none⟩) 1 cap,by rw[Ref.heap_set _ Lu]<;>rfl,⟨some ⟨g,0,none⟩,cap,rfl,k4,by show 1<=_;omega,(fun h=>by cases h),fun p hp=>?_⟩,?_,?_,aj ⟨g,rfl,aK hW.size hgW,lt_of_block Pm⟩⟩
  ·cases hp;refine⟨g,0,cur,rfl,Pm,by omega,fun i hi=>?_,aj rfl⟩;obtain rfl:i=0:=by simp at hi;omega
   have:cur.toList[0]?=some (eF a):=by have e:=congrArg (fun l=>l[0]?) k7;rw[bE (by omega)]at e;exact e
   rw[<- Array.getElem?_toList];exact this
  ·exact F1.away (F1.away Iw hT fun k hk=>hk.elim) ht fun k hk=>by rw[hk];exact hO
  ·refine((hW.mono fun k _ hk=>?_).trans (hT.mono fun _ _ h=>h.elim)).trans (ht.mono fun k _ hk=>ak (ak hk));exact ak hk
 refine⟨_,_,_,rfl,c0,c2,cf 2,cl,fun w6 U0=>?_⟩;obtain rfl|rfl:=U0;·exact hE
 ·exact hE.drew
theorem yhl{B b o0 Bm jl:Nat}{q:Int}{v va:dZ}{fb:Nat}{C:dX}{g o c:Nat}{cur:Array dZ}{wd:dX}{ar tr:Int}{un:Bool}{w W:dY}(a:Int)(hW:fE (fun k=>k=jl\/k=b\/k=fb) w W)(CF:W.heap[jl]?=some (jJ b (C.size:Int) (.slice (some ⟨g,o,none⟩) 0 c) wd ar tr un))(Iw:F1 W B b q v fb C)(hg:w.heap[g]?=some (.cells cur 3 (0,0)))(hgW:W.heap[g]?=some (.cells cur 3 (0,0)))(hc:1<=c)(hz:o+c<=cur.size)(hv:(o0<=g/\g<Bm)\/va.ownBlock=some g):(W.setCell ⟨g,o,none⟩ (eF a)).cell? ⟨jl,0,none⟩=some (fq b)/\(W.setCell ⟨g,o,none⟩ (eF a)).cell? ⟨jl,2,none⟩=some (.slice (some ⟨g,o,none⟩) 0 c)/\(W.setCell ⟨g,o,none⟩ (eF a)).frozen? ⟨jl,2,none⟩=false/\jl<(W.setCell ⟨g,o,none⟩ (eF a)).heap.size /\
  Hid (∀w6,(w6=(W.setCell ⟨g,o,none⟩ (eF a)).setCell ⟨jl,2,none⟩ (.slice (some ⟨g,o,none⟩) 1 c)\/w6=((W.setCell ⟨g,o,none⟩ (eF a)).setCell ⟨jl,2,none⟩ (.slice (some ⟨g,o,none⟩) 1 c)).drew)->Cy B b o0 Bm jl q v va fb C wd ar tr un a w w6):=by
 have nB:jl≠g:=F6 CF hgW;have hT:fE (·=g) W (W.setCell ⟨g,o,none⟩ (eF a)):=(fE.refl (·=g) W).setCell (p:=⟨g,o,none⟩) (ak rfl) _;have Lu:=(hT.block jl (lt_of_block CF) nB).trans CF;obtain⟨c0,c1,c2,c3,c4,c5,c6,cf,cl⟩:=AV Lu;have hO:=F1.other Iw CF (by decide) (by decide) (by decide);have hOg:=F1.other Iw hgW (by decide) (by decide) (by decide);have hg5:(W.setCell ⟨g,o,none⟩ (eF a)).heap[g]?=some (.cells (cur.setIfInBounds o (eF a)) 3 (0,0)):=by rw[Ref.heap_set _ hgW]
 generalize W.setCell ⟨g,o,none⟩ (eF a)=w5 at *;have ht:fE (·=jl) w5 (w5.setCell ⟨jl,2,none⟩ (.slice (some ⟨g,o,none⟩) 1 c)):=(fE.refl (·=jl) w5).setCell (p:=⟨jl,2,none⟩) (ak rfl) _;have Pm:=(ht.block g (lt_of_block hg5) fun e=>nB e.symm).trans hg5;have hE:Cy B b o0 Bm jl q v va fb C wd ar tr un a w (w5.setCell ⟨jl,2,none⟩ (.slice (some ⟨g,o,none⟩) 1 c)):=by
  refine⟨_,va,by rw[Ref.heap_set _ Lu]<;>rfl,⟨some ⟨g,o,none⟩,c,rfl,hc,by show 1<=_;omega,(fun h=>by cases h),fun p hp=>?_⟩,?_,?_,ak rfl⟩
  ·cases hp;refine⟨g,o,_,rfl,Pm,by rw[Array.size_setIfInBounds];omega,fun i hi=>?_,hv⟩;obtain rfl:i=0:=by simp at hi;omega
   rw[Nat.add_zero,Array.getElem?_setIfInBounds_self,aA (by omega)];all_goals rfl
  ·exact F1.away (F1.away Iw hT fun k hk=>by rw[hk];exact hOg) ht fun k hk=>by rw[hk];exact hO
  ·refine((hW.mono fun k _ hk=>?_).trans (hT.mono fun k _ hk=>?_)).trans (ht.mono fun k _ hk=>ak (ak hk));·exact ak hk
   ·exact aj (⟨cur,by rw[hk];exact hg,by rw[hk];exact hv⟩)
 refine⟨c0,c2,cf 2,cl,fun w6 U0=>?_⟩;obtain rfl|rfl:=U0;·exact hE
 ·exact hE.drew
theorem ykh(n:Int)(h:Cv n)(w:dY)(htab:Lib.TabIs Tryz.prog w "internal/strconv.uint64pow10" .u64 Lib.pow10Tab):fI 143 #[eF n] w fun e w'=>e=fM (.string ⟨(Lib.itoa n).toArray⟩)/\gU w w':=by refine(zh2 n h.1 (by have:=h.2;omega) w htab).mono ?_;rintro e w' ⟨rfl,k,os,rfl⟩;refine⟨rfl,?_⟩;have h2:Below (w.drewN k).heap.size (w.drewN k) (Sort.grow (w.drewN k) os):=⟨rfl,rfl,rfl,by rw[Sort.size_grow];exact Nat.le_add_right _ _,fun i hi=>Sort.heap_grow_old _ os hi⟩;exact⟨rfl,rfl,rfl,h2.size,fun i hi=>h2.block i hi⟩
theorem yjx(a:Int):(⟨#[33]⟩:dX)++⟨(Lib.itoa a).toArray⟩++⟨#[10]⟩=⟨(33::(Lib.itoa a++[10])).toArray⟩:=by show(⟨([33]:List UInt8).toArray⟩:dX)++⟨(Lib.itoa a).toArray⟩++⟨([10]:List UInt8).toArray⟩=_;rw[Pj,Pj];simp
theorem yka(s:dX)(L:List Int)(a:Int):cB s L (kL true)++⟨(33::(Lib.itoa a++[10])).toArray⟩=cB s (L++[a]) (kL false):=by show(⟨(cont s L [63]).toArray⟩:dX)++_=⟨(cont s (L++[a]) []).toArray⟩;rw[Pj];simp[cont,body,ln]
def TlX(E:Nat->Addr)(B b o0 Bm jl:Nat)(q:Int)(v va:dZ)(fb:Nat)(s:dX)(L:List Int)(vs:dZ)(wd:dX)(ar tr:Int)(un:Bool)(a:Int)(w:dY)(e:Ending)(w':dY):Prop:=
 (e=fM .nilIface/\Cy B b o0 Bm jl q v va fb (cB s (L++[a]) (kL false)) wd ar tr un a w w') \/
 (0<q/\∃f,e=fM (.iface 120 (fq f))/\Jn.FJ w' f (.iface 393 (.pointer (some (E 8))))/\JS B b jl q v fb s L true vs wd ar tr un w'/\fE (fun k=>k=jl\/k=b\/k=fb) w w')
theorem U3(E:Nat->Addr)(B b o0 Bm jl:Nat)(q:Int)(v va:dZ)(fb:Nat)(s:dX)(L:List Int)(vs:dZ)(wd:dX)(ar tr:Int)(un:Bool)(a:Int)(ha:Cv a)(w:dY)(hq0:0<=q)(hG:21<=B)(hj:B<=jl)(hC:(cont s L (kL true)).length<=10000000000)(h:JS B b jl q v fb s L true vs wd ar tr un w)(hA:rU w o0 Bm vs [] va)(g:Lg.q8 w E)(htab:∀w1,gU w w1->Lib.TabIs Tryz.prog w1 "internal/strconv.uint64pow10" .u64 Lib.pow10Tab):fI 62 #[fq jl,eF a] w (TlX E B b o0 Bm jl q v va fb s L vs wd ar tr un a w):=by
 have hil:(Lib.itoa a).length<=21:=Lib.itoa_length_le a ha.1 (by have:=ha.2;omega);have hcz:(cB s L (kL true)).size=(cont s L (kL true)).length:=tL _;have hdz:(⟨(33::(Lib.itoa a++[10])).toArray⟩:dX).size=(33::(Lib.itoa a++[10])).length:=tL _;have hdl:(33::(Lib.itoa a++[10])).length<=100:=by simp;omega
 have HS:Hid _:=mN B b jl q v fb (cB s L (kL true)) vs wd ar tr un w h.f h.j;have HI:Hid (∀w1,gU w w1->_):=fun w1 hb1=>ykh a ha w1 (htab w1 hb1);have HL:Hid (∀w1,fI 144 #[.string ⟨(33::(Lib.itoa a++[10])).toArray⟩,.string (cB s L (kL true))] w1 fun e w'=>e=fM (.string ⟨(33::(Lib.itoa a++[10])).toArray⟩)/\gU w1 w'):=fun w1=>by
  have e:cB s L (kL true)=⟨(cont s L []++[63]).toArray⟩:=by show(⟨(cont s L [63]).toArray⟩:dX)=_;rw[Lr]
  rw[e];refine yjy _ _ w1 (by omega) (by simp) ?_;rw[<- Lr];show(cont s L (kL true)).length<=_;omega
 have HA:Hid (∀w1,gU w w1->_):=fun w1 hb1=>mS B b jl q v fb (cB s L (kL true)) ⟨(33::(Lib.itoa a++[10])).toArray⟩ vs wd ar tr un w1 (by omega) hq0 (h.f.below hb1) ((hb1.block jl (lt_of_block h.j)).trans h.j);have Pk:Hid (B<=b/\B<=fb):=h.f.lo;have G:Hid (JS B b jl q v fb s L true vs wd ar tr un w/\rU w o0 Bm vs [] va/\Lg.q8 w E):=⟨h,hA,g⟩;have cl:=lt_of_block h.j;have LE:Hid _:=yjx a;have CT:Hid _:=yka s L a;have hsI:(⟨(Lib.itoa a).toArray⟩:dX).size<=21:=by rw[tL];exact hil
 generalize (⟨(33::(Lib.itoa a++[10])).toArray⟩:dX)=S at *;generalize hC0:cB s L (kL true)=C at HS HL HA CT;generalize (⟨(Lib.itoa a).toArray⟩:dX)=sI at *;go_enter Tryz.func62,Tryz.ntmps62;go_wp2_with fail;refine aB HS.o ?_;rintro e w1 ⟨rfl,hb1⟩;have B1:Hid _:=hb1;go_wp2_with fail;refine aB (HI.o _ B1.o) ?_;rintro e w2 ⟨rfl,hb2⟩;have B2:Hid (gU w w2):=B1.o.trans (hb2.mono B1.o.size);go_wp2_with fail;rw[LE.o];refine aB (HL.o w2) ?_;rintro e w3 ⟨rfl,hb3⟩;have B3:Hid (gU w w3):=B2.o.trans (hb3.mono B2.o.size);go_wp2_with fail;refine aB (HA.o w3 B3.o) ?_;rintro e w4 ⟨rfl,⟨C',hC',f4,j4⟩,t4⟩;have T4:Hid (fE (fun k=>k=jl\/k=b\/k=fb) w w4):=(((fE.refl (fun _=>False) w).below B3.o).mono fun _ _ h=>h.elim).trans t4;cases hok:mq q C.size S.size with
 |true=>
  rw[hok,aA rfl,CT.o]at hC';subst hC';obtain⟨c0,c1,c2,c3,c4,c5,c6,cf,cl4⟩:=AV j4;have HS4:Hid _:=j4;obtain⟨i0,hi,hz0,hz1,hz2⟩:=info_parts cR;have hWw:gU w4 (w4.alloc (.cells #[eF a] 3)):=(aF _ _).alloc (ay _) _;have TW:Hid (fE (fun k=>k=jl\/k=b\/k=fb) w (w4.alloc (.cells #[eF a] 3))/\(w4.alloc (.cells #[eF a] 3)).heap[jl]?=some (jJ b ((cB s (L++[a]) (kL false)).size:Int) vs wd ar tr un)/\F1 (w4.alloc (.cells #[eF a] 3)) B b q v fb (cB s (L++[a]) (kL false))):=⟨T4.o.alloc _,(hWw.block jl cl4).trans HS4.o,f4.below hWw⟩;have N2:Hid (∀j u,[Value.int .i64 a][j]?=some u->(w4.alloc (.cells #[eF a] 3)).cell? ((⟨w4.heap.size,0,none⟩:Addr).add j)=some u):=Fi.NH uQ;have N3:Hid (∀u∈[Value.int .i64 a],u.oneCell'=true):=by intro u hu;simp at hu;subst hu;rfl
  have NW:Hid _:=yhx (B:=B) (b:=b) (o0:=o0) (Bm:=Bm) (jl:=jl) (q:=q) (v:=v) (va:=va) (fb:=fb) a TW.o.1 TW.o.2.1 TW.o.2.2 (w4.heap.size+1) (by simp);obtain⟨ad,c,rfl,hcap,hll,hnone,hce⟩:=G.o.2.1;simp only[aV]at c2 TW NW;cases ad with
  |none=>
   obtain rfl:=hnone rfl;go_wp2_with (first
    |(at_builtin;refine wpList_append_grows _ rfl _ _ 32 rfl 3 i0 (eF 0) 1 8 Tryz.underlying32 hi hz0 hz1 hz2 rfl (by decide) none 0 0 [] rfl (fun _=>⟨rfl,rfl⟩) rfl (fun b h=>by cases h) ⟨w4.heap.size,0,none⟩ 1 1 [eF a] rfl rfl N2.o N3.o (by decide) (by decide) (by decide) ?_)
    |fail)
   intro v' w5 hown hgrow;obtain⟨a1,n1,k1,rfl,e0,e2,ef,el,HN⟩:=NW.o v' w5 hown hgrow;go_wp2_with fail;all_goals (try go_region)
   all_goals (try go_wp2_with fail)
   all_goals
    go_ret;exact ak ⟨rfl,HN.o _ (by first|exact ak rfl|exact aj rfl)⟩
  |some p=>
  obtain⟨g,o,cur,rfl,hg,hz,_,hv⟩:=hce p rfl;have hg4:(w4.alloc (.cells #[eF a] 3)).heap[g]?=some (.cells cur 3 (0,0)):=(TW.o.1.block g (lt_of_block hg) (by
   obtain⟨o1,o2,_⟩:=F1.other G.o.1.f hg (by decide) (by decide) (by decide);rintro(h|h|h);·exact F6 G.o.1.j hg h.symm
   ·exact o1 h
   ·exact o2 h)).trans hg
  have HR:Hid (1<=c->_):=fun hc=>yhl a TW.o.1 TW.o.2.1 TW.o.2.2 hg hg4 hc hz hv;have HSp:Hid (0+1<=c->∀j,j<[Value.int .i64 a].length->((w4.alloc (.cells #[eF a] 3)).cell? ⟨g,o+0*1+j,none⟩).isSome=true/\(w4.alloc (.cells #[eF a] 3)).frozen? ⟨g,o+0*1+j,none⟩=false):=by
   intro hc j hj;obtain rfl:j=0:=by simp at hj;omega
   have:o<cur.size:=by omega
   simp[World.cell?,World.frozen?,hg4,this]
  go_wp2_with (first
   |(at_builtin;refine wpList_append_arg _ rfl _ _ 32 rfl 3 i0 (eF 0) 1 8 Tryz.underlying32 hi hz0 hz1 hz2 rfl (by decide) g o 0 c [] rfl rfl (fun j u h=>by cases h) ⟨w4.heap.size,0,none⟩ 1 1 [eF a] rfl rfl N2.o N3.o HSp.o (by decide) (by decide) ?_ ?_)
   |fail)
  ·intro hc;have e:(w4.alloc (.cells #[eF a] 3)).setCells g o [eF a]=(w4.alloc (.cells #[eF a] 3)).setCell ⟨g,o,none⟩ (eF a):=by simp[World.setCells]
   rw[e];obtain⟨e0,e2,ef,el,HN⟩:=HR.o hc;generalize (w4.alloc (.cells #[eF a] 3)).setCell ⟨g,o,none⟩ (eF a)=w5 at *;go_wp2_with fail;all_goals (try go_region)
   all_goals (try go_wp2_with fail)
   all_goals
    go_ret;exact ak ⟨rfl,HN.o _ (by first|exact ak rfl|exact aj rfl)⟩
  intro hc v' w5 hown hgrow;obtain⟨a1,n1,k1,rfl,e0,e2,ef,el,HN⟩:=NW.o v' w5 hown hgrow;go_wp2_with fail;all_goals (try go_region)
  all_goals (try go_wp2_with fail)
  all_goals
   go_ret;exact ak ⟨rfl,HN.o _ (by first|exact ak rfl|exact aj rfl)⟩
 |false=>
 rw[hok,ah (by decide),<- hC0]at hC';subst hC';have hq:0<q:=by unfold mq at hok;simp at hok;exact hok.1
 have HJ:Hid (JS B b jl q v fb s L true vs wd ar tr un w4):=⟨f4,j4⟩;have c8:w4.cell? ⟨1,0,none⟩=some (.iface 393 (.pointer (some (E 8)))):=by
  have h8:=G.o.2.2.v8;obtain⟨l4,l5⟩:=Pk.o;refine(aH (w:=w) (a:=⟨1,0,none⟩) (T4.o.block _ (lt_of_cell h8) fun h=>?_)).trans h8;obtain h|h|h:=h;·have h':1=jl:=h;omega
  ·have h':1=b:=h;omega
  have h':1=fb:=h;omega
 go_wp2_with fail;all_goals (try go_region)
 all_goals (try go_wp2_with fail)
 all_goals
  go_ret;refine aj ⟨hq,_,rfl,⟨_,uQ⟩,?_,?_⟩;·exact HJ.o.below (by first|exact((aF _ _).alloc (ay _) _).drew|exact(aF _ _).alloc (ay _) _)
  ·exact T4.o.trans (((fE.refl (fun _=>False) w4).below (by first|exact((aF _ _).alloc (ay _) _).drew|exact(aF _ _).alloc (ay _) _)).mono fun _ _ h=>h.elim)
end Gj
namespace Tn
open Px
theorem U4{s:dX}{l:List Sm}(h:Px.read s=.ok l):s.size<=300:=by
 by_cases h3:300<s.size;·unfold Px.read at h;rw[aA h3]at h;cases h
 omega
end Tn
namespace Gl
open Gj Px
open Gj (cont body ln hd kL)
theorem yjg(L:List Int)(hL:∀a∈L,mZ a):(body L).length<=30*L.length:=by
 induction L with| nil=>simp[body]| cons a L ih=>
 have h1:=ih fun x hx=>hL x (List.mem_cons_of_mem _ hx);have h2:=Lib.itoa_length_le a (hL a dA).1 (hL a dA).2;have h3:(body (a::L)).length=(ln a).length+(body L).length:=by simp[body]
 have h4:(ln a).length=(Lib.itoa a).length+3:=by simp[ln]
 simp only[aG];omega
theorem yjc(s:dX)(L:List Int)(o:Bool)(hs:s.size<=300)(hL:∀a∈L,mZ a):(cont s L (kL o)).length<=1000+30*L.length:=by
 have h1:=yjg L hL;have h2:=UQ s.data.toList;rw[dx]at h2;have h2:(hd s.data.toList).length<=2*s.size+3:=h2;have h3:(kL o).length<=1:=by cases o<;>simp[kL]
 simp only[cont,aC];omega
