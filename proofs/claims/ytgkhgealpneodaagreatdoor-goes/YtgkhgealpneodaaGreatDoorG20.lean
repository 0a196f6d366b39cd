import Derived.Stop.LaidTwo
import Derived.Test.YtgkhgealpneodaaGreatDoorG18
import Derived.LaidHandle
import Derived.Lib.SmallJoins
set_option maxRecDepth 100000
namespace Go.Proofs.YtgkhgealpneodaaGreatDoor
open Go.ChangeShapes Go.WideShapes Go.RowKit
namespace Law
open Lg
variable{P:Program}{x:String×DataW Unit}{W:dY}
theorem zhp{r:List (String×DataW Unit)}(h:laidMet P (x::r) W):laidMet P [x] W:=by
 obtain⟨n,d⟩:=x;obtain⟨ps,⟨g,t,cs,fuel,p,q,hg,ht,hv,hd,_,rfl⟩,hnd,hrows⟩:=h;refine⟨_,⟨g,t,cs,fuel,p,[],hg,ht,hv,hd,rfl,rfl⟩,?_,fun b off hm=>hrows b off ?_⟩;·rw[bQ];exact List.Nodup.sublist (List.sublist_append_left _ _) hnd
 rw[bQ]at hm;exact List.mem_append_left _ hm
variable{l:List (String×DataW Unit)}
theorem OD(h:laidMet P l W)(hm:x∈l):laidMet P [x] W:=by
 induction l with
 |nil=>cases hm
 |cons y l ih=>
 obtain rfl|hm:=bn.1 hm;·exact zhp h
 exact ih (laidMet.tail h) hm
variable{n:String}{g i j:Nat}
theorem znq{nm:String}{text:List UInt8}{ti tp te ts:TypeId}{ms:Array (String×TypeId)}{f:Field}(h:laidMet P l W)(hm:(n,.iface nm (.ptr (.agg [.lit (.string text)])))∈l)(hg:P.globalNamed n=some g)(ht:(P.globals[g]?).map (·.type)=some ti)(hi:P.underlying ti=some (.interface ms))(hrow:∀u,P.typeName? 3 u=some nm->u=tp)(hp:P.underlying tp=some (.pointer te))(he:P.underlying te=some (.struct #[f]))(hft:f.type=ts)(hfo:f.offset=0)(hs:P.underlying ts=some .string)(hc:P.cellsOf te=1)(hcs:P.cellsOf ts=1):∃(a:Addr)(s:dX)(c:Array dZ)(t:TypeId),W.cell? ⟨g,0,none⟩=some (.iface tp (.pointer (some a)))/\W.cell? a=some (.string s)/\s.data.toList=text/\W.heap[a.block]?=some (.cells c t (0,0)):=by
 obtain⟨ps,⟨g0,t0,cs0,f0,p0,q0,hg0,ht0,hv0,hd0,_,e0⟩,_,hrows⟩:=OD h hm;obtain rfl:=Option.some.inj (hg.symm.trans hg0);obtain rfl:=Option.some.inj (ht.symm.trans ht0);subst e0;obtain⟨l0⟩:=cs0;have ok0:∀u v,l0=[.iface u v]->Value.okWide P W .any 0 u v:=fun u v e=>by subst e;exact(hrows g 0 (by simp[MemPlace.row])).2 u v (by simpa using World.var?_cell hg0 hv0 0)
 obtain⟨a0,s0,rfl,hc0,hs0,_,rfl⟩:=errorString_of_trod hi hrow hp he hft hfo hs hc hcs hd0 ok0;obtain⟨c0,t0',hb0⟩:=(hrows a0.block a0.off (by simp[MemPlace.row])).1;exact⟨a0,s0,c0,t0',by simpa using World.var?_cell hg0 hv0 0,hc0,hs0,hb0⟩
theorem Ko:(Tryz.prog.cutTypes.find? (·.1 == "internal/reflectlite.rtype")).map (·.2)=some 258:=by kernel_rfl
theorem zwp:((List.range 434).filter fun t=>Tryz.prog.rowNamed t [101,114,114,111,114])=[63]:=by kernel_rfl
theorem sizeT:Tryz.prog.types.size=434:=by kernel_rfl
theorem gEt:Tryz.prog.globalNamed "errors.errorType" = some 4:=by kernel_rfl
theorem Kr:Tryz.prog.globalNamed "errand/lang.ops" = some 18:=by kernel_rfl
theorem Zu:Tryz.prog.globalNamed "errand/machine.kindOf" = some 15:=by kernel_rfl
theorem g1:Tryz.prog.globalNamed "errand/lang.ErrLong" = some 0:=by kernel_rfl
theorem g2:Tryz.prog.globalNamed "errand/lang.ErrText" = some 3:=by kernel_rfl
theorem g3:Tryz.prog.globalNamed "errand/lang.ErrNest" = some 5:=by kernel_rfl
theorem g4:Tryz.prog.globalNamed "errand/lang.ErrCount" = some 6:=by kernel_rfl
theorem g5:Tryz.prog.globalNamed "errand/lang.ErrName" = some 7:=by kernel_rfl
theorem g6:Tryz.prog.globalNamed "errand/lang.ErrType" = some 8:=by kernel_rfl
theorem g7:Tryz.prog.globalNamed "errand/machine.ErrCode" = some 9:=by kernel_rfl
theorem g8:Tryz.prog.globalNamed "errand/journal.ErrFull" = some 1:=by kernel_rfl
theorem g9:Tryz.prog.globalNamed "errand/journal.ErrOther" = some 10:=by kernel_rfl
theorem g10:Tryz.prog.globalNamed "errand/machine.errFails" = some 11:=by kernel_rfl
theorem g11:Tryz.prog.globalNamed "errand/machine.errWaits" = some 13:=by kernel_rfl
theorem g12:Tryz.prog.globalNamed "errand/machine.errAgain" = some 14:=by kernel_rfl
theorem g13:Tryz.prog.globalNamed "errand/machine.errStuck" = some 12:=by kernel_rfl
theorem y1:(Tryz.prog.globals[0]?).map (·.type)=some 63:=by kernel_rfl
theorem y2:(Tryz.prog.globals[3]?).map (·.type)=some 63:=by kernel_rfl
theorem y3:(Tryz.prog.globals[5]?).map (·.type)=some 63:=by kernel_rfl
theorem y4:(Tryz.prog.globals[6]?).map (·.type)=some 63:=by kernel_rfl
theorem y5:(Tryz.prog.globals[7]?).map (·.type)=some 63:=by kernel_rfl
theorem y6:(Tryz.prog.globals[8]?).map (·.type)=some 63:=by kernel_rfl
theorem y7:(Tryz.prog.globals[9]?).map (·.type)=some 63:=by kernel_rfl
theorem y8:(Tryz.prog.globals[1]?).map (·.type)=some 63:=by kernel_rfl
theorem y9:(Tryz.prog.globals[10]?).map (·.type)=some 63:=by kernel_rfl
theorem y10:(Tryz.prog.globals[11]?).map (·.type)=some 63:=by kernel_rfl
theorem y11:(Tryz.prog.globals[13]?).map (·.type)=some 63:=by kernel_rfl
theorem y12:(Tryz.prog.globals[14]?).map (·.type)=some 63:=by kernel_rfl
theorem y13:(Tryz.prog.globals[12]?).map (·.type)=some 63:=by kernel_rfl
theorem Tg:(Tryz.prog.globals[18]?).map (·.type)=some 389:=by kernel_rfl
theorem yKo:(Tryz.prog.globals[15]?).map (·.type)=some 333:=by kernel_rfl
theorem cMk:Tryz.prog.cellsOf 216=1:=by kernel_rfl
theorem cKo:Tryz.prog.cellsOf 333=7:=by kernel_rfl
theorem cStr:Tryz.prog.cellsOf 9=1:=by kernel_rfl
theorem Ti:Tryz.prog.cellsOf 419=1:=by kernel_rfl
theorem Tj:Tryz.prog.cellsOf 3=1:=by kernel_rfl
theorem Kt:Tryz.prog.cellsOf 387=1:=by kernel_rfl
theorem Oz:Tryz.prog.cellsOf 388=4:=by kernel_rfl
theorem Tm:Tryz.prog.cellsOf 389=28:=by kernel_rfl
theorem star : "*" ++ "errors.errorString" = "*errors.errorString" := by decide
theorem Tp(u:TypeId)(h:Tryz.prog.typeName? 3 u=some "*errors.errorString"):u=393:=typeName_ptr_named (nm := "errors.errorString") (by rw[star];kernel_rfl) (by kernel_rfl) (by decide) u (by rw[star];exact h)
variable{b:List UInt8}
theorem FL{fuel:Nat}{c:List dZ}{x y z:Int}{p:List MemPlace}(h:DataW.trod (H:=Unit) (fun _=>()) Tryz.prog W 0 (fun _=>true) false fuel 388 c=some (.agg [.lit (.string b),.lit (.int .i64 x),.lit (.int .i64 y),.lit (.int .i64 z)],p)):c=[.string ⟨b.toArray⟩,.int .i64 x,.int .i64 y,.int .i64 z]:=by
 obtain⟨e0,e1,e2,e3,n,hx,hl,t0,t1,t2,t3⟩:=Joins.trod_struct4 Tryz.underlying388 h;simp only[cStr,Tj,Kt,Oz]at hl t0 t1 t2 t3;obtain⟨s,c0,rfl,_⟩:=DataW.trod_string Tryz.underlying9 t0;obtain⟨z1,c1,rfl,_⟩:=DataW.trod_int Tryz.underlying3 t1;obtain⟨z2,c2,rfl,_⟩:=DataW.trod_int Tryz.underlying387 t2;obtain⟨z3,c3,rfl,_⟩:=DataW.trod_int Tryz.underlying387 t3;match c,hl,c0,c1,c2,c3 with
 |[a0,a1,a2,a3],_,c0,c1,c2,c3=>
 simp at c0 c1 c2 c3 hx;obtain⟨⟨h0,h1,h2,h3⟩,_⟩:=hx;subst c0 c1 c2 c3 h0 h1 h2 h3;rfl
theorem zie(h:handlesMet Tryz.prog [("errors.errorType",Rows.laid_errors_errorType)] W):W.cell? ⟨4,0,none⟩=some (.iface 258 (.agg #[.pointer (some ⟨21,63,none⟩)])):=by
 obtain⟨name,u,ty,e1,e2,e3,e4,e5⟩:=h _ (bD.2 rfl);have en:name=[101,114,114,111,114]:=(Option.some.inj e1).symm;subst en;obtain rfl:=Option.some.inj (Ko.symm.trans e2);have hm:ty∈(List.range 434).filter fun t=>Tryz.prog.rowNamed t [101,114,114,111,114]:=List.mem_filter.2 ⟨dP.2 (by rw[<- sizeT];exact e3),e4⟩;rw[zwp]at hm;obtain rfl:=bD.1 hm;have hh:typeHandle Tryz.prog 63=.pointer (some ⟨21,63,none⟩):=by kernel_rfl
 rw[hh]at e5;simpa using World.var?_cell gEt e5 0
theorem Rq(h:laidMet Tryz.prog [("errand/lang.ops",Rows.laid_errand_lang_ops)] W)(j:Nat):W.cell? ⟨18,j,none⟩=sQ[j]?:=by
 obtain⟨ps,⟨g,t,cs,fuel,p,q,hg,ht,hv,hd,_,_⟩,_,_⟩:=h;obtain rfl:=Option.some.inj (Kr.symm.trans hg);obtain rfl:=Option.some.inj (Tg.symm.trans ht);obtain⟨xs,m,_,hx,hl,hn,he⟩:=DataW.trod_array Tryz.underlying389 hd;simp only[Oz,Tm]at hl he;have hxs:xs.map (·.1)=[.agg [.lit (.string [43]),.lit (.int .i64 1),.lit (.int .i64 1),.lit (.int .i64 1)],.agg [.lit (.string [45]),.lit (.int .i64 1),.lit (.int .i64 1),.lit (.int .i64 1)],.agg [.lit (.string [42]),.lit (.int .i64 2),.lit (.int .i64 1),.lit (.int .i64 1)],.agg [.lit (.string [47]),.lit (.int .i64 2),.lit (.int .i64 1),.lit (.int .i64 1)],.agg [.lit (.string [60]),.lit (.int .i64 0),.lit (.int .i64 1),.lit (.int .i64 2)],.agg [.lit (.string [61]),.lit (.int .i64 0),.lit (.int .i64 0),.lit (.int .i64 2)],.agg [.lit (.string [35]),.lit (.int .i64 0),.lit (.int .i64 0),.lit (.int .i64 2)]]:=by have:=congrArg Prod.fst hx;simpa[Rows.laid_errand_lang_ops]using this.symm
 match xs,hn,hxs,he with
 |[x0,x1,x2,x3,x4,x5,x6],_,hxs,he=>
 obtain⟨d0,p0⟩:=x0;obtain⟨d1,p1⟩:=x1;obtain⟨d2,p2⟩:=x2;obtain⟨d3,p3⟩:=x3;obtain⟨d4,p4⟩:=x4;obtain⟨d5,p5⟩:=x5;obtain⟨d6,p6⟩:=x6;simp only[dR,List.map_nil,List.cons.injEq,and_true]at hxs;obtain⟨rfl,rfl,rfl,rfl,rfl,rfl,rfl⟩:=hxs;have q0:(cs.toList.drop 0).take 4=_:=FL (he 0 (by decide));have q1:(cs.toList.drop 4).take 4=_:=FL (he 1 (by decide));have q2:(cs.toList.drop 8).take 4=_:=FL (he 2 (by decide));have q3:(cs.toList.drop 12).take 4=_:=FL (he 3 (by decide));have q4:(cs.toList.drop 16).take 4=_:=FL (he 4 (by decide));have q5:(cs.toList.drop 20).take 4=_:=FL (he 5 (by decide));have q6:(cs.toList.drop 24).take 4=_:=FL (he 6 (by decide));have e:∀n,cs.toList.drop n=(cs.toList.drop n).take 4++cs.toList.drop (n+4):=fun n=>by have:=List.take_append_drop 4 (cs.toList.drop n);rw[List.drop_drop]at this;exact this.symm
 have hall:cs.toList=sQ:=by have e0:=e 0;rw[e 4,e 8,e 12,e 16,e 20,e 24,q0,q1,q2,q3,q4,q5,q6,dh (by omega:cs.toList.length<=24+4),List.drop_zero]at e0;rw[e0];rfl
 rw[World.var?_cell Kr hv j,<- hall];simp
theorem zwn(h:laidMet Tryz.prog [("errand/lang.ops",Rows.laid_errand_lang_ops)] W):∀j(hj:j<28),W.cell? ⟨18,j,none⟩=some (sQ[j]'hj):=fun j hj=>by rw[Rq h j];exact bN hj
def txt:DataW Unit->List UInt8
 |.iface _ (.ptr (.agg [.lit (.string b)]))=>b
 |_=>[]
def nine{α:Type}(a1 a2 a3 a4 a5 a6 a7 a8 a9:α):Nat->α
 |1=>a1|2=>a2|3=>a3|4=>a4|5=>a5|6=>a6|7=>a7|8=>a8|_=>a9
def four{α:Type}(a1 a2 a3 a4:α):Nat->α
 |1=>a1|2=>a2|3=>a3|_=>a4
def DC:Nat->List UInt8:=nine (txt Rows.laid_errand_lang_ErrLong) (txt Rows.laid_errand_lang_ErrText) (txt Rows.laid_errand_lang_ErrNest) (txt Rows.laid_errand_lang_ErrCount) (txt Rows.laid_errand_lang_ErrName) (txt Rows.laid_errand_lang_ErrType) (txt Rows.laid_errand_machine_ErrCode) (txt Rows.laid_errand_journal_ErrFull) (txt Rows.laid_errand_journal_ErrOther)
def Ku:Nat->List UInt8:=four (txt Rows.laid_errand_machine_errFails) (txt Rows.laid_errand_machine_errWaits) (txt Rows.laid_errand_machine_errAgain) (txt Rows.laid_errand_machine_errStuck)
theorem zeu:((List.range 10).all fun i=>(List.range 10).all fun j=>i==0||(j==0||(i==j||DC i != DC j)))=true:=by decide +kernel
theorem zew:((List.range 5).all fun i=>(List.range 5).all fun j=>i==0||(j==0||(i==j||Ku i != Ku j)))=true:=by decide +kernel
theorem zk7(h1:1<=i)(h2:i<=9)(h3:1<=j)(h4:j<=9)(h:i≠j):DC i≠DC j:=by
 have:=List.all_eq_true.1 (List.all_eq_true.1 zeu i (dP.2 (by omega))) j (dP.2 (by omega));simp only[bY,beq_iff_eq,bne_iff_ne]at this;obtain h|h|h|h:=this;·omega
 ·omega
 ·omega
 exact h
theorem zk8(h1:1<=i)(h2:i<=4)(h3:1<=j)(h4:j<=4)(h:i≠j):Ku i≠Ku j:=by
 have:=List.all_eq_true.1 (List.all_eq_true.1 zew i (dP.2 (by omega))) j (dP.2 (by omega));simp only[bY,beq_iff_eq,bne_iff_ne]at this;obtain h|h|h|h:=this;·omega
 ·omega
 ·omega
 exact h
theorem znf(h:W.ShapedOpen Tryz.prog):21<=W.heap.size:=by
 obtain⟨h1,_⟩:=h;have e:(((begin Tryz.prog (fun _ _=>0) default).world.heap[21-1]?).bind Obj.row?).isSome=true:=by kernel_rfl
 obtain⟨⟨z,t⟩,hz⟩:=Option.isSome_iff_exists.1 e;have eG:Tryz.prog.globals.size=21:=by kernel_rfl
 have hG:21-1<Tryz.prog.globals.size:=by rw[eG];decide
 obtain⟨cs,hc,_⟩:=h1 (21-1) z t hG hz;have:=(aN.1 hc).1;omega
structure One(W:dY)(g:Nat)(a:Addr)(b:List UInt8):Prop where
 v:W.cell? ⟨g,0,none⟩=some (.iface 393 (.pointer (some a)))
 s:∃s:dX,W.cell? a=some (.string s)/\s.data.toList=b
 k:∃c t,W.heap[a.block]?=some (.cells c t (0,0))
theorem rQ(h:laidMet Tryz.prog l W)(hm:(n,.iface "*errors.errorString" (.ptr (.agg [.lit (.string b)])))∈l)(hg:Tryz.prog.globalNamed n=some g)(hy:(Tryz.prog.globals[g]?).map (·.type)=some 63):∃a,One W g a b:=by obtain⟨a,s,c,t,h1,h2,h3,h4⟩:=znq h hm hg hy Tryz.underlying63 Tp Tryz.underlying393 Tryz.underlying419 rfl rfl Tryz.underlying9 Ti cStr;exact⟨a,h1,⟨s,h2,h3⟩,c,t,h4⟩
theorem One.ne{g':Nat}{a a':Addr}{b':List UInt8}(h:One W g a b)(h':One W g' a' b')(hb:b≠b'):a≠a':=by rintro rfl;obtain⟨s,h1,rfl⟩:=h.s;obtain⟨s',h2,rfl⟩:=h'.s;rw[h1]at h2;cases h2;exact hb rfl
theorem qrn(hlo:21<=W.heap.size)(h:laidMet Tryz.prog l W)(m1:("errand/lang.ErrLong",Rows.laid_errand_lang_ErrLong)∈l)(m2:("errand/lang.ErrText",Rows.laid_errand_lang_ErrText)∈l)(m3:("errand/lang.ErrNest",Rows.laid_errand_lang_ErrNest)∈l)(m4:("errand/lang.ErrCount",Rows.laid_errand_lang_ErrCount)∈l)(m5:("errand/lang.ErrName",Rows.laid_errand_lang_ErrName)∈l)(m6:("errand/lang.ErrType",Rows.laid_errand_lang_ErrType)∈l)(m7:("errand/machine.ErrCode",Rows.laid_errand_machine_ErrCode)∈l)(m8:("errand/journal.ErrFull",Rows.laid_errand_journal_ErrFull)∈l)(m9:("errand/journal.ErrOther",Rows.laid_errand_journal_ErrOther)∈l)(mo:("errand/lang.ops",Rows.laid_errand_lang_ops)∈l)(hh:handlesMet Tryz.prog [("errors.errorType",Rows.laid_errors_errorType)] W):∃E,Gw W E:=by
 obtain⟨a1,o1⟩:=rQ h m1 g1 y1;obtain⟨a2,o2⟩:=rQ h m2 g2 y2;obtain⟨a3,o3⟩:=rQ h m3 g3 y3;obtain⟨a4,o4⟩:=rQ h m4 g4 y4;obtain⟨a5,o5⟩:=rQ h m5 g5 y5;obtain⟨a6,o6⟩:=rQ h m6 g6 y6;obtain⟨a7,o7⟩:=rQ h m7 g7 y7;obtain⟨a8,o8⟩:=rQ h m8 g8 y8;obtain⟨a9,o9⟩:=rQ h m9 g9 y9;have hT:∀i,1<=i->i<=9->∃g,One W g (nine a1 a2 a3 a4 a5 a6 a7 a8 a9 i) (DC i):=fun i h1 h2=>by
  have hi:i=1\/i=2\/i=3\/i=4\/i=5\/i=6\/i=7\/i=8\/i=9:=by omega
  obtain rfl|rfl|rfl|rfl|rfl|rfl|rfl|rfl|rfl:=hi;·exact⟨_,o1⟩
  ·exact⟨_,o2⟩
  ·exact⟨_,o3⟩
  ·exact⟨_,o4⟩
  ·exact⟨_,o5⟩
  ·exact⟨_,o6⟩
  ·exact⟨_,o7⟩
  ·exact⟨_,o8⟩
  exact⟨_,o9⟩
 refine⟨nine a1 a2 a3 a4 a5 a6 a7 a8 a9,⟨o1.v,o2.v,o3.v,o4.v,o5.v,o6.v,o7.v,o8.v,o9.v,fun i h1 h2=>?_,fun i j h1 h2 h3 h4 hne=>?_,zie hh⟩,zwn (OD h mo),hlo⟩;·obtain⟨g,o⟩:=hT i h1 h2;exact o.k
 obtain⟨g,o⟩:=hT i h1 h2;obtain⟨g',o'⟩:=hT j h3 h4;exact o.ne o' (zk7 h1 h2 h3 h4 hne)
end Law
open Go.ChangeShapes Go.WideShapes Go.ChangeAt Go.RowKit
namespace LawTorn
open Lg
open Law
theorem own:ownKnob Tryz.prog.godebug=none:=by kernel_rfl
def lay(w:dY)(g:Nat)(cs:Array dZ):dY:={w with heap:=w.heap.modify g fun
 |.cells _ t frozen=>.cells cs t frozen
 |o=>o}
def low(P:Program):Nat:=(World.holding P default ⟨#[],#[],[]⟩).heap.size
def pX(b:List UInt8):Obj:=.cells #[.string ⟨b.toArray⟩] 419
def iW(P:Program)(i:Nat):Array dZ:=#[.iface 393 (.pointer (some ⟨low P+i,0,none⟩))]
def FM:DataW Unit->Array dZ
 |.agg l=>(l.map fun
  |.lit (.int k z)=>Value.int k z
  |_=>undef).toArray
 |_=>#[]
def yfs:Array Obj:=#[pX (txt Rows.laid_errand_lang_ErrLong),pX (txt Rows.laid_errand_lang_ErrText),pX (txt Rows.laid_errand_lang_ErrNest),pX (txt Rows.laid_errand_lang_ErrCount),pX (txt Rows.laid_errand_lang_ErrName),pX (txt Rows.laid_errand_lang_ErrType),pX (txt Rows.laid_errand_machine_ErrCode),pX (txt Rows.laid_errand_journal_ErrFull),pX (txt Rows.laid_errand_journal_ErrOther),pX (txt Rows.laid_errand_machine_errFails),pX (txt Rows.laid_errand_machine_errWaits),pX (txt Rows.laid_errand_machine_errAgain),pX (txt Rows.laid_errand_machine_errStuck),pX (txt Rows.laid_errand_journal_ErrTorn)]
def OE(P:Program)(os:Os):dY:=
 let w:=World.holding P os ⟨yfs,#[],[]⟩
 let w:=lay w 0 (iW P 0)
 let w:=lay w 3 (iW P 1)
 let w:=lay w 5 (iW P 2)
 let w:=lay w 6 (iW P 3)
 let w:=lay w 7 (iW P 4)
 let w:=lay w 8 (iW P 5)
 let w:=lay w 9 (iW P 6)
 let w:=lay w 1 (iW P 7)
 let w:=lay w 10 (iW P 8)
 let w:=lay w 11 (iW P 9)
 let w:=lay w 13 (iW P 10)
 let w:=lay w 14 (iW P 11)
 let w:=lay w 12 (iW P 12)
 let w:=lay w 2 (iW P 13)
 let w:=lay w 19 (FM Rows.laid_math_bits_deBruijn32tab)
 let w:=lay w 20 (FM Rows.laid_math_bits_deBruijn64tab)
 let w:=lay w 17 (FM Rows.laid_internal_strconv_uint64pow10)
 let w:=lay w 15 #[.int .i64 4,.int .i64 5,.int .i64 6,.int .i64 7,.int .i64 8,.int .i64 9,.int .i64 10]
 let w:=lay w 18 sQ.toArray
 lay w 4 #[.iface 258 (.agg #[.pointer (some ⟨21,63,none⟩)])]
