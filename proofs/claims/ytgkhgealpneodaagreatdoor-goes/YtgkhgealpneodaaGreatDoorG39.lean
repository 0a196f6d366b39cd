import Derived.Test.YtgkhgealpneodaaGreatDoorG20
import Derived.Test.YtgkhgealpneodaaGreatDoorG38
set_option maxRecDepth 100000
namespace Go.Proofs.YtgkhgealpneodaaGreatDoor
open Go.ChangeShapes Go.WideShapes Go.RowKit
namespace LawTorn
open Lg Tn
open Law
theorem g14:Tryz.prog.globalNamed "errand/journal.ErrTorn" = some 2:=by kernel_rfl
theorem y14:(Tryz.prog.globals[2]?).map (·.type)=some 63:=by kernel_rfl
theorem U5:(Tryz.prog.globals[17]?).map (·.type)=some 384:=by kernel_rfl
theorem U6:Tryz.prog.cellsOf 351=1:=by kernel_rfl
theorem U7:Tryz.prog.cellsOf 384=20:=by kernel_rfl
abbrev sD:List (String×DataW Unit):=[("math/bits.deBruijn32tab",Rows.laid_math_bits_deBruijn32tab),("math/bits.deBruijn64tab",Rows.laid_math_bits_deBruijn64tab),("internal/strconv.uint64pow10",Rows.laid_internal_strconv_uint64pow10),("errand/lang.ErrLong",Rows.laid_errand_lang_ErrLong),("errand/lang.ErrText",Rows.laid_errand_lang_ErrText),("errand/lang.ErrNest",Rows.laid_errand_lang_ErrNest),("errand/lang.ErrCount",Rows.laid_errand_lang_ErrCount),("errand/lang.ErrName",Rows.laid_errand_lang_ErrName),("errand/lang.ErrType",Rows.laid_errand_lang_ErrType),("errand/lang.ops",Rows.laid_errand_lang_ops),("errand/machine.ErrCode",Rows.laid_errand_machine_ErrCode),("errand/machine.errFails",Rows.laid_errand_machine_errFails),("errand/machine.errWaits",Rows.laid_errand_machine_errWaits),("errand/machine.errAgain",Rows.laid_errand_machine_errAgain),("errand/machine.errStuck",Rows.laid_errand_machine_errStuck),("errand/machine.kindOf",Rows.laid_errand_machine_kindOf),("errand/journal.ErrTorn",Rows.laid_errand_journal_ErrTorn),("errand/journal.ErrOther",Rows.laid_errand_journal_ErrOther),("errand/journal.ErrFull",Rows.laid_errand_journal_ErrFull)]
theorem yfj:((List.range 10).all fun i=>i==0||DC i != txt Rows.laid_errand_journal_ErrTorn)=true:=by decide +kernel
variable{i:Nat}
theorem yf0(h1:1<=i)(h2:i<=9):DC i≠txt Rows.laid_errand_journal_ErrTorn:=by
 have:=List.all_eq_true.1 yfj i (dP.2 (by omega));simp only[bY,beq_iff_eq,bne_iff_ne]at this;obtain h|h:=this;·omega
 exact h
variable{W:dY}
theorem CG{g:Nat}{a a':Addr}{b:List UInt8}(h:One W g a b)(h':W.cell? ⟨g,0,none⟩=some (.iface 393 (.pointer (some a')))):One W g a' b:=by have:=h.v.symm.trans h';cases this;exact h
theorem Lv{E:Nat->Addr}(h:laidMet Tryz.prog sD W)(hE:Lg.q8 W E):∃a,W.cell? ⟨2,0,none⟩=some (.iface 393 (.pointer (some a)))/\(∃c t,W.heap[a.block]?=some (.cells c t (0,0)))/\∀i,1<=i->i<=9->E i≠a:=by
 obtain⟨a,o⟩:=rQ h (show("errand/journal.ErrTorn",Rows.laid_errand_journal_ErrTorn)∈sD by simp only[bn,true_or,or_true]) g14 y14;have hT:∀i,1<=i->i<=9->∃g,One W g (E i) (DC i):=fun i h1 h2=>by
  have hi:i=1\/i=2\/i=3\/i=4\/i=5\/i=6\/i=7\/i=8\/i=9:=by omega
  obtain rfl|rfl|rfl|rfl|rfl|rfl|rfl|rfl|rfl:=hi;·obtain⟨b,p⟩:=rQ h (show("errand/lang.ErrLong",Rows.laid_errand_lang_ErrLong)∈sD by simp only[bn,true_or,or_true]) g1 y1;exact⟨_,CG p hE.v1⟩
  ·obtain⟨b,p⟩:=rQ h (show("errand/lang.ErrText",Rows.laid_errand_lang_ErrText)∈sD by simp only[bn,true_or,or_true]) g2 y2;exact⟨_,CG p hE.v2⟩
  ·obtain⟨b,p⟩:=rQ h (show("errand/lang.ErrNest",Rows.laid_errand_lang_ErrNest)∈sD by simp only[bn,true_or,or_true]) g3 y3;exact⟨_,CG p hE.v3⟩
  ·obtain⟨b,p⟩:=rQ h (show("errand/lang.ErrCount",Rows.laid_errand_lang_ErrCount)∈sD by simp only[bn,true_or,or_true]) g4 y4;exact⟨_,CG p hE.v4⟩
  ·obtain⟨b,p⟩:=rQ h (show("errand/lang.ErrName",Rows.laid_errand_lang_ErrName)∈sD by simp only[bn,true_or,or_true]) g5 y5;exact⟨_,CG p hE.v5⟩
  ·obtain⟨b,p⟩:=rQ h (show("errand/lang.ErrType",Rows.laid_errand_lang_ErrType)∈sD by simp only[bn,true_or,or_true]) g6 y6;exact⟨_,CG p hE.v6⟩
  ·obtain⟨b,p⟩:=rQ h (show("errand/machine.ErrCode",Rows.laid_errand_machine_ErrCode)∈sD by simp only[bn,true_or,or_true]) g7 y7;exact⟨_,CG p hE.v7⟩
  ·obtain⟨b,p⟩:=rQ h (show("errand/journal.ErrFull",Rows.laid_errand_journal_ErrFull)∈sD by simp only[bn,true_or,or_true]) g8 y8;exact⟨_,CG p hE.v8⟩
  obtain⟨b,p⟩:=rQ h (show("errand/journal.ErrOther",Rows.laid_errand_journal_ErrOther)∈sD by simp only[bn,true_or,or_true]) g9 y9;exact⟨_,CG p hE.v9⟩
 refine⟨a,o.v,o.k,fun i h1 h2=>?_⟩;obtain⟨g,p⟩:=hT i h1 h2;exact p.ne o (yf0 h1 h2)
theorem Lx(h:laidMet Tryz.prog sD W):∃F:Nat->Addr,(W.cell? ⟨11,0,none⟩=some (.iface 393 (.pointer (some (F 1))))/\W.cell? ⟨13,0,none⟩=some (.iface 393 (.pointer (some (F 2))))/\W.cell? ⟨14,0,none⟩=some (.iface 393 (.pointer (some (F 3))))/\W.cell? ⟨12,0,none⟩=some (.iface 393 (.pointer (some (F 4)))))/\(∀i,1<=i->i<=4->∃c t,W.heap[(F i).block]?=some (.cells c t (0,0)))/\∀i j,1<=i->i<=4->1<=j->j<=4->i≠j->F i≠F j:=by
 obtain⟨a1,o1⟩:=rQ h (show("errand/machine.errFails",Rows.laid_errand_machine_errFails)∈sD by simp only[bn,true_or,or_true]) g10 y10;obtain⟨a2,o2⟩:=rQ h (show("errand/machine.errWaits",Rows.laid_errand_machine_errWaits)∈sD by simp only[bn,true_or,or_true]) g11 y11;obtain⟨a3,o3⟩:=rQ h (show("errand/machine.errAgain",Rows.laid_errand_machine_errAgain)∈sD by simp only[bn,true_or,or_true]) g12 y12;obtain⟨a4,o4⟩:=rQ h (show("errand/machine.errStuck",Rows.laid_errand_machine_errStuck)∈sD by simp only[bn,true_or,or_true]) g13 y13;have hT:∀i,1<=i->i<=4->∃g,One W g (four a1 a2 a3 a4 i) (Ku i):=fun i h1 h2=>by
  have hi:i=1\/i=2\/i=3\/i=4:=by omega
  obtain rfl|rfl|rfl|rfl:=hi;·exact⟨_,o1⟩
  ·exact⟨_,o2⟩
  ·exact⟨_,o3⟩
  exact⟨_,o4⟩
 refine⟨four a1 a2 a3 a4,⟨o1.v,o2.v,o3.v,o4.v⟩,fun i h1 h2=>?_,fun i j h1 h2 h3 h4 hne=>?_⟩;·obtain⟨g,o⟩:=hT i h1 h2;exact o.k
 obtain⟨g,o⟩:=hT i h1 h2;obtain⟨g',o'⟩:=hT j h3 h4;exact o.ne o' (zk8 h1 h2 h3 h4 hne)
theorem LA(hlo:21<=W.heap.size)(h:laidMet Tryz.prog sD W):Mk.Gk W W.heap.size:=by have ht:Lib.TabIs Tryz.prog W "errand/machine.kindOf" .i64 [4,5,6,7,8,9,10]:=Lib.tabIs_of_head (k:=.i64) (zs:=[4,5,6,7,8,9,10]) Zu yKo Tryz.underlying333 Tryz.underlying216 cMk cKo (OD h (show("errand/machine.kindOf",Rows.laid_errand_machine_kindOf)∈sD by simp only[bn,true_or,or_true]));refine⟨fun j hj=>?_,hlo⟩;rw[World.var?_cell Zu ht j];match j,hj with| 0,_=>rfl| 1,_=>rfl| 2,_=>rfl| 3,_=>rfl| 4,_=>rfl| 5,_=>rfl| 6,_=>rfl
def U8(E:Nat->Addr)(a:Addr)(i:Nat):Addr:=if i=10 then a else E i
theorem Pn(E:Nat->Addr)(a:Addr)(h:i<=9):U8 E a i=E i:=ah (by omega)
theorem nF(hs:W.ShapedOpen Tryz.prog)(h:laidMet Tryz.prog sD W)(hh:handlesMet Tryz.prog [("errors.errorType",Rows.laid_errors_errorType)] W):∃E F,Tn.Gt W E F:=by
 have hlo:=znf hs;obtain⟨E,e⟩:∃E,Gw W E:=by refine qrn hlo h ?_ ?_ ?_ ?_ ?_ ?_ ?_ ?_ ?_ ?_ hh<;>simp only[bn,true_or,or_true]
 obtain⟨a,t1,t2,t3⟩:=Lv h e.s;obtain⟨F,⟨v1,v2,v3,v4⟩,fb,fn⟩:=Lx h;have s:Lg.q8 W (U8 E a):=⟨e.s.v1,e.s.v2,e.s.v3,e.s.v4,e.s.v5,e.s.v6,e.s.v7,e.s.v8,e.s.v9,fun i h1 h2=>by rw[Pn E a h2];exact e.s.blk i h1 h2,fun i j h1 h2 h3 h4 hne=>by rw[Pn E a h2,Pn E a h4];exact e.s.ne i j h1 h2 h3 h4 hne,e.s.et⟩;exact⟨U8 E a,F,⟨s,e.ops,e.lo⟩,⟨s,t1,t2,fun i h1 h2=>by rw[Pn E a h2];exact t3 i h1 h2⟩,v1,v2,v3,v4,fb,fn,LA hlo h,Lib.tabIs_of_head (k:=.u64) (zs:=Lib.pow10Tab) Lp U5 Tryz.underlying384 Tryz.underlying351 U6 U7 (OD h (show("internal/strconv.uint64pow10",Rows.laid_internal_strconv_uint64pow10)∈sD by simp only[bn,true_or,or_true]))⟩
