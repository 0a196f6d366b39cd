import Derived.Test.YtokkhhekekeokaaGreatDoorC25
import Derived.Test.YtokkhhekekeokaaGreatDoorC40
set_option maxRecDepth 100000
namespace Go.Proofs.YtokkhhekekeokaaGreatDoor
open Go.ChangeShapes Go.WideShapes Go.RowKit
namespace Law
open Ed Lg Rn
variable {W:fu}{l:List (String×DataW Unit)}
theorem zdb (hlo:17<=W.heap.size)(h:laidMet Tryz.prog l W)(m1:("errand/machine.errFails",Rows.laid_errand_machine_errFails)∈l)(m2:("errand/machine.errWaits",Rows.laid_errand_machine_errWaits)∈l)(m3:("errand/machine.errAgain",Rows.laid_errand_machine_errAgain)∈l)(m4:("errand/machine.errStuck",Rows.laid_errand_machine_errStuck)∈l):∃ F,Gm W F:=by
 obtain ⟨a1,o1⟩:=wH h m1 g10 y10;obtain ⟨a2,o2⟩:=wH h m2 g11 y11;obtain ⟨a3,o3⟩:=wH h m3 g12 y12;obtain ⟨a4,o4⟩:=wH h m4 g13 y13;have hT:∀ i,1<=i->i<=4->∃ g,One W g (four a1 a2 a3 a4 i) (Jv i):=fun i h1 h2=>by
  have hi:i=1\/i=2\/i=3\/i=4:=by omega
  rcases hi with rfl | rfl | rfl | rfl
  ·exact ⟨_,o1⟩
  ·exact ⟨_,o2⟩
  ·exact ⟨_,o3⟩
  ·exact ⟨_,o4⟩
 refine ⟨four a1 a2 a3 a4,o1.v,o2.v,o3.v,o4.v,fun i h1 h2=>?_,fun i j h1 h2 h3 h4 hne=>?_,hlo⟩
 ·obtain ⟨g,o⟩:=hT i h1 h2;exact o.k
 ·obtain ⟨g,o⟩:=hT i h1 h2;obtain ⟨g',o'⟩:=hT j h3 h4;exact o.ne o' (zk8 h1 h2 h3 h4 hne)
theorem zdc (hlo:17<=W.heap.size)(h:laidMet Tryz.prog l W)(mk:("errand/machine.kindOf",Rows.laid_errand_machine_kindOf)∈l):Mk.Gk W W.heap.size:=by
 have ht:Lib.TabIs Tryz.prog W "errand/machine.kindOf" .i64 [4,5,6,7,8,9,10]:=Lib.tabIs_of_head (k:=.i64) (zs:=[4,5,6,7,8,9,10]) YF yKo Tryz.underlying298 Tryz.underlying87 cMk cKo (RF h mk);refine ⟨fun j hj=>?_,hlo⟩
 rw[World.var?_cell YF ht j];match j,hj with
 | 0,_=>rfl
 | 1,_=>rfl
 | 2,_=>rfl
 | 3,_=>rfl
 | 4,_=>rfl
 | 5,_=>rfl
 | 6,_=>rfl
abbrev KL:List (String×DataW Unit):=[("errand/lang.ErrLong",Rows.laid_errand_lang_ErrLong),("errand/lang.ErrText",Rows.laid_errand_lang_ErrText),("errand/lang.ErrNest",Rows.laid_errand_lang_ErrNest),("errand/lang.ErrCount",Rows.laid_errand_lang_ErrCount),("errand/lang.ErrName",Rows.laid_errand_lang_ErrName),("errand/lang.ErrType",Rows.laid_errand_lang_ErrType),("errand/lang.ops",Rows.laid_errand_lang_ops),("errand/machine.ErrCode",Rows.laid_errand_machine_ErrCode),("errand/machine.errFails",Rows.laid_errand_machine_errFails),("errand/machine.errWaits",Rows.laid_errand_machine_errWaits),("errand/machine.errAgain",Rows.laid_errand_machine_errAgain),("errand/machine.errStuck",Rows.laid_errand_machine_errStuck),("errand/machine.kindOf",Rows.laid_errand_machine_kindOf),("errand/journal.ErrOther",Rows.laid_errand_journal_ErrOther),("errand/journal.ErrFull",Rows.laid_errand_journal_ErrFull)]
theorem zaz (hs:W.ShapedOpen Tryz.prog)(h:laidMet Tryz.prog KL W)(hh:handlesMet Tryz.prog [("errors.errorType",Rows.laid_errors_errorType)] W):∃ E F,Gr W E F:=by
 obtain ⟨E,e⟩:∃ E,Gw W E:=by
  refine qrn (RO hs) h ?_ ?_ ?_ ?_ ?_ ?_ ?_ ?_ ?_ ?_ hh<;>simp only[bY,true_or,or_true]
 obtain ⟨F,f⟩:∃ F,Gm W F:=by
  refine zdb (RO hs) h ?_ ?_ ?_ ?_<;>simp only[bY,true_or,or_true]
 exact ⟨E,F,e,f,zdc (RO hs) h (by simp only[bY,true_or,or_true])⟩
