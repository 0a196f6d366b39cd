import Derived.Test.YtagpnplggopoeaaGreatDoorT19
import Derived.Test.YtagpnplggopoeaaGreatDoorT36
set_option maxRecDepth 100000
namespace Go.Proofs.YtagpnplggopoeaaGreatDoor
open Go.ChangeShapes Go.WideShapes Go.RowKit
namespace LawTorn
open Law
theorem g14:Tryz.prog.globalNamed "errand/journal.ErrTorn" = some 2:=by kernel_rfl
theorem y14:(Tryz.prog.globals[2]?).map (·.type)=some 55:=by kernel_rfl
theorem yPow:(Tryz.prog.globals[17]?).map (·.type)=some 347:=by kernel_rfl
theorem cU64:Tryz.prog.cellsOf 152=1:=by kernel_rfl
theorem cPow:Tryz.prog.cellsOf 347=20:=by kernel_rfl
abbrev ycs:List (String×DataW Unit):=[("math/bits.deBruijn32tab",Rows.laid_math_bits_deBruijn32tab),("math/bits.deBruijn64tab",Rows.laid_math_bits_deBruijn64tab),("internal/strconv.uint64pow10",Rows.laid_internal_strconv_uint64pow10),("errand/lang.ErrLong",Rows.laid_errand_lang_ErrLong),("errand/lang.ErrText",Rows.laid_errand_lang_ErrText),("errand/lang.ErrNest",Rows.laid_errand_lang_ErrNest),("errand/lang.ErrCount",Rows.laid_errand_lang_ErrCount),("errand/lang.ErrName",Rows.laid_errand_lang_ErrName),("errand/lang.ErrType",Rows.laid_errand_lang_ErrType),("errand/lang.ops",Rows.laid_errand_lang_ops),("errand/machine.ErrCode",Rows.laid_errand_machine_ErrCode),("errand/machine.errFails",Rows.laid_errand_machine_errFails),("errand/machine.errWaits",Rows.laid_errand_machine_errWaits),("errand/machine.errAgain",Rows.laid_errand_machine_errAgain),("errand/machine.errStuck",Rows.laid_errand_machine_errStuck),("errand/machine.kindOf",Rows.laid_errand_machine_kindOf),("errand/journal.ErrTorn",Rows.laid_errand_journal_ErrTorn),("errand/journal.ErrOther",Rows.laid_errand_journal_ErrOther),("errand/journal.ErrFull",Rows.laid_errand_journal_ErrFull)]
theorem yfj:((List.range 10).all fun i=>i == 0 || zev i != txt Rows.laid_errand_journal_ErrTorn)=true:=by decide +kernel
theorem yf0 {i:Nat} (h1:1≤i) (h2:i≤9):zev i≠txt Rows.laid_errand_journal_ErrTorn:=by
 have:=List.all_eq_true.1 yfj i (List.mem_range.2 (by omega))
 simp only[Bool.or_eq_true,beq_iff_eq,bne_iff_ne] at this;rcases this with h | h
 ·omega
 ·exact h
theorem ycr {W:World} {g:Nat} {a a':Addr} {b:List UInt8} (h:One W g a b) (h':W.cell? ⟨g,0,none⟩=some (.iface 359 (.pointer (some a')))):One W g a' b:=by
 have:=h.v.symm.trans h'
 cases this;exact h
theorem je_of {W:World} {E:Nat→Addr} (h:laidMet Tryz.prog ycs W) (hE:Lg.Snt W E):∃ a,W.cell? ⟨2,0,none⟩=some (.iface 359 (.pointer (some a)))∧(∃ c t,W.heap[a.block]?=some (.cells c t (0,0)))∧∀ i,1≤i→i≤9→E i≠a:=by
 obtain ⟨a,o⟩:=qhr h (show ("errand/journal.ErrTorn",Rows.laid_errand_journal_ErrTorn)∈ycs by simp only[List.mem_cons,true_or,or_true]) g14 y14
 have hT:∀ i,1≤i→i≤9→∃ g,One W g (E i) (zev i):=fun i h1 h2=>by
  have hi:i=1∨i=2∨i=3∨i=4∨i=5∨i=6∨i=7∨i=8∨i=9:=by omega
  rcases hi with rfl | rfl | rfl | rfl | rfl | rfl | rfl | rfl | rfl
  ·obtain ⟨b,p⟩:=qhr h (show ("errand/lang.ErrLong",Rows.laid_errand_lang_ErrLong)∈ycs by simp only[List.mem_cons,true_or,or_true]) g1 y1
   exact ⟨_,ycr p hE.v1⟩
  ·obtain ⟨b,p⟩:=qhr h (show ("errand/lang.ErrText",Rows.laid_errand_lang_ErrText)∈ycs by simp only[List.mem_cons,true_or,or_true]) g2 y2
   exact ⟨_,ycr p hE.v2⟩
  ·obtain ⟨b,p⟩:=qhr h (show ("errand/lang.ErrNest",Rows.laid_errand_lang_ErrNest)∈ycs by simp only[List.mem_cons,true_or,or_true]) g3 y3
   exact ⟨_,ycr p hE.v3⟩
  ·obtain ⟨b,p⟩:=qhr h (show ("errand/lang.ErrCount",Rows.laid_errand_lang_ErrCount)∈ycs by simp only[List.mem_cons,true_or,or_true]) g4 y4
   exact ⟨_,ycr p hE.v4⟩
  ·obtain ⟨b,p⟩:=qhr h (show ("errand/lang.ErrName",Rows.laid_errand_lang_ErrName)∈ycs by simp only[List.mem_cons,true_or,or_true]) g5 y5
   exact ⟨_,ycr p hE.v5⟩
  ·obtain ⟨b,p⟩:=qhr h (show ("errand/lang.ErrType",Rows.laid_errand_lang_ErrType)∈ycs by simp only[List.mem_cons,true_or,or_true]) g6 y6
   exact ⟨_,ycr p hE.v6⟩
  ·obtain ⟨b,p⟩:=qhr h (show ("errand/machine.ErrCode",Rows.laid_errand_machine_ErrCode)∈ycs by simp only[List.mem_cons,true_or,or_true]) g7 y7
   exact ⟨_,ycr p hE.v7⟩
  ·obtain ⟨b,p⟩:=qhr h (show ("errand/journal.ErrFull",Rows.laid_errand_journal_ErrFull)∈ycs by simp only[List.mem_cons,true_or,or_true]) g8 y8
   exact ⟨_,ycr p hE.v8⟩
  ·obtain ⟨b,p⟩:=qhr h (show ("errand/journal.ErrOther",Rows.laid_errand_journal_ErrOther)∈ycs by simp only[List.mem_cons,true_or,or_true]) g9 y9
   exact ⟨_,ycr p hE.v9⟩
 refine ⟨a,o.v,o.k,fun i h1 h2=>?_⟩
 obtain ⟨g,p⟩:=hT i h1 h2;exact p.ne o (yf0 h1 h2)
theorem gm_of {W:World} (h:laidMet Tryz.prog ycs W):∃ F:Nat→Addr,(W.cell? ⟨11,0,none⟩=some (.iface 359 (.pointer (some (F 1))))∧W.cell? ⟨13,0,none⟩=some (.iface 359 (.pointer (some (F 2))))∧W.cell? ⟨14,0,none⟩=some (.iface 359 (.pointer (some (F 3))))∧W.cell? ⟨12,0,none⟩=some (.iface 359 (.pointer (some (F 4)))))∧(∀ i,1≤i→i≤4→∃ c t,W.heap[(F i).block]?=some (.cells c t (0,0)))∧∀ i j,1≤i→i≤4→1≤j→j≤4→i≠j→F i≠F j:=by
 obtain ⟨a1,o1⟩:=qhr h (show ("errand/machine.errFails",Rows.laid_errand_machine_errFails)∈ycs by simp only[List.mem_cons,true_or,or_true]) g10 y10
 obtain ⟨a2,o2⟩:=qhr h (show ("errand/machine.errWaits",Rows.laid_errand_machine_errWaits)∈ycs by simp only[List.mem_cons,true_or,or_true]) g11 y11
 obtain ⟨a3,o3⟩:=qhr h (show ("errand/machine.errAgain",Rows.laid_errand_machine_errAgain)∈ycs by simp only[List.mem_cons,true_or,or_true]) g12 y12
 obtain ⟨a4,o4⟩:=qhr h (show ("errand/machine.errStuck",Rows.laid_errand_machine_errStuck)∈ycs by simp only[List.mem_cons,true_or,or_true]) g13 y13
 have hT:∀ i,1≤i→i≤4→∃ g,One W g (four a1 a2 a3 a4 i) (zex i):=fun i h1 h2=>by
  have hi:i=1∨i=2∨i=3∨i=4:=by omega
  rcases hi with rfl | rfl | rfl | rfl
  ·exact ⟨_,o1⟩
  ·exact ⟨_,o2⟩
  ·exact ⟨_,o3⟩
  ·exact ⟨_,o4⟩
 refine ⟨four a1 a2 a3 a4,⟨o1.v,o2.v,o3.v,o4.v⟩,fun i h1 h2=>?_,fun i j h1 h2 h3 h4 hne=>?_⟩
 ·obtain ⟨g,o⟩:=hT i h1 h2;exact o.k
 ·obtain ⟨g,o⟩:=hT i h1 h2;obtain ⟨g',o'⟩:=hT j h3 h4;exact o.ne o' (zk8 h1 h2 h3 h4 hne)
theorem gk_of {W:World} (hlo:21≤W.heap.size) (h:laidMet Tryz.prog ycs W):Mk.Gk W W.heap.size:=by
 have ht:Lib.TabIs Tryz.prog W "errand/machine.kindOf" .i64 [4,5,6,7,8,9,10]:=Lib.tabIs_of_head (k:=.i64) (zs:=[4,5,6,7,8,9,10]) gKo yKo Tryz.underlying310 Tryz.underlying187 cMk cKo (qpr h (show ("errand/machine.kindOf",Rows.laid_errand_machine_kindOf)∈ycs by simp only[List.mem_cons,true_or,or_true]))
 refine ⟨fun j hj=>?_,hlo⟩
 rw[World.var?_cell gKo ht j];match j,hj with
 | 0,_=>rfl
 | 1,_=>rfl
 | 2,_=>rfl
 | 3,_=>rfl
 | 4,_=>rfl
 | 5,_=>rfl
 | 6,_=>rfl
def ydj (E:Nat→Addr) (a:Addr) (i:Nat):Addr:=if i=10 then a else E i
theorem yds (E:Nat→Addr) (a:Addr) {i:Nat} (h:i≤9):ydj E a i=E i:=if_neg (by omega)
theorem gt_of {W:World} (hs:W.ShapedOpen Tryz.prog) (h:laidMet Tryz.prog ycs W) (hh:handlesMet Tryz.prog [("errors.errorType",Rows.laid_errors_errorType)] W):∃ E F,Tn.Gt W E F:=by
 have hlo:=znf hs;obtain ⟨E,e⟩:∃ E,Lg.Gw W E:=by
  refine qrn hlo h ?_ ?_ ?_ ?_ ?_ ?_ ?_ ?_ ?_ ?_ hh<;>simp only[List.mem_cons,true_or,or_true]
 obtain ⟨a,t1,t2,t3⟩:=je_of h e.s;obtain ⟨F,⟨v1,v2,v3,v4⟩,fb,fn⟩:=gm_of h;have s:Lg.Snt W (ydj E a):=⟨e.s.v1,e.s.v2,e.s.v3,e.s.v4,e.s.v5,e.s.v6,e.s.v7,e.s.v8,e.s.v9,fun i h1 h2=>by rw[yds E a h2];exact e.s.blk i h1 h2,fun i j h1 h2 h3 h4 hne=>by rw[yds E a h2,yds E a h4];exact e.s.ne i j h1 h2 h3 h4 hne,e.s.et⟩
 exact ⟨ydj E a,F,⟨s,e.ops,e.lo⟩,⟨s,t1,t2,fun i h1 h2=>by rw[yds E a h2];exact t3 i h1 h2⟩,v1,v2,v3,v4,fb,fn,gk_of hlo h,Lib.tabIs_of_head (k:=.u64) (zs:=Lib.pow10Tab) Tn.gPow yPow Tryz.underlying347 Tryz.underlying152 cU64 cPow (qpr h (show ("internal/strconv.uint64pow10",Rows.laid_internal_strconv_uint64pow10)∈ycs by simp only[List.mem_cons,true_or,or_true]))⟩
end LawTorn
end Go.Proofs.YtagpnplggopoeaaGreatDoor
