import Derived.Test.YtnhkpbmplefnaaaGreatDoorP00
import Derived.Stop.LaidTwo
import Derived.LaidLaws
import Derived.Test.YtnhkpbmplefnaaaGreatDoorRows
import Derived.Test.YtnhkpbmplefnaaaGreatDoorP08
import Derived.LaidHandle
import Derived.OpenShut
import Derived.Lib.SmallJoins
import Derived.Lib.LaidTab
import Derived.Test.YtnhkpbmplefnaaaGreatDoorP03
import Derived.Deep.DeepCutAuto
namespace Go.Proofs.YtnhkpbmplefnaaaGreatDoor
open Go.ChangeShapes Go.WideShapes Go.RowKit
namespace Law
theorem laid_head {P:Program} {x:String×DataW Unit} {r:List (String×DataW Unit)} {W:World} (h:laidMet P (x::r) W):laidMet P [x] W:=by
 obtain ⟨n,d⟩:=x
 obtain ⟨ps,⟨g,t,cs,fuel,p,q,hg,ht,hv,hd,_,rfl⟩,hnd,hrows⟩:=h
 refine ⟨_,⟨g,t,cs,fuel,p,[],hg,ht,hv,hd,rfl,rfl⟩,?_,fun b off hm=>hrows b off ?_⟩
 ·rw[List.append_nil]
  exact List.Nodup.sublist (List.sublist_append_left _ _) hnd
 ·rw[List.append_nil] at hm
  exact List.mem_append_left _ hm
theorem laid_pick {P:Program} {x:String×DataW Unit} {l:List (String×DataW Unit)} {W:World} (h:laidMet P l W) (hm:x∈l):laidMet P [x] W:=by
 induction l with
 | nil=>cases hm
 | cons y l ih =>
  rcases List.mem_cons.1 hm with rfl | hm
  ·exact laid_head h
  ·exact ih (laidMet.tail h) hm
theorem laid_one {P:Program} {n nm:String} {text:List UInt8} {W:World} {g:Nat} {ti tp te ts:TypeId} {ms:Array (String×TypeId)} {f:Field} {l:List (String×DataW Unit)}
  (h:laidMet P l W) (hm:(n,.iface nm (.ptr (.agg [.lit (.string text)])))∈l)
  (hg:P.globalNamed n=some g) (ht:(P.globals[g]?).map (·.type)=some ti) (hi:P.underlying ti=some (.interface ms)) (hrow:∀ u,P.typeName? 3 u=some nm→u=tp)
  (hp:P.underlying tp=some (.pointer te)) (he:P.underlying te=some (.struct #[f])) (hft:f.type=ts) (hfo:f.offset=0) (hs:P.underlying ts=some .string) (hc:P.cellsOf te=1) (hcs:P.cellsOf ts=1) :
  ∃ (a:Addr) (s:ByteArray) (c:Array Value) (t:TypeId),W.cell? ⟨g,0,none⟩=some (.iface tp (.pointer (some a)))∧W.cell? a=some (.string s)∧s.data.toList=text∧W.heap[a.block]?=some (.cells c t (0,0)):=by
 obtain ⟨ps,⟨g0,t0,cs0,f0,p0,q0,hg0,ht0,hv0,hd0,_,e0⟩,_,hrows⟩:=laid_pick h hm
 obtain rfl:=Option.some.inj (hg.symm.trans hg0)
 obtain rfl:=Option.some.inj (ht.symm.trans ht0)
 subst e0
 obtain ⟨l0⟩:=cs0
 have ok0:∀ u v,l0=[.iface u v]→Value.okWide P W .any 0 u v:=fun u v e=>by
  subst e
  exact (hrows g 0 (by simp[MemPlace.row])).2 u v (by simpa using World.var?_cell hg0 hv0 0)
 obtain ⟨a0,s0,rfl,hc0,hs0,_,rfl⟩:=errorString_of_trod hi hrow hp he hft hfo hs hc hcs hd0 ok0
 obtain ⟨c0,t0',hb0⟩:=(hrows a0.block a0.off (by simp[MemPlace.row])).1
 exact ⟨a0,s0,c0,t0',by simpa using World.var?_cell hg0 hv0 0,hc0,hs0,hb0⟩
open Go.ChangeShapes Go.WideShapes Go.RowKit
theorem rtRow:(Tryz.prog.cutTypes.find? (·.1 == "internal/reflectlite.rtype")).map (·.2)=some 232:=by kernel_rfl
theorem oneRow:((List.range 414).filter fun t=>Tryz.prog.rowNamed t [101,114,114,111,114])=[56]:=by kernel_rfl
theorem sizeT:Tryz.prog.types.size=414:=by kernel_rfl
theorem gEt:Tryz.prog.globalNamed "errors.errorType" = some 2:=by kernel_rfl
theorem gOps:Tryz.prog.globalNamed "errand/lang.ops" = some 16:=by kernel_rfl
theorem g1:Tryz.prog.globalNamed "errand/lang.ErrLong" = some 0:=by kernel_rfl
theorem g2:Tryz.prog.globalNamed "errand/lang.ErrText" = some 1:=by kernel_rfl
theorem g3:Tryz.prog.globalNamed "errand/lang.ErrNest" = some 3:=by kernel_rfl
theorem g4:Tryz.prog.globalNamed "errand/lang.ErrCount" = some 4:=by kernel_rfl
theorem g5:Tryz.prog.globalNamed "errand/lang.ErrName" = some 5:=by kernel_rfl
theorem g6:Tryz.prog.globalNamed "errand/lang.ErrType" = some 6:=by kernel_rfl
theorem g7:Tryz.prog.globalNamed "errand/machine.ErrCode" = some 7:=by kernel_rfl
theorem g8:Tryz.prog.globalNamed "errand/journal.ErrFull" = some 8:=by kernel_rfl
theorem g9:Tryz.prog.globalNamed "errand/journal.ErrOther" = some 9:=by kernel_rfl
theorem y1:(Tryz.prog.globals[0]?).map (·.type)=some 56:=by kernel_rfl
theorem y2:(Tryz.prog.globals[1]?).map (·.type)=some 56:=by kernel_rfl
theorem y3:(Tryz.prog.globals[3]?).map (·.type)=some 56:=by kernel_rfl
theorem y4:(Tryz.prog.globals[4]?).map (·.type)=some 56:=by kernel_rfl
theorem y5:(Tryz.prog.globals[5]?).map (·.type)=some 56:=by kernel_rfl
theorem y6:(Tryz.prog.globals[6]?).map (·.type)=some 56:=by kernel_rfl
theorem y7:(Tryz.prog.globals[7]?).map (·.type)=some 56:=by kernel_rfl
theorem y8:(Tryz.prog.globals[8]?).map (·.type)=some 56:=by kernel_rfl
theorem y9:(Tryz.prog.globals[9]?).map (·.type)=some 56:=by kernel_rfl
theorem yOps:(Tryz.prog.globals[16]?).map (·.type)=some 356:=by kernel_rfl
theorem cStr:Tryz.prog.cellsOf 9=1:=by kernel_rfl
theorem cErr:Tryz.prog.cellsOf 402=1:=by kernel_rfl
theorem cInt:Tryz.prog.cellsOf 3=1:=by kernel_rfl
theorem cKind:Tryz.prog.cellsOf 354=1:=by kernel_rfl
theorem cOp:Tryz.prog.cellsOf 355=4:=by kernel_rfl
theorem cOps:Tryz.prog.cellsOf 356=28:=by kernel_rfl
theorem star : "*" ++ "errors.errorString" = "*errors.errorString" := by decide
theorem rowE (u:TypeId) (h:Tryz.prog.typeName? 3 u=some "*errors.errorString"):u=357 :=
 typeName_ptr_named (nm := "errors.errorString") (by rw[star];kernel_rfl) (by kernel_rfl) (by decide) u (by rw[star];exact h)
theorem op_cells {W:World} {fuel:Nat} {c:List Value} {b:List UInt8} {x y z:Int} {p:List MemPlace}
  (h:DataW.trod (H:=Unit) (fun _=>()) Tryz.prog W 0 (fun _=>true) false fuel 355 c=some (.agg [.lit (.string b),.lit (.int .i64 x),.lit (.int .i64 y),.lit (.int .i64 z)],p)) :
  c=[.string ⟨b.toArray⟩,.int .i64 x,.int .i64 y,.int .i64 z]:=by
 obtain ⟨e0,e1,e2,e3,n,hx,hl,t0,t1,t2,t3⟩:=Joins.trod_struct4 Tryz.underlying355 h
 simp only[cStr,cInt,cKind,cOp] at hl t0 t1 t2 t3
 obtain ⟨s,c0,rfl,_⟩:=DataW.trod_string Tryz.underlying9 t0
 obtain ⟨z1,c1,rfl,_⟩:=DataW.trod_int Tryz.underlying3 t1
 obtain ⟨z2,c2,rfl,_⟩:=DataW.trod_int Tryz.underlying354 t2
 obtain ⟨z3,c3,rfl,_⟩:=DataW.trod_int Tryz.underlying354 t3
 match c,hl,c0,c1,c2,c3 with
 | [a0,a1,a2,a3],_,c0,c1,c2,c3 =>
  simp at c0 c1 c2 c3 hx
  obtain ⟨⟨h0,h1,h2,h3⟩,_⟩:=hx
  subst c0 c1 c2 c3 h0 h1 h2 h3
  rfl
theorem handle_of {W:World} (h:handlesMet Tryz.prog [("errors.errorType",Rows.laid_errors_errorType)] W):W.cell? ⟨2,0,none⟩=some (.iface 232 (.agg #[.pointer (some ⟨20,56,none⟩)])):=by
 obtain ⟨name,u,ty,e1,e2,e3,e4,e5⟩:=h _ (List.mem_singleton.2 rfl)
 have en:name=[101,114,114,111,114]:=(Option.some.inj e1).symm
 subst en
 obtain rfl:=Option.some.inj (rtRow.symm.trans e2)
 have hm:ty∈(List.range 414).filter fun t=>Tryz.prog.rowNamed t [101,114,114,111,114]:=List.mem_filter.2 ⟨List.mem_range.2 (by rw[← sizeT];exact e3),e4⟩
 rw[oneRow] at hm
 obtain rfl:=List.mem_singleton.1 hm
 have hh:typeHandle Tryz.prog 56=.pointer (some ⟨20,56,none⟩):=by kernel_rfl
 rw[hh] at e5
 simpa using World.var?_cell gEt e5 0
theorem ops_at {W:World} (h:laidMet Tryz.prog [("errand/lang.ops",Rows.laid_errand_lang_ops)] W) (j:Nat):W.cell? ⟨16,j,none⟩=Lg.opsC[j]?:=by
 obtain ⟨ps,⟨g,t,cs,fuel,p,q,hg,ht,hv,hd,_,_⟩,_,_⟩:=h
 obtain rfl:=Option.some.inj (gOps.symm.trans hg)
 obtain rfl:=Option.some.inj (yOps.symm.trans ht)
 obtain ⟨xs,m,_,hx,hl,hn,he⟩:=DataW.trod_array Tryz.underlying356 hd
 simp only[cOp,cOps] at hl he
 have hxs:xs.map (·.1)=[.agg [.lit (.string [43]),.lit (.int .i64 1),.lit (.int .i64 1),.lit (.int .i64 1)],.agg [.lit (.string [45]),.lit (.int .i64 1),.lit (.int .i64 1),.lit (.int .i64 1)],.agg [.lit (.string [42]),.lit (.int .i64 2),.lit (.int .i64 1),.lit (.int .i64 1)],.agg [.lit (.string [47]),.lit (.int .i64 2),.lit (.int .i64 1),.lit (.int .i64 1)],.agg [.lit (.string [60]),.lit (.int .i64 0),.lit (.int .i64 1),.lit (.int .i64 2)],.agg [.lit (.string [61]),.lit (.int .i64 0),.lit (.int .i64 0),.lit (.int .i64 2)],.agg [.lit (.string [35]),.lit (.int .i64 0),.lit (.int .i64 0),.lit (.int .i64 2)]]:=by
  have:=congrArg Prod.fst hx
  simpa [Rows.laid_errand_lang_ops] using this.symm
 match xs,hn,hxs,he with
 | [x0,x1,x2,x3,x4,x5,x6],_,hxs,he =>
  obtain ⟨d0,p0⟩:=x0
  obtain ⟨d1,p1⟩:=x1
  obtain ⟨d2,p2⟩:=x2
  obtain ⟨d3,p3⟩:=x3
  obtain ⟨d4,p4⟩:=x4
  obtain ⟨d5,p5⟩:=x5
  obtain ⟨d6,p6⟩:=x6
  simp only[List.map_cons,List.map_nil,List.cons.injEq,and_true] at hxs
  obtain ⟨rfl,rfl,rfl,rfl,rfl,rfl,rfl⟩:=hxs
  have q0:(cs.toList.drop 0).take 4=_:=op_cells (he 0 (by decide))
  have q1:(cs.toList.drop 4).take 4=_:=op_cells (he 1 (by decide))
  have q2:(cs.toList.drop 8).take 4=_:=op_cells (he 2 (by decide))
  have q3:(cs.toList.drop 12).take 4=_:=op_cells (he 3 (by decide))
  have q4:(cs.toList.drop 16).take 4=_:=op_cells (he 4 (by decide))
  have q5:(cs.toList.drop 20).take 4=_:=op_cells (he 5 (by decide))
  have q6:(cs.toList.drop 24).take 4=_:=op_cells (he 6 (by decide))
  have e:∀ n,cs.toList.drop n=(cs.toList.drop n).take 4++cs.toList.drop (n+4):=fun n=>by
   have:=List.take_append_drop 4 (cs.toList.drop n)
   rw[List.drop_drop] at this
   exact this.symm
  have hall:cs.toList=Lg.opsC:=by
   have e0:=e 0
   rw[e 4,e 8,e 12,e 16,e 20,e 24,q0,q1,q2,q3,q4,q5,q6,List.drop_of_length_le (by omega:cs.toList.length≤24+4),List.drop_zero] at e0
   rw[e0]
   rfl
  rw[World.var?_cell gOps hv j,← hall]
  simp
theorem ops_of {W:World} (h:laidMet Tryz.prog [("errand/lang.ops",Rows.laid_errand_lang_ops)] W):∀ j (hj:j < 28),W.cell? ⟨16,j,none⟩=some (Lg.opsC[j]'hj):=fun j hj=>by
 rw[ops_at h j]
 exact List.getElem?_eq_getElem hj
open Go.ChangeShapes Go.WideShapes Go.RowKit
def txt:DataW Unit→List UInt8
 | .iface _ (.ptr (.agg [.lit (.string b)]))=>b
 | _=>[]
def nine {α:Type} (a1 a2 a3 a4 a5 a6 a7 a8 a9:α):Nat→α
 | 1=>a1 | 2=>a2 | 3=>a3 | 4=>a4 | 5=>a5 | 6=>a6 | 7=>a7 | 8=>a8 | _=>a9
def text9:Nat→List UInt8:=nine (txt Rows.laid_errand_lang_ErrLong) (txt Rows.laid_errand_lang_ErrText) (txt Rows.laid_errand_lang_ErrNest) (txt Rows.laid_errand_lang_ErrCount) (txt Rows.laid_errand_lang_ErrName) (txt Rows.laid_errand_lang_ErrType) (txt Rows.laid_errand_machine_ErrCode) (txt Rows.laid_errand_journal_ErrFull) (txt Rows.laid_errand_journal_ErrOther)
theorem text9_all:((List.range 10).all fun i=>(List.range 10).all fun j=>i == 0 || (j == 0 || (i == j || text9 i != text9 j)))=true:=by decide +kernel
theorem text9_ne {i j:Nat} (h1:1≤i) (h2:i≤9) (h3:1≤j) (h4:j≤9) (h:i≠j):text9 i≠text9 j:=by
 have:=List.all_eq_true.1 (List.all_eq_true.1 text9_all i (List.mem_range.2 (by omega))) j (List.mem_range.2 (by omega))
 simp only[Bool.or_eq_true,beq_iff_eq,bne_iff_ne] at this
 rcases this with h | h | h | h
 ·omega
 ·omega
 ·omega
 ·exact h
theorem lo_of {W:World} (h:W.ShapedOpen Tryz.prog):20≤W.heap.size:=by
 obtain ⟨h1,_⟩:=h
 have e:(((begin Tryz.prog (fun _ _=>0) default).world.heap[20 - 1]?).bind Obj.row?).isSome=true:=by kernel_rfl
 obtain ⟨⟨z,t⟩,hz⟩:=Option.isSome_iff_exists.1 e
 have eG:Tryz.prog.globals.size=20:=by kernel_rfl
 have hG:20 - 1 < Tryz.prog.globals.size:=by rw[eG];decide
 obtain ⟨cs,hc,_⟩:=h1 (20 - 1) z t hG hz
 have:=(Array.getElem?_eq_some_iff.1 hc).1
 omega
structure One (W:World) (g:Nat) (a:Addr) (b:List UInt8):Prop where
 v:W.cell? ⟨g,0,none⟩=some (.iface 357 (.pointer (some a)))
 s:∃ s:ByteArray,W.cell? a=some (.string s)∧s.data.toList=b
 k:∃ c t,W.heap[a.block]?=some (.cells c t (0,0))
theorem one_of {W:World} {l:List (String×DataW Unit)} {n:String} {b:List UInt8} {g:Nat} (h:laidMet Tryz.prog l W) (hm:(n,.iface "*errors.errorString" (.ptr (.agg [.lit (.string b)])))∈l)
  (hg:Tryz.prog.globalNamed n=some g) (hy:(Tryz.prog.globals[g]?).map (·.type)=some 56):∃ a,One W g a b:=by
 obtain ⟨a,s,c,t,h1,h2,h3,h4⟩:=laid_one h hm hg hy Tryz.underlying56 rowE Tryz.underlying357 Tryz.underlying402 rfl rfl Tryz.underlying9 cErr cStr
 exact ⟨a,h1,⟨s,h2,h3⟩,c,t,h4⟩
theorem One.ne {W:World} {g g':Nat} {a a':Addr} {b b':List UInt8} (h:One W g a b) (h':One W g' a' b') (hb:b≠b'):a≠a':=by
 rintro rfl
 obtain ⟨s,h1,rfl⟩:=h.s
 obtain ⟨s',h2,rfl⟩:=h'.s
 rw[h1] at h2
 cases h2
 exact hb rfl
set_option maxRecDepth 100000 in
theorem gw_of_list {W:World} {l:List (String×DataW Unit)} (hlo:20≤W.heap.size) (h:laidMet Tryz.prog l W)
  (m1:("errand/lang.ErrLong",Rows.laid_errand_lang_ErrLong)∈l) (m2:("errand/lang.ErrText",Rows.laid_errand_lang_ErrText)∈l) (m3:("errand/lang.ErrNest",Rows.laid_errand_lang_ErrNest)∈l) (m4:("errand/lang.ErrCount",Rows.laid_errand_lang_ErrCount)∈l) (m5:("errand/lang.ErrName",Rows.laid_errand_lang_ErrName)∈l) (m6:("errand/lang.ErrType",Rows.laid_errand_lang_ErrType)∈l) (m7:("errand/machine.ErrCode",Rows.laid_errand_machine_ErrCode)∈l) (m8:("errand/journal.ErrFull",Rows.laid_errand_journal_ErrFull)∈l) (m9:("errand/journal.ErrOther",Rows.laid_errand_journal_ErrOther)∈l) (mo:("errand/lang.ops",Rows.laid_errand_lang_ops)∈l)
  (hh:handlesMet Tryz.prog [("errors.errorType",Rows.laid_errors_errorType)] W):∃ E,Lg.Gw W E:=by
 obtain ⟨a1,o1⟩:=one_of h m1 g1 y1
 obtain ⟨a2,o2⟩:=one_of h m2 g2 y2
 obtain ⟨a3,o3⟩:=one_of h m3 g3 y3
 obtain ⟨a4,o4⟩:=one_of h m4 g4 y4
 obtain ⟨a5,o5⟩:=one_of h m5 g5 y5
 obtain ⟨a6,o6⟩:=one_of h m6 g6 y6
 obtain ⟨a7,o7⟩:=one_of h m7 g7 y7
 obtain ⟨a8,o8⟩:=one_of h m8 g8 y8
 obtain ⟨a9,o9⟩:=one_of h m9 g9 y9
 have hT:∀ i,1≤i→i≤9→∃ g,One W g (nine a1 a2 a3 a4 a5 a6 a7 a8 a9 i) (text9 i):=fun i h1 h2=>by
  have hi:i=1∨i=2∨i=3∨i=4∨i=5∨i=6∨i=7∨i=8∨i=9:=by omega
  rcases hi with rfl | rfl | rfl | rfl | rfl | rfl | rfl | rfl | rfl
  ·exact ⟨_,o1⟩
  ·exact ⟨_,o2⟩
  ·exact ⟨_,o3⟩
  ·exact ⟨_,o4⟩
  ·exact ⟨_,o5⟩
  ·exact ⟨_,o6⟩
  ·exact ⟨_,o7⟩
  ·exact ⟨_,o8⟩
  ·exact ⟨_,o9⟩
 refine ⟨nine a1 a2 a3 a4 a5 a6 a7 a8 a9,⟨o1.v,o2.v,o3.v,o4.v,o5.v,o6.v,o7.v,o8.v,o9.v,fun i h1 h2=>?_,fun i j h1 h2 h3 h4 hne=>?_,handle_of hh⟩,ops_of (laid_pick h mo),hlo⟩
 ·obtain ⟨g,o⟩:=hT i h1 h2
  exact o.k
 ·obtain ⟨g,o⟩:=hT i h1 h2
  obtain ⟨g',o'⟩:=hT j h3 h4
  exact o.ne o' (text9_ne h1 h2 h3 h4 hne)
abbrev smallL:List (String×DataW Unit):=[("errand/lang.ErrLong",Rows.laid_errand_lang_ErrLong),("errand/lang.ErrText",Rows.laid_errand_lang_ErrText),("errand/lang.ErrNest",Rows.laid_errand_lang_ErrNest),("errand/lang.ErrCount",Rows.laid_errand_lang_ErrCount),("errand/lang.ErrName",Rows.laid_errand_lang_ErrName),("errand/lang.ErrType",Rows.laid_errand_lang_ErrType),("errand/lang.ops",Rows.laid_errand_lang_ops),("errand/machine.ErrCode",Rows.laid_errand_machine_ErrCode),("errand/journal.ErrOther",Rows.laid_errand_journal_ErrOther),("errand/journal.ErrFull",Rows.laid_errand_journal_ErrFull)]
theorem gw_small {W:World} (hs:W.ShapedOpen Tryz.prog) (h:laidMet Tryz.prog smallL W) (hh:handlesMet Tryz.prog [("errors.errorType",Rows.laid_errors_errorType)] W):∃ E,Lg.Gw W E:=by
 refine gw_of_list (lo_of hs) h ?_ ?_ ?_ ?_ ?_ ?_ ?_ ?_ ?_ ?_ hh<;>simp only[List.mem_cons,true_or,or_true]
open Go.ChangeShapes Go.WideShapes Go.ChangeAt Go.RowKit
theorem own:ownKnob Tryz.prog.godebug=none:=by kernel_rfl
def lay (w:World) (g:Nat) (cs:Array Value):World:={ w with heap:=w.heap.modify g fun
 | .cells _ t frozen=>.cells cs t frozen
 | o=>o }
def low (P:Program):Nat:=(World.holding P default ⟨#[],#[],[]⟩).heap.size
def errB (b:List UInt8):Obj:=.cells #[.string ⟨b.toArray⟩] 402
def errV (P:Program) (i:Nat):Array Value:=#[.iface 357 (.pointer (some ⟨low P+i,0,none⟩))]
def errBs:Array Obj:=#[errB (txt Rows.laid_errand_lang_ErrLong),errB (txt Rows.laid_errand_lang_ErrText),errB (txt Rows.laid_errand_lang_ErrNest),errB (txt Rows.laid_errand_lang_ErrCount),errB (txt Rows.laid_errand_lang_ErrName),errB (txt Rows.laid_errand_lang_ErrType),errB (txt Rows.laid_errand_machine_ErrCode),errB (txt Rows.laid_errand_journal_ErrFull),errB (txt Rows.laid_errand_journal_ErrOther),errB (txt Rows.laid_errand_machine_errFails),errB (txt Rows.laid_errand_machine_errWaits),errB (txt Rows.laid_errand_machine_errAgain),errB (txt Rows.laid_errand_machine_errStuck)]
def laidWorld (P:Program) (os:Os):World :=
 let w:=World.holding P os ⟨errBs,#[],[]⟩
 let w:=lay w 0 (errV P 0)
 let w:=lay w 1 (errV P 1)
 let w:=lay w 3 (errV P 2)
 let w:=lay w 4 (errV P 3)
 let w:=lay w 5 (errV P 4)
 let w:=lay w 6 (errV P 5)
 let w:=lay w 7 (errV P 6)
 let w:=lay w 8 (errV P 7)
 let w:=lay w 9 (errV P 8)
 let w:=lay w 10 (errV P 9)
 let w:=lay w 12 (errV P 10)
 let w:=lay w 14 (errV P 11)
 let w:=lay w 11 (errV P 12)
 let w:=lay w 13 #[.int .i64 4,.int .i64 5,.int .i64 6,.int .i64 7,.int .i64 8,.int .i64 9,.int .i64 10]
 let w:=lay w 16 Lg.opsC.toArray
 lay w 2 #[.iface 232 (.agg #[.pointer (some ⟨20,56,none⟩)])]
end Law
open Go.RowKit
namespace Ref
theorem cells11 {w:World} {k:Nat} {a b c d e f g h i j l:Value} {t:TypeId} (hh:w.heap[k]?=some (.cells #[a,b,c,d,e,f,g,h,i,j,l] t)) :
  w.cell? ⟨k,0,none⟩=some a∧w.cell? ⟨k,1,none⟩=some b∧w.cell? ⟨k,2,none⟩=some c∧w.cell? ⟨k,3,none⟩=some d∧w.cell? ⟨k,4,none⟩=some e∧w.cell? ⟨k,5,none⟩=some f∧w.cell? ⟨k,6,none⟩=some g∧w.cell? ⟨k,7,none⟩=some h∧w.cell? ⟨k,8,none⟩=some i∧w.cell? ⟨k,9,none⟩=some j∧w.cell? ⟨k,10,none⟩=some l∧∀ o,w.frozen? ⟨k,o,none⟩=false:=by
 refine ⟨?_,?_,?_,?_,?_,?_,?_,?_,?_,?_,?_,?_⟩<;>simp[World.cell?,World.frozen?,hh]
structure Mk (b:Nat) (s:ByteArray) (w0:World) (q:Nat) (R:Except Nat (Px.Sm×Px.Ps)) (N:Int) (w:World):Prop where
 kp:Kp b w0 w
 cells:∃ (y:Px.Sm) (ve:Option Addr) (a1:Option Addr) (n1 c1:Nat) (a2:Option Addr) (n2 c2:Nat),w.heap[q]?=some (.cells (smCells y (.pointer ve) (.slice a1 n1 c1) (.slice a2 n2 c2)) 181) ∧
  ∀ x st,R=.ok (x,st)→y=x∧st.nest=N∧(∃ q1 q2,ExO w x.ex (fun k=>In w0 w k∧k≠q) (.pointer ve)∧SlAt w (.slice a1 n1 c1) q1 (fun k=>In w0 w k∧k≠q)∧SmsAt w x.one (fun k=>In w0 w k∧k≠q) q1∧SlAt w (.slice a2 n2 c2) q2 (fun k=>In w0 w k∧k≠q)∧SmsAt w x.two (fun k=>In w0 w k∧k≠q) q2)
 pen:PSt w b s (R.map Prod.snd)
theorem Mk.on {b:Nat} {s:ByteArray} {w0 w w1:World} {q:Nat} {R R':Except Nat (Px.Sm×Px.Ps)} {N:Int} (h:Mk b s w0 q R N w) (hb:b < w0.heap.size) (hq:w0.heap.size≤q) (k:Kp b w w1) (hp:PSt w1 b s (R'.map Prod.snd)) (hR:∀ x st',R'=.ok (x,st')→st'.nest=N∧∃ st,R=.ok (x,st)):Mk b s w0 q R' N w1:=by
 obtain ⟨y,ve,a1,n1,c1,a2,n2,c2,h1,h2⟩:=h.cells
 refine ⟨h.kp.trans k,⟨y,ve,a1,n1,c1,a2,n2,c2,Kp.heap k h1 (by omega),fun x st' hx=>?_⟩,hp⟩
 obtain ⟨hn,st,hs⟩:=hR x st' hx
 obtain ⟨e1,e2,q1,q2,e3,e4,e5,e6,e7⟩:=h2 x st hs
 have z:=k.size
 have hk:∀ i,In w0 w i∧i≠q→w1.heap[i]?=w.heap[i]?:=fun i hi=>k.block i hi.1.2 (by have:=hi.1.1;omega)
 have hm:∀ i,In w0 w i∧i≠q→In w0 w1 i∧i≠q:=fun i hi=>⟨⟨hi.1.1,by have:=hi.1.2;omega⟩,hi.2⟩
 exact ⟨e1,hn,q1,q2,(e3.keep hk).mono hm,(e4.keep hk).mono hm,(e5.keep hk).mono hm,(e6.keep hk).mono hm,(e7.keep hk).mono hm⟩
theorem Mk.store {b:Nat} {s:ByteArray} {w0 w W:World} {q:Nat} {R R':Except Nat (Px.Sm×Px.Ps)} {N:Int} (φ:Px.Sm→Px.Sm) (hφ:∀ y,(φ y).ex=y.ex∧(φ y).one=y.one∧(φ y).two=y.two) (h:Mk b s w0 q R N w) (k:Kp b w0 W) (hz:w.heap.size≤W.heap.size) (hO:∀ i,i < w.heap.size→i≠q→W.heap[i]?=w.heap[i]?)
  (hQ:∀ y ve v1 v2,w.heap[q]?=some (.cells (smCells y ve v1 v2) 181)→W.heap[q]?=some (.cells (smCells (φ y) ve v1 v2) 181)) (hp:PSt W b s (R'.map Prod.snd)) (hR:∀ x' st',R'=.ok (x',st')→st'.nest=N∧∃ x st,R=.ok (x,st)∧x'=φ x):Mk b s w0 q R' N W:=by
 obtain ⟨y,ve,a1,n1,c1,a2,n2,c2,h1,h2⟩:=h.cells
 refine ⟨k,⟨φ y,ve,a1,n1,c1,a2,n2,c2,hQ _ _ _ _ h1,fun x' st' hx=>?_⟩,hp⟩
 obtain ⟨hn,x,st,hs,rfl⟩:=hR x' st' hx
 obtain ⟨e1,e2,q1,q2,e3,e4,e5,e6,e7⟩:=h2 x st hs
 obtain ⟨f1,f2,f3⟩:=hφ x
 have hk:∀ i,In w0 w i∧i≠q→W.heap[i]?=w.heap[i]?:=fun i hi=>hO i hi.1.2 hi.2
 have hm:∀ i,In w0 w i∧i≠q→In w0 W i∧i≠q:=fun i hi=>⟨⟨hi.1.1,by have:=hi.1.2;omega⟩,hi.2⟩
 subst e1
 rw[f1,f2,f3]
 exact ⟨rfl,hn,q1,q2,(e3.keep hk).mono hm,(e4.keep hk).mono hm,(e5.keep hk).mono hm,(e6.keep hk).mono hm,(e7.keep hk).mono hm⟩
def thenR (R:Except Nat (Px.Sm×Px.Ps)) (f:Px.Sm→Px.Ps→Except Nat (Px.Sm×Px.Ps)):Except Nat (Px.Sm×Px.Ps) :=
 match R with
 | .ok (x,st)=>f x st
 | .error p=>.error p
def callHead (s:ByteArray) (st:Px.Ps):Except Nat (Px.Sm×Px.Ps) :=
 match Px.kind s 119 st with
 | .ok st1=>.ok ({ Px.zeroS with op:=99,word:=Px.txt s st.t,pl:=st.t.a,n:=1 },st1)
 | .error p=>.error p
def needX (s x:ByteArray) (y:Px.Sm) (st:Px.Ps):Except Nat (Px.Sm×Px.Ps) :=
 match Px.need s x st with
 | .ok st1=>.ok (y,st1)
 | .error p=>.error p
theorem call_eq (s:ByteArray) (st:Px.Ps):Px.call s st=thenR (thenR (thenR (thenR (thenR (thenR (thenR (callHead s st) (needX s ⟨#[40]⟩)) (Px.callArg s)) (needX s ⟨#[41]⟩)) (Px.callAs s)) (Px.callUndo s)) (Px.callTries s)) (needX s ⟨#[59]⟩):=by
 unfold Px.call callHead
 cases Px.kind s 119 st with
 | error p=>rfl
 | ok st1 =>
  simp only[thenR,needX]
  cases Px.need s ⟨#[40]⟩ st1 with
  | error p=>rfl
  | ok st2 =>
   simp only
   cases Px.callArg s { Px.zeroS with op:=99,word:=Px.txt s st.t,pl:=st.t.a,n:=1 } st2 with
   | error p=>rfl
   | ok r =>
    obtain ⟨x3,st3⟩:=r
    simp only
    cases Px.need s ⟨#[41]⟩ st3 with
    | error p=>rfl
    | ok st4 =>
     simp only
     cases Px.callAs s x3 st4 with
     | error p=>rfl
     | ok r =>
      obtain ⟨x5,st5⟩:=r
      simp only
      cases Px.callUndo s x5 st5 with
      | error p=>rfl
      | ok r =>
       obtain ⟨x6,st6⟩:=r
       simp only
       cases Px.callTries s x6 st6 with
       | error p=>rfl
       | ok r =>
        obtain ⟨x7,st7⟩:=r
        simp only
        cases Px.need s ⟨#[59]⟩ st7<;>rfl
def kindX (s:ByteArray) (k:Nat) (y:Px.Sm) (st:Px.Ps):Except Nat (Px.Sm×Px.Ps) :=
 match Px.kind s k st with
 | .ok st1=>.ok (y,st1)
 | .error p=>.error p
def gotX (s x:ByteArray) (y:Px.Sm) (st:Px.Ps):Except Nat (Px.Sm×Px.Ps):=.ok (y,if Px.onB s st.t x then Px.nx s st else st)
theorem pst_kind {w:World} {b:Nat} {s:ByteArray} {k:Nat} {R:Except Nat (Px.Sm×Px.Ps)} (h:PSt w b s ((R.map Prod.snd).bind (Px.kind s k))):PSt w b s ((thenR R (kindX s k)).map Prod.snd):=by
 cases R with
 | error p=>exact h
 | ok r =>
  obtain ⟨x,st⟩:=r
  have h':PSt w b s (Px.kind s k st):=h
  unfold thenR kindX
  simp only
  cases hk:Px.kind s k st<;>rw[hk] at h'<;>exact h'
theorem pst_need {w:World} {b:Nat} {s x:ByteArray} {R:Except Nat (Px.Sm×Px.Ps)} (h:PSt w b s ((R.map Prod.snd).bind (Px.need s x))):PSt w b s ((thenR R (needX s x)).map Prod.snd):=by
 cases R with
 | error p=>exact h
 | ok r =>
  obtain ⟨y,st⟩:=r
  have h':PSt w b s (Px.need s x st):=h
  unfold thenR needX
  simp only
  cases hk:Px.need s x st<;>rw[hk] at h'<;>exact h'
theorem pst_got {w:World} {b:Nat} {s x:ByteArray} {R:Except Nat (Px.Sm×Px.Ps)} (h:PSt w b s (gotR s (R.map Prod.snd) x)):PSt w b s ((thenR R (gotX s x)).map Prod.snd):=by
 cases R with
 | error p=>exact h
 | ok r =>
  obtain ⟨y,st⟩:=r
  have h':PSt w b s (if Px.onB s st.t x then .ok (Px.nx s st) else .ok st):=h
  unfold thenR gotX
  simp only
  cases hk:Px.onB s st.t x<;>simp[hk] at h'<;>exact h'
theorem kindX_ok {s:ByteArray} {k:Nat} {R:Except Nat (Px.Sm×Px.Ps)} {x:Px.Sm} {st':Px.Ps} (h:thenR R (kindX s k)=.ok (x,st')):∃ st,R=.ok (x,st)∧st.t.k=k∧st'=Px.nx s st:=by
 cases R with
 | error p=>cases h
 | ok r =>
  obtain ⟨y,st⟩:=r
  unfold thenR kindX Px.kind at h
  simp only at h
  by_cases hk:st.t.k=k
  ·rw[if_pos hk] at h;cases h;exact ⟨st,rfl,hk,rfl⟩
  ·rw[if_neg hk] at h;cases h
theorem needX_ok {s z:ByteArray} {R:Except Nat (Px.Sm×Px.Ps)} {x:Px.Sm} {st':Px.Ps} (h:thenR R (needX s z)=.ok (x,st')):∃ st,R=.ok (x,st)∧Px.onB s st.t z=true∧st'=Px.nx s st:=by
 cases R with
 | error p=>cases h
 | ok r =>
  obtain ⟨y,st⟩:=r
  unfold thenR needX Px.need at h
  simp only at h
  by_cases hk:Px.onB s st.t z=true
  ·rw[if_pos hk] at h;cases h;exact ⟨st,rfl,hk,rfl⟩
  ·rw[if_neg hk] at h;cases h
theorem gotX_ok {s z:ByteArray} {R:Except Nat (Px.Sm×Px.Ps)} {x:Px.Sm} {st':Px.Ps} (h:thenR R (gotX s z)=.ok (x,st')):∃ st,R=.ok (x,st)∧st'=if Px.onB s st.t z then Px.nx s st else st:=by
 cases R with
 | error p=>cases h
 | ok r =>
  obtain ⟨y,st⟩:=r
  unfold thenR gotX at h
  simp only at h
  cases h
  exact ⟨st,rfl,rfl⟩
theorem Mk.nest {b:Nat} {s:ByteArray} {w0 w:World} {q:Nat} {R:Except Nat (Px.Sm×Px.Ps)} {N:Int} (h:Mk b s w0 q R N w) {x:Px.Sm} {st:Px.Ps} (e:R=.ok (x,st)):st.nest=N:=by
 obtain ⟨y,ve,a1,n1,c1,a2,n2,c2,h1,h2⟩:=h.cells
 exact (h2 x st e).2.1
theorem Mk.tk {b:Nat} {s:ByteArray} {w0 w:World} {q:Nat} {R:Except Nat (Px.Sm×Px.Ps)} {N:Int} (h:Mk b s w0 q R N w) {x:Px.Sm} {st:Px.Ps} (e:R=.ok (x,st)):Px.Tk s st.t:=by
 have:=h.pen
 rw[e] at this
 exact this.2
theorem Mk.need {b:Nat} {s z:ByteArray} {w0 w w1:World} {q:Nat} {R:Except Nat (Px.Sm×Px.Ps)} {N:Int} (h:Mk b s w0 q R N w) (hb:b < w0.heap.size) (hq:w0.heap.size≤q) (k:Kp b w w1) (hp:PSt w1 b s ((R.map Prod.snd).bind (Px.need s z))):Mk b s w0 q (thenR R (needX s z)) N w1 :=
 h.on hb hq k (pst_need hp) fun x st' hx=>by
  obtain ⟨st,h1,h2,rfl⟩:=needX_ok hx
  exact ⟨(h.nest h1:st.nest=N),st,h1⟩
theorem Mk.kind {b:Nat} {s:ByteArray} {z:Nat} {w0 w w1:World} {q:Nat} {R:Except Nat (Px.Sm×Px.Ps)} {N:Int} (h:Mk b s w0 q R N w) (hb:b < w0.heap.size) (hq:w0.heap.size≤q) (k:Kp b w w1) (hp:PSt w1 b s ((R.map Prod.snd).bind (Px.kind s z))):Mk b s w0 q (thenR R (kindX s z)) N w1 :=
 h.on hb hq k (pst_kind hp) fun x st' hx=>by
  obtain ⟨st,h1,h2,rfl⟩:=kindX_ok hx
  exact ⟨(h.nest h1:st.nest=N),st,h1⟩
theorem Mk.got {b:Nat} {s z:ByteArray} {w0 w w1:World} {q:Nat} {R:Except Nat (Px.Sm×Px.Ps)} {N:Int} (h:Mk b s w0 q R N w) (hb:b < w0.heap.size) (hq:w0.heap.size≤q) (k:Kp b w w1) (hp:PSt w1 b s (gotR s (R.map Prod.snd) z)):Mk b s w0 q (thenR R (gotX s z)) N w1 :=
 h.on hb hq k (pst_got hp) fun x st' hx=>by
  obtain ⟨st,h1,rfl⟩:=gotX_ok hx
  refine ⟨?_,st,h1⟩
  split
  ·exact (h.nest h1:st.nest=N)
  ·exact h.nest h1
def exX (s:ByteArray) (y:Px.Sm) (st:Px.Ps):Except Nat (Px.Sm×Px.Ps) :=
 match Px.exprOf s st with
 | .ok (e,st')=>.ok ({ y with ex:=some e },st')
 | .error p=>.error p
theorem Mk.expr {b:Nat} {s:ByteArray} {w0 w w1:World} {q q1:Nat} {R:Except Nat (Px.Sm×Px.Ps)} {N:Int} (h:Mk b s w0 q R N w) (hb:b < w0.heap.size) (hq:w0.heap.size≤q) (hp:ExPost b s w ((R.map Prod.snd).bind (Px.exprOf s)) (.returned (.pointer (some ⟨q1,0,none⟩))) w1):Mk b s w0 q (thenR R (exX s)) N (w1.setCell ⟨q,3,none⟩ (.pointer (some ⟨q1,0,none⟩))):=by
 obtain ⟨k,q1',he,h3⟩:=hp
 obtain rfl:q1=q1':=by simpa using he
 obtain ⟨y,ve,a1,n1,c1,a2,n2,c2,h1,h2⟩:=h.cells
 have hqw:q < w.heap.size:=(Array.getElem?_eq_some_iff.1 h1).1
 have z:=k.size
 have hc:(w1.setCell ⟨q,3,none⟩ (.pointer (some ⟨q1,0,none⟩))).heap[q]?=some (.cells (smCells y (.pointer (some ⟨q1,0,none⟩)) (.slice a1 n1 c1) (.slice a2 n2 c2)) 181):=by
  rw[heap_set _ (Kp.heap k h1 (by omega))];simp[smCells]
 have hkp:Kp b w0 (w1.setCell ⟨q,3,none⟩ (.pointer (some ⟨q1,0,none⟩))):=(h.kp.trans k).setN hq _
 have hbq:b≠q:=by omega
 cases R with
 | error p =>
  exact ⟨hkp,⟨y,_,a1,n1,c1,a2,n2,c2,hc,fun x st hx=>by cases hx⟩,PSt.setN (r:=.error p) h3.2.2 hbq _⟩
 | ok r =>
  obtain ⟨x,st⟩:=r
  obtain ⟨e1,e2,r1,r2,e3,e4,e5,e6,e7⟩:=h2 x st rfl
  subst e1
  have h3':match Px.exprOf s st with
   | .ok (x,st)=>ExAt w1 x (In w w1) q1∧PenAt w1 b s st.t (-1) st.nest st.deep
   | .error p=>w.heap.size≤q1∧(∃ v0 v1 v2 v3 v4 v5,w1.heap[q1]?=some (.cells #[v0,v1,v2,v3,v4,v5] 255))∧∃ t nest deep,PenAt w1 b s t ((p:Nat):Int) nest deep:=h3
  cases hr:Px.exprOf s st with
  | error p =>
   rw[hr] at h3'
   have er:thenR (.ok (y,st)) (exX s)=.error p:=by simp[thenR,exX,hr]
   rw[er]
   exact ⟨hkp,⟨y,_,a1,n1,c1,a2,n2,c2,hc,fun x st hx=>by cases hx⟩,PSt.setN (r:=.error p) h3'.2.2 hbq _⟩
  | ok r =>
   obtain ⟨e,st'⟩:=r
   rw[hr] at h3'
   have er:thenR (.ok (y,st)) (exX s)=.ok ({ y with ex:=some e },st'):=by simp[thenR,exX,hr]
   have hgo:=Px.exprOf_goes s _ _ _ (h.tk rfl) hr
   rw[er]
   have hk:∀ i,In w0 w i∧i≠q→(w1.setCell ⟨q,3,none⟩ (.pointer (some ⟨q1,0,none⟩))).heap[i]?=w.heap[i]?:=fun i hi=>by rw[heap_set_ne _ hi.2];exact k.block i hi.1.2 (by have:=hi.1.1;omega)
   have hm:∀ i,In w0 w i∧i≠q→In w0 (w1.setCell ⟨q,3,none⟩ (.pointer (some ⟨q1,0,none⟩))) i∧i≠q:=fun i hi=>⟨⟨hi.1.1,by rw[size_set];have:=hi.1.2;omega⟩,hi.2⟩
   have z0:=h.kp.size
   refine ⟨hkp,⟨{ y with ex:=some e },_,a1,n1,c1,a2,n2,c2,hc,fun x2 st2 hx=>?_⟩,PSt.setN (r:=.ok st') ⟨h3'.2,hgo.tk⟩ hbq _⟩
   cases hx
   refine ⟨rfl,hgo.nest.trans e2,r1,r2,⟨q1,rfl,?_⟩,(e4.keep hk).mono hm,(e5.keep hk).mono hm,(e6.keep hk).mono hm,(e7.keep hk).mono hm⟩
   refine (h3'.1.keep fun i hi=>heap_set_ne _ (by have:=hi.1;omega)).mono fun i hi=>⟨⟨?_,?_⟩,?_⟩
   ·have:=hi.1;omega
   ·rw[size_set];exact hi.2
   ·have:=hi.1;omega
theorem head_pen {s:ByteArray} {st:Px.Ps}:(thenR (.ok (Px.zeroS,st)) (kindX s 119)).map Prod.snd=(callHead s st).map Prod.snd:=by
 unfold thenR kindX callHead
 simp only
 cases Px.kind s 119 st<;>rfl
theorem arg_no {s:ByteArray} {R:Except Nat (Px.Sm×Px.Ps)} (h:onR s (R.map Prod.snd) ⟨#[41]⟩=true):thenR R (Px.callArg s)=R:=by
 cases R with
 | error p=>rfl
 | ok r =>
  obtain ⟨x,st⟩:=r
  have h':Px.onB s st.t ⟨#[41]⟩=true:=h
  simp[thenR,Px.callArg,h']
theorem arg_yes {s:ByteArray} {R:Except Nat (Px.Sm×Px.Ps)} (h:onR s (R.map Prod.snd) ⟨#[41]⟩=false):thenR R (Px.callArg s)=thenR R (exX s):=by
 cases R with
 | error p=>rfl
 | ok r =>
  obtain ⟨x,st⟩:=r
  have h':Px.onB s st.t ⟨#[41]⟩=false:=h
  simp[thenR,Px.callArg,h',exX]
  cases Px.exprOf s st<;>rfl
theorem on_got {s z:ByteArray} {R:Except Nat (Px.Sm×Px.Ps)} (h:onR s (R.map Prod.snd) z=true):∃ x st,R=.ok (x,st)∧Px.onB s st.t z=true∧thenR R (gotX s z)=.ok (x,Px.nx s st):=by
 cases R with
 | error p=>cases h
 | ok r =>
  obtain ⟨x,st⟩:=r
  have h':Px.onB s st.t z=true:=h
  exact ⟨x,st,rfl,h',by simp[thenR,gotX,h']⟩
theorem off_got {s z:ByteArray} {R:Except Nat (Px.Sm×Px.Ps)} (h:onR s (R.map Prod.snd) z=false):thenR R (gotX s z)=R:=by
 cases R with
 | error p=>rfl
 | ok r =>
  obtain ⟨x,st⟩:=r
  have h':Px.onB s st.t z=false:=h
  simp[thenR,gotX,h']
theorem off_as {s:ByteArray} {R:Except Nat (Px.Sm×Px.Ps)} (h:onR s (R.map Prod.snd) ⟨#[97,115]⟩=false):thenR R (Px.callAs s)=R:=by
 cases R with
 | error p=>rfl
 | ok r =>
  obtain ⟨x,st⟩:=r
  have h':Px.onB s st.t ⟨#[97,115]⟩=false:=h
  simp[thenR,Px.callAs,h']
theorem off_undo {s:ByteArray} {R:Except Nat (Px.Sm×Px.Ps)} (h:onR s (R.map Prod.snd) ⟨#[117,110,100,111]⟩=false):thenR R (Px.callUndo s)=R:=by
 cases R with
 | error p=>rfl
 | ok r =>
  obtain ⟨x,st⟩:=r
  have h':Px.onB s st.t ⟨#[117,110,100,111]⟩=false:=h
  simp[thenR,Px.callUndo,h']
theorem off_tries {s:ByteArray} {R:Except Nat (Px.Sm×Px.Ps)} (h:onR s (R.map Prod.snd) ⟨#[116,114,105,101,115]⟩=false):thenR R (Px.callTries s)=R:=by
 cases R with
 | error p=>rfl
 | ok r =>
  obtain ⟨x,st⟩:=r
  have h':Px.onB s st.t ⟨#[116,114,105,101,115]⟩=false:=h
  simp[thenR,Px.callTries,h']
theorem as_pen {s:ByteArray} {R:Except Nat (Px.Sm×Px.Ps)} (h:onR s (R.map Prod.snd) ⟨#[97,115]⟩=true):(thenR (thenR R (gotX s ⟨#[97,115]⟩)) (kindX s 119)).map Prod.snd=(thenR R (Px.callAs s)).map Prod.snd ∧
  ∀ x' st',thenR R (Px.callAs s)=.ok (x',st')→∃ x,thenR (thenR R (gotX s ⟨#[97,115]⟩)) (kindX s 119)=.ok (x,st')∧x'={ x with asw:=kindT s ((thenR R (gotX s ⟨#[97,115]⟩)).map Prod.snd) 119,asPl:=kindA ((thenR R (gotX s ⟨#[97,115]⟩)).map Prod.snd) 119 }:=by
 obtain ⟨x,st,rfl,h1,h2⟩:=on_got h
 rw[h2]
 simp only[thenR,Px.callAs,if_pos h1,kindX]
 by_cases hk:(Px.nx s st).t.k=119
 ·simp[Px.kind,hk,Except.map,kindT,kindA,Px.txt]
 ·simp[Px.kind,hk,Except.map]
theorem undo_pen {s:ByteArray} {R:Except Nat (Px.Sm×Px.Ps)} (h:onR s (R.map Prod.snd) ⟨#[117,110,100,111]⟩=true):(thenR (thenR R (gotX s ⟨#[117,110,100,111]⟩)) (kindX s 119)).map Prod.snd=(thenR R (Px.callUndo s)).map Prod.snd ∧
  ∀ x' st',thenR R (Px.callUndo s)=.ok (x',st')→∃ x,thenR (thenR R (gotX s ⟨#[117,110,100,111]⟩)) (kindX s 119)=.ok (x,st')∧x'={ x with undo:=kindT s ((thenR R (gotX s ⟨#[117,110,100,111]⟩)).map Prod.snd) 119 }:=by
 obtain ⟨x,st,rfl,h1,h2⟩:=on_got h
 rw[h2]
 simp only[thenR,Px.callUndo,if_pos h1,kindX]
 by_cases hk:(Px.nx s st).t.k=119
 ·simp[Px.kind,hk,Except.map,kindT,Px.txt]
 ·simp[Px.kind,hk,Except.map]
theorem tries_pen {s:ByteArray} {R:Except Nat (Px.Sm×Px.Ps)} (h:onR s (R.map Prod.snd) ⟨#[116,114,105,101,115]⟩=true):(thenR (thenR R (gotX s ⟨#[116,114,105,101,115]⟩)) (kindX s 110)).map Prod.snd=(thenR R (Px.callTries s)).map Prod.snd ∧
  ∀ x' st',thenR R (Px.callTries s)=.ok (x',st')→∃ x,thenR (thenR R (gotX s ⟨#[116,114,105,101,115]⟩)) (kindX s 110)=.ok (x,st')∧x'={ x with n:=Px.valOf (kindT s ((thenR R (gotX s ⟨#[116,114,105,101,115]⟩)).map Prod.snd) 110).toList,nPl:=kindA ((thenR R (gotX s ⟨#[116,114,105,101,115]⟩)).map Prod.snd) 110 }:=by
 obtain ⟨x,st,rfl,h1,h2⟩:=on_got h
 rw[h2]
 simp only[thenR,Px.callTries,if_pos h1,kindX]
 by_cases hk:(Px.nx s st).t.k=110
 ·simp[Px.kind,hk,Except.map,kindT,kindA,Px.txt]
 ·simp[Px.kind,hk,Except.map]
theorem kindT_num {w:World} {b:Nat} {s:ByteArray} {r:Except Nat Px.Ps} (h:PSt w b s r):(kindT s r 110).size≤4∧∀ j (hj:j < (kindT s r 110).size),Px.isDig (kindT s r 110)[j]=true:=by
 cases r with
 | error p=>exact ⟨Nat.zero_le _,fun j hj=>absurd hj (Nat.not_lt_zero j)⟩
 | ok st =>
  by_cases hk:st.t.k=110
  ·have e:kindT s (.ok st) 110=s.extract st.t.a st.t.b:=by simp[kindT,hk]
   have:=dig_extract h.2 hk
   simp only[e]
   exact this
  ·have e:kindT s (.ok st) 110=⟨#[]⟩:=by simp[kindT,hk]
   simp only[e]
   exact ⟨Nat.zero_le _,fun j hj=>absurd hj (Nat.not_lt_zero j)⟩
set_option maxRecDepth 100000 in
set_option maxHeartbeats 4000000 in
theorem call_ok (b:Nat) (s:ByteArray) (hs3:s.size≤300) (w0:World) (q:Nat) (hb:b < w0.heap.size) (hq:w0.heap.size≤q) (st:Px.Ps) (w:World) (hN0:0≤st.nest) (hN:st.nest+(s.size+1:Nat)≤1000000) (M:Mk b s w0 q (.ok (Px.zeroS,st)) st.nest w) :
  Calls Tryz.prog 131 #[.pointer (some ⟨b,0,none⟩),.pointer (some ⟨q,0,none⟩)] w fun e w'=>e=.returned (.tuple #[])∧Mk b s w0 q (Px.call s st) st.nest w':=by
 have hs:s.size≤maxLen:=by unfold maxLen;omega
 have HM:Hid (Mk b s w0 q (.ok (Px.zeroS,st)) st.nest w):=M
 clear M
 go_enter Tryz.func131,Tryz.ntmps131
 go_wp2_with fail
 refine (kindU b s 119 (.ok st) _ HM.out.pen hs).mono ?_
 rintro e w1 ⟨⟨kv,kx,rfl⟩,k1,p1⟩
 have m1:=HM.out.kind hb hq k1 p1
 obtain ⟨y,ve,a1,n1,c1,a2,n2,c2,hc,hcx⟩:=m1.cells
 clear hcx
 obtain ⟨d0,d1,d2,d3,d4,d5,d6,d7,d8,d9,d10,df⟩:=cells11 hc
 have hq1:q < w1.heap.size:=lt_of_cell d0
 have M1:Hid (_):=m1
 clear k1 p1 hc m1
 go_wp2_with fail
 have m2:Mk b s w0 q (callHead s st) st.nest _:=Mk.store (fun y=>{ y with op:=99,word:=kindT s (.ok st) 119,pl:=kindA (.ok st) 119,n:=1 }) (fun y=>⟨rfl,rfl,rfl⟩) M1.out
  (W:=((((w1.setCell ⟨q,0,none⟩ (.int .u8 99)).setCell ⟨q,1,none⟩ (.string (kindT s (.ok st) 119))).setCell ⟨q,2,none⟩ (.int .i64 (kindA (.ok st) 119))).setCell ⟨q,7,none⟩ (.int .i64 1)).alloc (.cells #[.int .u8 kv,.string (kindT s (.ok st) 119),.int .i64 (kindA (.ok st) 119),.int .i64 kx] 171))
  (((((M1.out.kp.setN hq _).setN hq _).setN hq _).setN hq _).alloc _) (by simp) (fun i hi hne=>by rw[Below.heap_alloc _ _ _ (by simpa [size_set] using hi),heap_set_ne _ hne,heap_set_ne _ hne,heap_set_ne _ hne,heap_set_ne _ hne])
  (fun y ve v1 v2 h=>by rw[Below.heap_alloc _ _ _ (by simpa [size_set] using hq1),heap_set _ (heap_set _ (heap_set _ (heap_set _ h)))];simp[smCells])
  ?pp ?rr
 case pp =>
  rw[← head_pen]
  exact ((((M1.out.pen.setN (by omega) _).setN (by omega) _).setN (by omega) _).setN (by omega) _).alloc _
 case rr =>
  intro x' st' hx
  unfold callHead Px.kind at hx
  by_cases hk:st.t.k=119
  ·rw[if_pos hk] at hx
   cases hx
   refine ⟨rfl,Px.zeroS,Px.nx s st,?_,?_⟩
   ·simp[thenR,kindX,Px.kind,hk]
   ·simp[kindT,kindA,hk,Px.txt]
  ·rw[if_neg hk] at hx;cases hx
 have M2:Hid (_):=m2
 clear m2 M1 d0 d1 d2 d3 d4 d5 d6 d7 d8 d9 d10 df
 refine (needU b s _ _ _ M2.out.pen hs).mono ?_
 rintro e w2 ⟨rfl,k2,p2⟩
 have M3:Hid (Mk b s w0 q (thenR (callHead s st) (needX s ⟨#[40]⟩)) st.nest w2):=M2.out.need hb hq k2 p2
 clear k2 p2 M2
 go_wp2_with fail
 refine (onU b s _ _ _ M3.out.pen).mono ?_
 rintro e w' ⟨rfl,rfl⟩
 generalize hB:onR s ((thenR (callHead s st) (needX s ⟨#[40]⟩)).map Prod.snd) ⟨#[41]⟩=B
 have HB:Hid (_):=hB
 clear hB
 go_upto_if 35 with fail
 go_cut [] (fun wc=>Hid (Mk b s w0 q (thenR (thenR (callHead s st) (needX s ⟨#[40]⟩)) (Px.callArg s)) st.nest wc))
 case first =>
  cases B
  ·go_wp2_with fail
   refine (exprU b s _ _ M3.out.pen hs ?hn).mono ?_
   case hn =>
    intro st1 h1
    cases hr:thenR (callHead s st) (needX s ⟨#[40]⟩) with
    | error p=>rw[hr] at h1;cases h1
    | ok r =>
     obtain ⟨x,st2⟩:=r
     rw[hr] at h1
     cases h1
     rw[M3.out.nest hr]
     exact ⟨hN0,hN⟩
   rintro e w3 h3
   obtain ⟨q1,he⟩:∃ q1,e=.returned (.pointer (some ⟨q1,0,none⟩)):=by obtain ⟨_,q1,he,_⟩:=h3;exact ⟨q1,he⟩
   subst he
   have m4:=M3.out.expr hb hq h3
   obtain ⟨y,ve,a1,n1,c1,a2,n2,c2,hc,hcx⟩:=M3.out.cells
   have hc3:=Kp.heap h3.1 hc (by omega)
   obtain ⟨d0,d1,d2,d3,d4,d5,d6,d7,d8,d9,d10,df⟩:=cells11 hc3
   have M4:Hid (_):=m4
   clear hc hcx hc3 m4 h3
   go_wp2_with fail
   go_meet
   case rel =>
    show Mk _ _ _ _ _ _ _
    rw[arg_yes HB.out]
    exact M4.out
  ·go_wp2_with fail
   go_meet
   case rel =>
    show Mk _ _ _ _ _ _ _
    rw[arg_no HB.out]
    exact M3.out
 case rest =>
 have M4:Hid (Mk b s w0 q (thenR (thenR (callHead s st) (needX s ⟨#[40]⟩)) (Px.callArg s)) st.nest wc):=hcut
 clear hcut M3 HB
 go_wp2_with fail
 refine (needU b s _ _ _ M4.out.pen hs).mono ?_
 rintro e w3 ⟨rfl,k3,p3⟩
 have N1:Hid (Mk b s w0 q (thenR (thenR (thenR (callHead s st) (needX s ⟨#[40]⟩)) (Px.callArg s)) (needX s ⟨#[41]⟩)) st.nest w3):=M4.out.need hb hq k3 p3
 clear k3 p3 M4
 go_wp2_with fail
 refine (gotU b s _ _ _ N1.out.pen hs).mono ?_
 rintro e w4 ⟨rfl,k4,p4⟩
 have M4:Hid (Mk b s w0 q (thenR (thenR (thenR (thenR (callHead s st) (needX s ⟨#[40]⟩)) (Px.callArg s)) (needX s ⟨#[41]⟩)) (gotX s ⟨#[97,115]⟩)) st.nest w4):=N1.out.got hb hq k4 p4
 clear k4 p4
 generalize hB:onR s (((thenR (thenR (thenR (callHead s st) (needX s ⟨#[40]⟩)) (Px.callArg s)) (needX s ⟨#[41]⟩))).map Prod.snd) ⟨#[97,115]⟩=B
 have HB:Hid (onR s (((thenR (thenR (thenR (callHead s st) (needX s ⟨#[40]⟩)) (Px.callArg s)) (needX s ⟨#[41]⟩))).map Prod.snd) ⟨#[97,115]⟩=B):=hB
 clear hB
 go_upto_if 45 with fail
 go_cut [7] (fun _ wc=>Hid (Mk b s w0 q (thenR (thenR (thenR (thenR (callHead s st) (needX s ⟨#[40]⟩)) (Px.callArg s)) (needX s ⟨#[41]⟩)) (Px.callAs s)) st.nest wc))
 case first =>
  cases B
  ·go_wp2_with fail
   go_meet
   case rel =>
    show Mk _ _ _ _ _ _ _
    have h:=M4.out
    rw[off_got HB.out] at h
    rw[off_as HB.out]
    exact h
  ·go_wp2_with fail
   generalize hr5:(thenR (thenR (thenR (thenR (callHead s st) (needX s ⟨#[40]⟩)) (Px.callArg s)) (needX s ⟨#[41]⟩)) (gotX s ⟨#[97,115]⟩)).map Prod.snd=r5 at *
   refine (kindU b s 119 r5 _ (by rw[← hr5];exact M4.out.pen) hs).mono ?_
   rintro e w5 ⟨⟨kv5,kx5,rfl⟩,k5,p5⟩
   have m5:=M4.out.kind hb hq k5 (by rw[hr5];exact p5)
   obtain ⟨y,ve,a1,n1,c1,a2,n2,c2,hc,hcx⟩:=m5.cells
   obtain ⟨d0,d1,d2,d3,d4,d5,d6,d7,d8,d9,d10,df⟩:=cells11 hc
   have hq5:q < w5.heap.size:=lt_of_cell d0
   have V5:Hid (_):=kindT_num (show PSt w4 b s r5 by rw[← hr5];exact M4.out.pen)
   have M5:Hid (Mk b s w0 q (thenR (thenR (thenR (thenR (thenR (callHead s st) (needX s ⟨#[40]⟩)) (Px.callArg s)) (needX s ⟨#[41]⟩)) (gotX s ⟨#[97,115]⟩)) (kindX s 119)) st.nest w5):=m5
   have HR5:Hid (_=r5):=hr5
   clear k5 p5 hc hcx m5 hr5
   go_wp2_with fail
   go_meet
   case rel =>
    show Mk _ _ _ _ _ _ _
    obtain ⟨pn,pr⟩:=as_pen HB.out
    rw[HR5.out] at pr
    exact Mk.store (fun y=>{ y with asw:=kindT s r5 119,asPl:=kindA r5 119 }) (fun y=>⟨rfl,rfl,rfl⟩) M5.out (W:=(((w5.setCell ⟨q,4,none⟩ (.string (kindT s r5 119))).setCell ⟨q,5,none⟩ (.int .i64 (kindA r5 119))).alloc (.cells #[.int .u8 kv5,.string (kindT s r5 119),.int .i64 (kindA r5 119),.int .i64 kx5] 171))) (((M5.out.kp.setN hq _).setN hq _).alloc _) (by simp) (fun i hi hne=>by rw[Below.heap_alloc _ _ _ (by simpa [size_set] using hi),heap_set_ne _ hne,heap_set_ne _ hne])
     (fun y ve v1 v2 h=>by rw[Below.heap_alloc _ _ _ (by simpa [size_set] using hq5),heap_set _ (heap_set _ h)];simp[smCells]) (by rw[← pn];exact ((M5.out.pen.setN (by omega) _).setN (by omega) _).alloc _)
     (fun x' st' hx=>by
      obtain ⟨x,h1,h2⟩:=pr x' st' hx
      exact ⟨M5.out.nest h1,x,st',h1,h2⟩)
 case rest =>
 have N2:Hid (Mk b s w0 q (thenR (thenR (thenR (thenR (callHead s st) (needX s ⟨#[40]⟩)) (Px.callArg s)) (needX s ⟨#[41]⟩)) (Px.callAs s)) st.nest wc):=hcut
 clear hcut M4 N1 HB
 go_wp2_with fail
 refine (gotU b s _ _ _ N2.out.pen hs).mono ?_
 rintro e w4 ⟨rfl,k4,p4⟩
 have M4:Hid (Mk b s w0 q (thenR (thenR (thenR (thenR (thenR (callHead s st) (needX s ⟨#[40]⟩)) (Px.callArg s)) (needX s ⟨#[41]⟩)) (Px.callAs s)) (gotX s ⟨#[117,110,100,111]⟩)) st.nest w4):=N2.out.got hb hq k4 p4
 clear k4 p4
 generalize hB:onR s (((thenR (thenR (thenR (thenR (callHead s st) (needX s ⟨#[40]⟩)) (Px.callArg s)) (needX s ⟨#[41]⟩)) (Px.callAs s))).map Prod.snd) ⟨#[117,110,100,111]⟩=B
 have HB:Hid (onR s (((thenR (thenR (thenR (thenR (callHead s st) (needX s ⟨#[40]⟩)) (Px.callArg s)) (needX s ⟨#[41]⟩)) (Px.callAs s))).map Prod.snd) ⟨#[117,110,100,111]⟩=B):=hB
 clear hB
 go_upto_if 60 with fail
 go_cut [9] (fun _ wc=>Hid (Mk b s w0 q (thenR (thenR (thenR (thenR (thenR (callHead s st) (needX s ⟨#[40]⟩)) (Px.callArg s)) (needX s ⟨#[41]⟩)) (Px.callAs s)) (Px.callUndo s)) st.nest wc))
 case first =>
  cases B
  ·go_wp2_with fail
   go_meet
   case rel =>
    show Mk _ _ _ _ _ _ _
    have h:=M4.out
    rw[off_got HB.out] at h
    rw[off_undo HB.out]
    exact h
  ·go_wp2_with fail
   generalize hr5:(thenR (thenR (thenR (thenR (thenR (callHead s st) (needX s ⟨#[40]⟩)) (Px.callArg s)) (needX s ⟨#[41]⟩)) (Px.callAs s)) (gotX s ⟨#[117,110,100,111]⟩)).map Prod.snd=r5 at *
   refine (kindU b s 119 r5 _ (by rw[← hr5];exact M4.out.pen) hs).mono ?_
   rintro e w5 ⟨⟨kv5,kx5,rfl⟩,k5,p5⟩
   have m5:=M4.out.kind hb hq k5 (by rw[hr5];exact p5)
   obtain ⟨y,ve,a1,n1,c1,a2,n2,c2,hc,hcx⟩:=m5.cells
   obtain ⟨d0,d1,d2,d3,d4,d5,d6,d7,d8,d9,d10,df⟩:=cells11 hc
   have hq5:q < w5.heap.size:=lt_of_cell d0
   have V5:Hid (_):=kindT_num (show PSt w4 b s r5 by rw[← hr5];exact M4.out.pen)
   have M5:Hid (Mk b s w0 q (thenR (thenR (thenR (thenR (thenR (thenR (callHead s st) (needX s ⟨#[40]⟩)) (Px.callArg s)) (needX s ⟨#[41]⟩)) (Px.callAs s)) (gotX s ⟨#[117,110,100,111]⟩)) (kindX s 119)) st.nest w5):=m5
   have HR5:Hid (_=r5):=hr5
   clear k5 p5 hc hcx m5 hr5
   go_wp2_with fail
   go_meet
   case rel =>
    show Mk _ _ _ _ _ _ _
    obtain ⟨pn,pr⟩:=undo_pen HB.out
    rw[HR5.out] at pr
    exact Mk.store (fun y=>{ y with undo:=kindT s r5 119 }) (fun y=>⟨rfl,rfl,rfl⟩) M5.out (W:=((w5.setCell ⟨q,6,none⟩ (.string (kindT s r5 119))).alloc (.cells #[.int .u8 kv5,.string (kindT s r5 119),.int .i64 (kindA r5 119),.int .i64 kx5] 171))) ((M5.out.kp.setN hq _).alloc _) (by simp) (fun i hi hne=>by rw[Below.heap_alloc _ _ _ (by simpa [size_set] using hi),heap_set_ne _ hne])
     (fun y ve v1 v2 h=>by rw[Below.heap_alloc _ _ _ (by simpa [size_set] using hq5),heap_set _ h];simp[smCells]) (by rw[← pn];exact (M5.out.pen.setN (by omega) _).alloc _)
     (fun x' st' hx=>by
      obtain ⟨x,h1,h2⟩:=pr x' st' hx
      exact ⟨M5.out.nest h1,x,st',h1,h2⟩)
 case rest =>
 have N3:Hid (Mk b s w0 q (thenR (thenR (thenR (thenR (thenR (callHead s st) (needX s ⟨#[40]⟩)) (Px.callArg s)) (needX s ⟨#[41]⟩)) (Px.callAs s)) (Px.callUndo s)) st.nest wc):=hcut
 clear hcut M4 N2 HB
 go_wp2_with fail
 refine (gotU b s _ _ _ N3.out.pen hs).mono ?_
 rintro e w4 ⟨rfl,k4,p4⟩
 have M4:Hid (Mk b s w0 q (thenR (thenR (thenR (thenR (thenR (thenR (callHead s st) (needX s ⟨#[40]⟩)) (Px.callArg s)) (needX s ⟨#[41]⟩)) (Px.callAs s)) (Px.callUndo s)) (gotX s ⟨#[116,114,105,101,115]⟩)) st.nest w4):=N3.out.got hb hq k4 p4
 clear k4 p4
 generalize hB:onR s (((thenR (thenR (thenR (thenR (thenR (callHead s st) (needX s ⟨#[40]⟩)) (Px.callArg s)) (needX s ⟨#[41]⟩)) (Px.callAs s)) (Px.callUndo s))).map Prod.snd) ⟨#[116,114,105,101,115]⟩=B
 have HB:Hid (onR s (((thenR (thenR (thenR (thenR (thenR (callHead s st) (needX s ⟨#[40]⟩)) (Px.callArg s)) (needX s ⟨#[41]⟩)) (Px.callAs s)) (Px.callUndo s))).map Prod.snd) ⟨#[116,114,105,101,115]⟩=B):=hB
 clear hB
 go_upto_if 70 with fail
 go_cut [11] (fun _ wc=>Hid (Mk b s w0 q (thenR (thenR (thenR (thenR (thenR (thenR (callHead s st) (needX s ⟨#[40]⟩)) (Px.callArg s)) (needX s ⟨#[41]⟩)) (Px.callAs s)) (Px.callUndo s)) (Px.callTries s)) st.nest wc))
 case first =>
  cases B
  ·go_wp2_with fail
   go_meet
   case rel =>
    show Mk _ _ _ _ _ _ _
    have h:=M4.out
    rw[off_got HB.out] at h
    rw[off_tries HB.out]
    exact h
  ·go_wp2_with fail
   generalize hr5:(thenR (thenR (thenR (thenR (thenR (thenR (callHead s st) (needX s ⟨#[40]⟩)) (Px.callArg s)) (needX s ⟨#[41]⟩)) (Px.callAs s)) (Px.callUndo s)) (gotX s ⟨#[116,114,105,101,115]⟩)).map Prod.snd=r5 at *
   refine (kindU b s 110 r5 _ (by rw[← hr5];exact M4.out.pen) hs).mono ?_
   rintro e w5 ⟨⟨kv5,kx5,rfl⟩,k5,p5⟩
   have m5:=M4.out.kind hb hq k5 (by rw[hr5];exact p5)
   obtain ⟨y,ve,a1,n1,c1,a2,n2,c2,hc,hcx⟩:=m5.cells
   obtain ⟨d0,d1,d2,d3,d4,d5,d6,d7,d8,d9,d10,df⟩:=cells11 hc
   have hq5:q < w5.heap.size:=lt_of_cell d0
   have V5:Hid (_):=kindT_num (show PSt w4 b s r5 by rw[← hr5];exact M4.out.pen)
   have M5:Hid (Mk b s w0 q (thenR (thenR (thenR (thenR (thenR (thenR (thenR (callHead s st) (needX s ⟨#[40]⟩)) (Px.callArg s)) (needX s ⟨#[41]⟩)) (Px.callAs s)) (Px.callUndo s)) (gotX s ⟨#[116,114,105,101,115]⟩)) (kindX s 110)) st.nest w5):=m5
   have HR5:Hid (_=r5):=hr5
   clear k5 p5 hc hcx m5 hr5
   go_wp2_with fail
   refine (value_any _ _ V5.out.1 V5.out.2).mono ?_
   rintro e w' ⟨rfl,hw⟩
   rw[hw]
   clear hw
   go_wp2_with fail
   go_meet
   case rel =>
    show Mk _ _ _ _ _ _ _
    obtain ⟨pn,pr⟩:=tries_pen HB.out
    rw[HR5.out] at pr
    exact Mk.store (fun y=>{ y with n:=Px.valOf (kindT s r5 110).toList,nPl:=kindA r5 110 }) (fun y=>⟨rfl,rfl,rfl⟩) M5.out (W:=(((w5.setCell ⟨q,7,none⟩ (.int .i64 (Px.valOf (kindT s r5 110).toList))).setCell ⟨q,8,none⟩ (.int .i64 (kindA r5 110))).alloc (.cells #[.int .u8 kv5,.string (kindT s r5 110),.int .i64 (kindA r5 110),.int .i64 kx5] 171))) (((M5.out.kp.setN hq _).setN hq _).alloc _) (by simp) (fun i hi hne=>by rw[Below.heap_alloc _ _ _ (by simpa [size_set] using hi),heap_set_ne _ hne,heap_set_ne _ hne])
     (fun y ve v1 v2 h=>by rw[Below.heap_alloc _ _ _ (by simpa [size_set] using hq5),heap_set _ (heap_set _ h)];simp[smCells]) (by rw[← pn];exact ((M5.out.pen.setN (by omega) _).setN (by omega) _).alloc _)
     (fun x' st' hx=>by
      obtain ⟨x,h1,h2⟩:=pr x' st' hx
      exact ⟨M5.out.nest h1,x,st',h1,h2⟩)
 case rest =>
 have N4:Hid (Mk b s w0 q (thenR (thenR (thenR (thenR (thenR (thenR (callHead s st) (needX s ⟨#[40]⟩)) (Px.callArg s)) (needX s ⟨#[41]⟩)) (Px.callAs s)) (Px.callUndo s)) (Px.callTries s)) st.nest wc):=hcut
 clear hcut M4 N3 HB
 go_wp2_with fail
 refine (needU b s _ _ _ N4.out.pen hs).mono ?_
 rintro e w8 ⟨rfl,k8,p8⟩
 have M8:Hid (Mk b s w0 q (thenR (thenR (thenR (thenR (thenR (thenR (thenR (callHead s st) (needX s ⟨#[40]⟩)) (Px.callArg s)) (needX s ⟨#[41]⟩)) (Px.callAs s)) (Px.callUndo s)) (Px.callTries s)) (needX s ⟨#[59]⟩)) st.nest w8):=N4.out.need hb hq k8 p8
 clear k8 p8 N4
 go_wp2_with fail
 go_end0
 rw[call_eq]
 exact ⟨rfl,M8.out⟩
open Go.RowKit
theorem Mk.post {b:Nat} {s:ByteArray} {w0 w:World} {q:Nat} {R:Except Nat (Px.Sm×Px.Ps)} {N:Int} (h:Mk b s w0 q R N w) (hq:w0.heap.size≤q):StPost b s w0 R (.returned (ptr q)) w:=by
 refine ⟨h.kp,q,rfl,?_⟩
 obtain ⟨y,ve,a1,n1,c1,a2,n2,c2,h1,h2⟩:=h.cells
 have hp:=h.pen
 have hqw:q < w.heap.size:=(Array.getElem?_eq_some_iff.1 h1).1
 cases R with
 | error p=>exact hp
 | ok r =>
  obtain ⟨x,st⟩:=r
  obtain ⟨e1,e2,q1,q2,e3,e4,e5,e6,e7⟩:=h2 x st rfl
  subst e1
  have hm:∀ i,In w0 w i∧i≠q→In w0 w i:=fun i hi=>hi.1
  exact ⟨⟨⟨hq,hqw⟩,.pointer ve,.slice a1 n1 c1,.slice a2 n2 c2,q1,q2,h1,e3.mono hm,e4.mono hm,e5.mono hm,e6.mono hm,e7.mono hm⟩,hp.1⟩
theorem Mk.startF {b:Nat} {s:ByteArray} {w:World} {st:Px.Ps} {N:Int} (hN:st.nest=N) (hp:PSt w b s (.ok st)) :
  Mk b s w w.heap.size (.ok ({ Px.zeroS with op:=102 },st)) N (w.alloc (.cells #[.int .u8 102,.string ⟨#[]⟩,.int .i64 0,.pointer none,.string ⟨#[]⟩,.int .i64 0,.string ⟨#[]⟩,.int .i64 0,.int .i64 0,.slice none 0 0,.slice none 0 0] 181)):=by
 refine ⟨(Kp.refl _ _).alloc _,⟨{ Px.zeroS with op:=102 },none,none,0,0,none,0,0,one_new (Kp.refl b _) hp.lt,fun x st' hx=>?_⟩,hp.alloc _⟩
 cases hx
 exact ⟨rfl,hN,[],[],rfl,Or.inl ⟨rfl,rfl⟩,SmsAt.nil_iff.2 rfl,Or.inl ⟨rfl,rfl⟩,SmsAt.nil_iff.2 rfl⟩
theorem Mk.start {b:Nat} {s:ByteArray} {w w1:World} {st:Px.Ps} {N:Int} (hb:b < w.heap.size) (hN:st.nest=N)
  (k:Kp b (w.alloc (.cells #[.int .u8 0,.string ⟨#[]⟩,.int .i64 0,.pointer none,.string ⟨#[]⟩,.int .i64 0,.string ⟨#[]⟩,.int .i64 0,.int .i64 0,.slice none 0 0,.slice none 0 0] 181)) w1) (hp:PSt w1 b s (.ok st)):Mk b s w w.heap.size (.ok (Px.zeroS,st)) N w1:=by
 refine ⟨k.of_alloc,⟨Px.zeroS,none,none,0,0,none,0,0,one_new k hb,fun x st' hx=>?_⟩,hp⟩
 cases hx
 exact ⟨rfl,hN,[],[],rfl,Or.inl ⟨rfl,rfl⟩,SmsAt.nil_iff.2 rfl,Or.inl ⟨rfl,rfl⟩,SmsAt.nil_iff.2 rfl⟩
def oneX (s:ByteArray) (g:Px.Ps→Except Nat (Px.Sm×Px.Ps)) (y:Px.Sm) (st:Px.Ps):Except Nat (Px.Sm×Px.Ps) :=
 match Px.block s g st with
 | .ok (l,st')=>.ok ({ y with one:=l },st')
 | .error p=>.error p
theorem Mk.one {b:Nat} {s:ByteArray} {w0 w w1:World} {q:Nat} {R:Except Nat (Px.Sm×Px.Ps)} {N:Int} {g:Px.Ps→Except Nat (Px.Sm×Px.Ps)} {va:Option Addr} {vn vc:Nat} (h:Mk b s w0 q R N w) (hg:Px.Goes s g) (hb:b < w0.heap.size) (hq:w0.heap.size≤q) (hp:BlPost b s w ((R.map Prod.snd).bind (Px.block s g)) (.returned (.slice va vn vc)) w1):Mk b s w0 q (thenR R (oneX s g)) N (w1.setCell ⟨q,9,none⟩ (.slice va vn vc)):=by
 obtain ⟨k,va',vn',vc',he,h3⟩:=hp
 obtain ⟨rfl,rfl,rfl⟩:va=va'∧vn=vn'∧vc=vc':=by simpa using he
 obtain ⟨y,ve,a1,n1,c1,a2,n2,c2,h1,h2⟩:=h.cells
 have hqw:q < w.heap.size:=(Array.getElem?_eq_some_iff.1 h1).1
 have z:=k.size
 have hc:(w1.setCell ⟨q,9,none⟩ (.slice va vn vc)).heap[q]?=some (.cells (smCells y (.pointer ve) (.slice va vn vc) (.slice a2 n2 c2)) 181):=by
  rw[heap_set _ (Kp.heap k h1 (by omega))];simp[smCells]
 have hkp:Kp b w0 (w1.setCell ⟨q,9,none⟩ (.slice va vn vc)):=(h.kp.trans k).setN hq _
 have hbq:b≠q:=by omega
 cases R with
 | error p =>
  exact ⟨hkp,⟨y,ve,va,vn,vc,a2,n2,c2,hc,fun x st hx=>by cases hx⟩,PSt.setN (r:=.error p) h3 hbq _⟩
 | ok r =>
  obtain ⟨x,st⟩:=r
  obtain ⟨e1,e2,r1,r2,e3,e4,e5,e6,e7⟩:=h2 x st rfl
  subst e1
  have h3':match Px.block s g st with
   | .ok (l,st)=>∃ qs,SlAt w1 (.slice va vn vc) qs (In w w1)∧SmsAt w1 l (In w w1) qs∧PenAt w1 b s st.t (-1) st.nest st.deep
   | .error p=>∃ t nest deep,PenAt w1 b s t ((p:Nat):Int) nest deep:=h3
  cases hr:Px.block s g st with
  | error p =>
   rw[hr] at h3'
   have er:thenR (.ok (y,st)) (oneX s g)=.error p:=by simp[thenR,oneX,hr]
   rw[er]
   exact ⟨hkp,⟨y,ve,va,vn,vc,a2,n2,c2,hc,fun x st hx=>by cases hx⟩,PSt.setN (r:=.error p) h3' hbq _⟩
  | ok r =>
   obtain ⟨e,st'⟩:=r
   rw[hr] at h3'
   obtain ⟨q',f1,f2,f3⟩:=h3'
   have er:thenR (.ok (y,st)) (oneX s g)=.ok ({ y with one:=e },st'):=by simp[thenR,oneX,hr]
   have hgo:=Px.block_goes hg _ _ _ (h.tk rfl) hr
   rw[er]
   have hk:∀ i,In w0 w i∧i≠q→(w1.setCell ⟨q,9,none⟩ (.slice va vn vc)).heap[i]?=w.heap[i]?:=fun i hi=>by rw[heap_set_ne _ hi.2];exact k.block i hi.1.2 (by have:=hi.1.1;omega)
   have hm:∀ i,In w0 w i∧i≠q→In w0 (w1.setCell ⟨q,9,none⟩ (.slice va vn vc)) i∧i≠q:=fun i hi=>⟨⟨hi.1.1,by rw[size_set];have:=hi.1.2;omega⟩,hi.2⟩
   have z0:=h.kp.size
   have hk':∀ i,In w w1 i→(w1.setCell ⟨q,9,none⟩ (.slice va vn vc)).heap[i]?=w1.heap[i]?:=fun i hi=>heap_set_ne _ (by have:=hi.1;omega)
   have hm':∀ i,In w w1 i→In w0 (w1.setCell ⟨q,9,none⟩ (.slice va vn vc)) i∧i≠q:=fun i hi=>⟨⟨by have:=hi.1;omega,by rw[size_set];exact hi.2⟩,by have:=hi.1;omega⟩
   refine ⟨hkp,⟨{ y with one:=e },ve,va,vn,vc,a2,n2,c2,hc,fun x2 st2 hx=>?_⟩,PSt.setN (r:=.ok st') ⟨f3,hgo.tk⟩ hbq _⟩
   cases hx
   exact ⟨rfl,hgo.nest.trans e2,q',r2,(e3.keep hk).mono hm,(f1.keep hk').mono hm',(f2.keep hk').mono hm',(e6.keep hk).mono hm,(e7.keep hk).mono hm⟩
def twoX (s:ByteArray) (g:Px.Ps→Except Nat (Px.Sm×Px.Ps)) (y:Px.Sm) (st:Px.Ps):Except Nat (Px.Sm×Px.Ps) :=
 match Px.block s g st with
 | .ok (l,st')=>.ok ({ y with two:=l },st')
 | .error p=>.error p
theorem Mk.two {b:Nat} {s:ByteArray} {w0 w w1:World} {q:Nat} {R:Except Nat (Px.Sm×Px.Ps)} {N:Int} {g:Px.Ps→Except Nat (Px.Sm×Px.Ps)} {va:Option Addr} {vn vc:Nat} (h:Mk b s w0 q R N w) (hg:Px.Goes s g) (hb:b < w0.heap.size) (hq:w0.heap.size≤q) (hp:BlPost b s w ((R.map Prod.snd).bind (Px.block s g)) (.returned (.slice va vn vc)) w1):Mk b s w0 q (thenR R (twoX s g)) N (w1.setCell ⟨q,10,none⟩ (.slice va vn vc)):=by
 obtain ⟨k,va',vn',vc',he,h3⟩:=hp
 obtain ⟨rfl,rfl,rfl⟩:va=va'∧vn=vn'∧vc=vc':=by simpa using he
 obtain ⟨y,ve,a1,n1,c1,a2,n2,c2,h1,h2⟩:=h.cells
 have hqw:q < w.heap.size:=(Array.getElem?_eq_some_iff.1 h1).1
 have z:=k.size
 have hc:(w1.setCell ⟨q,10,none⟩ (.slice va vn vc)).heap[q]?=some (.cells (smCells y (.pointer ve) (.slice a1 n1 c1) (.slice va vn vc)) 181):=by
  rw[heap_set _ (Kp.heap k h1 (by omega))];simp[smCells]
 have hkp:Kp b w0 (w1.setCell ⟨q,10,none⟩ (.slice va vn vc)):=(h.kp.trans k).setN hq _
 have hbq:b≠q:=by omega
 cases R with
 | error p =>
  exact ⟨hkp,⟨y,ve,a1,n1,c1,va,vn,vc,hc,fun x st hx=>by cases hx⟩,PSt.setN (r:=.error p) h3 hbq _⟩
 | ok r =>
  obtain ⟨x,st⟩:=r
  obtain ⟨e1,e2,r1,r2,e3,e4,e5,e6,e7⟩:=h2 x st rfl
  subst e1
  have h3':match Px.block s g st with
   | .ok (l,st)=>∃ qs,SlAt w1 (.slice va vn vc) qs (In w w1)∧SmsAt w1 l (In w w1) qs∧PenAt w1 b s st.t (-1) st.nest st.deep
   | .error p=>∃ t nest deep,PenAt w1 b s t ((p:Nat):Int) nest deep:=h3
  cases hr:Px.block s g st with
  | error p =>
   rw[hr] at h3'
   have er:thenR (.ok (y,st)) (twoX s g)=.error p:=by simp[thenR,twoX,hr]
   rw[er]
   exact ⟨hkp,⟨y,ve,a1,n1,c1,va,vn,vc,hc,fun x st hx=>by cases hx⟩,PSt.setN (r:=.error p) h3' hbq _⟩
  | ok r =>
   obtain ⟨e,st'⟩:=r
   rw[hr] at h3'
   obtain ⟨q',f1,f2,f3⟩:=h3'
   have er:thenR (.ok (y,st)) (twoX s g)=.ok ({ y with two:=e },st'):=by simp[thenR,twoX,hr]
   have hgo:=Px.block_goes hg _ _ _ (h.tk rfl) hr
   rw[er]
   have hk:∀ i,In w0 w i∧i≠q→(w1.setCell ⟨q,10,none⟩ (.slice va vn vc)).heap[i]?=w.heap[i]?:=fun i hi=>by rw[heap_set_ne _ hi.2];exact k.block i hi.1.2 (by have:=hi.1.1;omega)
   have hm:∀ i,In w0 w i∧i≠q→In w0 (w1.setCell ⟨q,10,none⟩ (.slice va vn vc)) i∧i≠q:=fun i hi=>⟨⟨hi.1.1,by rw[size_set];have:=hi.1.2;omega⟩,hi.2⟩
   have z0:=h.kp.size
   have hk':∀ i,In w w1 i→(w1.setCell ⟨q,10,none⟩ (.slice va vn vc)).heap[i]?=w1.heap[i]?:=fun i hi=>heap_set_ne _ (by have:=hi.1;omega)
   have hm':∀ i,In w w1 i→In w0 (w1.setCell ⟨q,10,none⟩ (.slice va vn vc)) i∧i≠q:=fun i hi=>⟨⟨by have:=hi.1;omega,by rw[size_set];exact hi.2⟩,by have:=hi.1;omega⟩
   refine ⟨hkp,⟨{ y with two:=e },ve,a1,n1,c1,va,vn,vc,hc,fun x2 st2 hx=>?_⟩,PSt.setN (r:=.ok st') ⟨f3,hgo.tk⟩ hbq _⟩
   cases hx
   exact ⟨rfl,hgo.nest.trans e2,r1,q',(e3.keep hk).mono hm,(e4.keep hk).mono hm,(e5.keep hk).mono hm,(f1.keep hk').mono hm',(f2.keep hk').mono hm'⟩
def letHead (s:ByteArray) (st:Px.Ps):Except Nat (Px.Sm×Px.Ps) :=
 match Px.kind s 119 st with
 | .ok st1=>.ok ({ Px.zeroS with op:=108,word:=Px.txt s st.t,pl:=st.t.a },st1)
 | .error p=>.error p
theorem letHead_pen {s:ByteArray} {st:Px.Ps}:(thenR (.ok (Px.zeroS,st)) (kindX s 119)).map Prod.snd=(letHead s st).map Prod.snd:=by
 unfold thenR kindX letHead
 simp only
 cases Px.kind s 119 st<;>rfl
theorem let_eq (s:ByteArray) (st:Px.Ps):Px.letS s st=thenR (thenR (thenR (letHead s st) (needX s ⟨#[61]⟩)) (exX s)) (needX s ⟨#[59]⟩):=by
 unfold Px.letS letHead
 cases Px.kind s 119 st with
 | error p=>rfl
 | ok st1 =>
  simp only[thenR,needX]
  cases Px.need s ⟨#[61]⟩ st1 with
  | error p=>rfl
  | ok st2 =>
   simp only[exX]
   cases Px.exprOf s st2 with
   | error p=>rfl
   | ok r =>
    obtain ⟨e,st3⟩:=r
    simp only
    cases Px.need s ⟨#[59]⟩ st3<;>rfl
def opS (op:Nat) (st:Px.Ps):Except Nat (Px.Sm×Px.Ps):=.ok ({ Px.zeroS with op:=op },st)
def elseX (s:ByteArray) (g:Px.Ps→Except Nat (Px.Sm×Px.Ps)) (y:Px.Sm) (st:Px.Ps):Except Nat (Px.Sm×Px.Ps) :=
 if Px.onB s st.t ⟨#[101,108,115,101]⟩ then twoX s g y (Px.nx s st) else .ok (y,st)
theorem if_eq (s:ByteArray) (g:Px.Ps→Except Nat (Px.Sm×Px.Ps)) (st:Px.Ps):Px.ifS s g st=thenR (thenR (thenR (opS 105 st) (exX s)) (oneX s g)) (elseX s g):=by
 unfold Px.ifS opS
 simp only[thenR,exX]
 cases Px.exprOf s st with
 | error p=>rfl
 | ok r =>
  obtain ⟨e,st1⟩:=r
  simp only[oneX]
  cases Px.block s g st1 with
  | error p=>rfl
  | ok r =>
   obtain ⟨l,st2⟩:=r
   simp only[elseX]
   by_cases h:Px.onB s st2.t ⟨#[101,108,115,101]⟩=true
   ·rw[if_pos h,if_pos h]
    simp only[twoX]
    cases Px.block s g (Px.nx s st2) with
    | error p=>rfl
    | ok r=>obtain ⟨m,st3⟩:=r;rfl
   ·rw[if_neg h,if_neg h]
theorem try_eq (s:ByteArray) (g:Px.Ps→Except Nat (Px.Sm×Px.Ps)) (st:Px.Ps):Px.tryS s g st=thenR (thenR (thenR (opS 116 st) (oneX s g)) (needX s ⟨#[101,108,115,101]⟩)) (twoX s g):=by
 unfold Px.tryS opS
 simp only[thenR,oneX]
 cases Px.block s g st with
 | error p=>rfl
 | ok r =>
  obtain ⟨l,st1⟩:=r
  simp only[needX]
  cases Px.need s ⟨#[101,108,115,101]⟩ st1 with
  | error p=>rfl
  | ok st2 =>
   simp only[twoX]
   cases Px.block s g st2 with
   | error p=>rfl
   | ok r=>obtain ⟨m,st3⟩:=r;rfl
def repHead (s:ByteArray) (st:Px.Ps):Except Nat (Px.Sm×Px.Ps) :=
 match Px.kind s 110 st with
 | .ok st1=>.ok ({ Px.zeroS with op:=114,n:=Px.valOf (Px.txt s st.t).toList,nPl:=st.t.a },st1)
 | .error p=>.error p
theorem repHead_pen {s:ByteArray} {st:Px.Ps}:(thenR (opS 114 st) (kindX s 110)).map Prod.snd=(repHead s st).map Prod.snd:=by
 unfold thenR kindX repHead opS
 simp only
 cases Px.kind s 110 st<;>rfl
theorem rep_eq (s:ByteArray) (g:Px.Ps→Except Nat (Px.Sm×Px.Ps)) (st:Px.Ps):Px.repeatS s g st=thenR (repHead s st) (oneX s g):=by
 unfold Px.repeatS repHead
 cases Px.kind s 110 st with
 | error p=>rfl
 | ok st1 =>
  simp only[thenR,oneX]
  cases Px.block s g st1 with
  | error p=>rfl
  | ok r=>obtain ⟨m,st3⟩:=r;rfl
theorem fail_eq (s:ByteArray) (st:Px.Ps):Px.failS s st=thenR (thenR (opS 102 st) (needX s ⟨#[102,97,105,108]⟩)) (needX s ⟨#[59]⟩):=by
 unfold Px.failS opS
 simp only[thenR,needX]
 cases Px.need s ⟨#[102,97,105,108]⟩ st with
 | error p=>rfl
 | ok st1 =>
  simp only
  cases Px.need s ⟨#[59]⟩ st1<;>rfl
theorem off_else {s:ByteArray} {g:Px.Ps→Except Nat (Px.Sm×Px.Ps)} {R:Except Nat (Px.Sm×Px.Ps)} (h:onR s (R.map Prod.snd) ⟨#[101,108,115,101]⟩=false):thenR R (elseX s g)=R:=by
 cases R with
 | error p=>rfl
 | ok r =>
  obtain ⟨x,st⟩:=r
  have h':Px.onB s st.t ⟨#[101,108,115,101]⟩=false:=h
  simp[thenR,elseX,h']
theorem on_else {s:ByteArray} {g:Px.Ps→Except Nat (Px.Sm×Px.Ps)} {R:Except Nat (Px.Sm×Px.Ps)} (h:onR s (R.map Prod.snd) ⟨#[101,108,115,101]⟩=true):thenR R (elseX s g)=thenR (thenR R (gotX s ⟨#[101,108,115,101]⟩)) (twoX s g):=by
 obtain ⟨x,st,rfl,h1,h2⟩:=on_got h
 rw[h2]
 simp[thenR,elseX,h1]
theorem Mk.op {b:Nat} {s:ByteArray} {w0 w:World} {q:Nat} {st:Px.Ps} {N:Int} (o:Nat) (h:Mk b s w0 q (.ok (Px.zeroS,st)) N w) (hb:b < w0.heap.size) (hq:w0.heap.size≤q):Mk b s w0 q (opS o st) N (w.setCell ⟨q,0,none⟩ (.int .u8 (o:Int))) :=
 h.store (fun y=>{ y with op:=o }) (fun _=>⟨rfl,rfl,rfl⟩) (h.kp.setN hq _) (by rw[size_set];exact Nat.le_refl _) (fun i _ hne=>heap_set_ne _ hne) (fun y ve v1 v2 hh=>by rw[heap_set _ hh];simp[smCells]) (PSt.setN (r:=.ok st) h.pen (by omega) _)
  (fun x' st' hx=>by cases hx;exact ⟨h.nest rfl,Px.zeroS,st,rfl,rfl⟩)
open Go.RowKit
set_option maxRecDepth 100000 in
set_option maxHeartbeats 4000000 in
theorem stmt_let (b:Nat) (s:ByteArray) (n:Nat) (hs3:s.size≤300) (st:Px.Ps) (w:World) (hD:DomS s (n+1) st) (p:PenAt w b s st.t (-1) st.nest st.deep) (ho:Px.onB s st.t ⟨#[108,101,116]⟩=true) :
  Calls Tryz.prog 68 #[.pointer (some ⟨b,0,none⟩)] w (StPost b s w (Px.letS s (Px.nx s st))):=by
 have hs:s.size≤maxLen:=by unfold maxLen;omega
 have hb:=p.lt
 have HD:Hid (DomS s (n+1) st∧PenAt w b s st.t (-1) st.nest st.deep):=⟨hD,p⟩
 have hN0:=hD.n0
 have hN:st.nest+(s.size+1:Nat)≤1000000:=by have:=hD.n1;omega
 clear hD p
 go_enter Tryz.func68,Tryz.ntmps68
 go_wp2_with fail
 refine (got_yes b s _ st.t st.nest st.deep _ (HD.out.2.alloc _) HD.out.1.tk.le hs ho).mono ?_
 rintro e w1 ⟨rfl,p1,k1⟩
 have m1:Mk b s w w.heap.size (.ok (Px.zeroS,Px.nx s st)) st.nest w1:=Mk.start hb rfl k1 ⟨p1,Px.nx_tk HD.out.1.tk⟩
 have D1:Hid (DomS s (n+1) (Px.nx s st)):=HD.out.1.good (Px.good_on HD.out.1.tk ho)
 clear p1 k1
 have M1:Hid (_):=m1
 clear m1
 go_wp2_with fail
 refine (kindU b s 119 (.ok (Px.nx s st)) _ M1.out.pen hs).mono ?_
 rintro e w2 ⟨⟨kv,kx,rfl⟩,k2,p2⟩
 have m2:=M1.out.kind hb (Nat.le_refl _) k2 p2
 obtain ⟨y,ve,a1,n1,c1,a2,n2,c2,hc,hcx⟩:=m2.cells
 obtain ⟨d0,d1,d2,d3,d4,d5,d6,d7,d8,d9,d10,df⟩:=cells11 hc
 have hq2:w.heap.size < w2.heap.size:=lt_of_cell d0
 have M2:Hid (_):=m2
 clear k2 p2 hc hcx m2 M1
 go_wp2_with fail
 have m3:Mk b s w w.heap.size (letHead s (Px.nx s st)) st.nest _:=Mk.store (fun y=>{ y with op:=108,word:=kindT s (.ok (Px.nx s st)) 119,pl:=kindA (.ok (Px.nx s st)) 119 }) (fun y=>⟨rfl,rfl,rfl⟩) M2.out
  (W:=(((w2.setCell ⟨w.heap.size,0,none⟩ (.int .u8 108)).setCell ⟨w.heap.size,1,none⟩ (.string (kindT s (.ok (Px.nx s st)) 119))).setCell ⟨w.heap.size,2,none⟩ (.int .i64 (kindA (.ok (Px.nx s st)) 119))).alloc (.cells #[.int .u8 kv,.string (kindT s (.ok (Px.nx s st)) 119),.int .i64 (kindA (.ok (Px.nx s st)) 119),.int .i64 kx] 171))
  ((((M2.out.kp.setN (Nat.le_refl _) _).setN (Nat.le_refl _) _).setN (Nat.le_refl _) _).alloc _) (by simp) (fun i hi hne=>by rw[Below.heap_alloc _ _ _ (by simpa [size_set] using hi),heap_set_ne _ hne,heap_set_ne _ hne,heap_set_ne _ hne])
  (fun y ve v1 v2 h=>by rw[Below.heap_alloc _ _ _ (by simpa [size_set] using hq2),heap_set _ (heap_set _ (heap_set _ h))];simp[smCells])
  ?pp ?rr
 case pp =>
  rw[← letHead_pen]
  exact (((M2.out.pen.setN (by omega) _).setN (by omega) _).setN (by omega) _).alloc _
 case rr =>
  intro x' st' hx
  unfold letHead Px.kind at hx
  by_cases hk:(Px.nx s st).t.k=119
  ·rw[if_pos hk] at hx
   cases hx
   refine ⟨rfl,Px.zeroS,Px.nx s (Px.nx s st),?_,?_⟩
   ·simp[thenR,kindX,Px.kind,hk]
   ·simp[kindT,kindA,hk,Px.txt]
  ·rw[if_neg hk] at hx;cases hx
 have M3:Hid (_):=m3
 clear m3 M2 d0 d1 d2 d3 d4 d5 d6 d7 d8 d9 d10 df
 refine (needU b s _ _ _ M3.out.pen hs).mono ?_
 rintro e w3 ⟨rfl,k3,p3⟩
 have M4:Hid (Mk b s w w.heap.size (thenR (letHead s (Px.nx s st)) (needX s ⟨#[61]⟩)) st.nest w3):=M3.out.need hb (Nat.le_refl _) k3 p3
 clear k3 p3 M3
 go_wp2_with fail
 refine (exprU b s _ _ M4.out.pen hs ?hn).mono ?_
 case hn =>
  intro st1 h1
  cases hr:thenR (letHead s (Px.nx s st)) (needX s ⟨#[61]⟩) with
  | error p=>rw[hr] at h1;cases h1
  | ok r =>
   obtain ⟨x,st2⟩:=r
   rw[hr] at h1
   cases h1
   rw[M4.out.nest hr]
   exact ⟨hN0,hN⟩
 rintro e w4 h4
 obtain ⟨q1,he⟩:∃ q1,e=.returned (.pointer (some ⟨q1,0,none⟩)):=by obtain ⟨_,q1,he,_⟩:=h4;exact ⟨q1,he⟩
 subst he
 have m5:=M4.out.expr hb (Nat.le_refl _) h4
 obtain ⟨y,ve,a1,n1,c1,a2,n2,c2,hc,hcx⟩:=M4.out.cells
 have hc3:=Kp.heap h4.1 hc (by omega)
 obtain ⟨d0,d1,d2,d3,d4,d5,d6,d7,d8,d9,d10,df⟩:=cells11 hc3
 have M5:Hid (_):=m5
 clear hc hcx hc3 m5 h4
 go_wp2_with fail
 refine (needU b s _ _ _ M5.out.pen hs).mono ?_
 rintro e w5 ⟨rfl,k5,p5⟩
 have M6:Hid (_):=M5.out.need hb (Nat.le_refl _) k5 p5
 clear k5 p5 M5 d0 d1 d2 d3 d4 d5 d6 d7 d8 d9 d10 df
 go_wp2_with fail
 go_ret
 rw[let_eq]
 exact M6.out.post (Nat.le_refl _)
set_option maxRecDepth 100000 in
set_option maxHeartbeats 4000000 in
theorem stmt_call (b:Nat) (s:ByteArray) (n:Nat) (hs3:s.size≤300) (st:Px.Ps) (w:World) (hD:DomS s (n+1) st) (p:PenAt w b s st.t (-1) st.nest st.deep) (h0:Px.onB s st.t ⟨#[108,101,116]⟩=false) (ho:Px.onB s st.t ⟨#[99,97,108,108]⟩=true) :
  Calls Tryz.prog 68 #[.pointer (some ⟨b,0,none⟩)] w (StPost b s w (Px.call s (Px.nx s st))):=by
 have hs:s.size≤maxLen:=by unfold maxLen;omega
 have hb:=p.lt
 have HD:Hid (DomS s (n+1) st∧PenAt w b s st.t (-1) st.nest st.deep):=⟨hD,p⟩
 have hN0:=hD.n0
 have hN:st.nest+(s.size+1:Nat)≤1000000:=by have:=hD.n1;omega
 clear hD p
 go_enter Tryz.func68,Tryz.ntmps68
 go_wp2_with fail
 refine (got_no b s _ st.t st.nest st.deep _ (HD.out.2.alloc _) h0).mono ?_
 rintro e w' ⟨rfl,hw⟩
 rw[← hw]
 clear hw
 go_wp2_with fail
 refine (got_yes b s _ st.t st.nest st.deep _ (HD.out.2.alloc _) HD.out.1.tk.le hs ho).mono ?_
 rintro e w1 ⟨rfl,p1,k1⟩
 have m1:Mk b s w w.heap.size (.ok (Px.zeroS,Px.nx s st)) st.nest w1:=Mk.start hb rfl k1 ⟨p1,Px.nx_tk HD.out.1.tk⟩
 have D1:Hid (DomS s (n+1) (Px.nx s st)):=HD.out.1.good (Px.good_on HD.out.1.tk ho)
 clear p1 k1
 have M1:Hid (_):=m1
 clear m1
 go_wp2_with fail
 refine (call_ok b s hs3 w w.heap.size hb (Nat.le_refl _) (Px.nx s st) _ hN0 hN M1.out).mono ?_
 rintro e w2 ⟨rfl,m2⟩
 have M2:Hid (_):=m2
 clear m2
 go_wp2_with fail
 go_ret
 exact M2.out.post (Nat.le_refl _)
set_option maxRecDepth 100000 in
set_option maxHeartbeats 4000000 in
theorem stmt_fail (b:Nat) (s:ByteArray) (n:Nat) (hs3:s.size≤300) (st:Px.Ps) (w:World) (hD:DomS s (n+1) st) (p:PenAt w b s st.t (-1) st.nest st.deep) (h0:Px.onB s st.t ⟨#[108,101,116]⟩=false) (h1:Px.onB s st.t ⟨#[99,97,108,108]⟩=false) (h2:Px.onB s st.t ⟨#[105,102]⟩=false) (h3:Px.onB s st.t ⟨#[116,114,121]⟩=false) (h4:Px.onB s st.t ⟨#[114,101,112,101,97,116]⟩=false) :
  Calls Tryz.prog 68 #[.pointer (some ⟨b,0,none⟩)] w (StPost b s w (Px.failS s st)):=by
 have hs:s.size≤maxLen:=by unfold maxLen;omega
 have hb:=p.lt
 have HD:Hid (DomS s (n+1) st∧PenAt w b s st.t (-1) st.nest st.deep):=⟨hD,p⟩
 have hN0:=hD.n0
 have hN:st.nest+(s.size+1:Nat)≤1000000:=by have:=hD.n1;omega
 clear hD p
 go_enter Tryz.func68,Tryz.ntmps68
 go_wp2_with fail
 refine (got_no b s _ st.t st.nest st.deep _ (HD.out.2.alloc _) h0).mono ?_
 rintro e w' ⟨rfl,hw⟩
 rw[← hw]
 clear hw
 go_wp2_with fail
 refine (got_no b s _ st.t st.nest st.deep _ (HD.out.2.alloc _) h1).mono ?_
 rintro e w' ⟨rfl,hw⟩
 rw[← hw]
 clear hw
 go_wp2_with fail
 refine (got_no b s _ st.t st.nest st.deep _ (HD.out.2.alloc _) h2).mono ?_
 rintro e w' ⟨rfl,hw⟩
 rw[← hw]
 clear hw
 go_wp2_with fail
 refine (got_no b s _ st.t st.nest st.deep _ (HD.out.2.alloc _) h3).mono ?_
 rintro e w' ⟨rfl,hw⟩
 rw[← hw]
 clear hw
 go_wp2_with fail
 refine (got_no b s _ st.t st.nest st.deep _ (HD.out.2.alloc _) h4).mono ?_
 rintro e w' ⟨rfl,hw⟩
 rw[← hw]
 clear hw
 have M1:Hid (Mk b s w w.heap.size (opS 102 st) st.nest _):=Mk.startF rfl ⟨HD.out.2,HD.out.1.tk⟩
 go_wp2_with fail
 refine (needU b s _ _ _ M1.out.pen hs).mono ?_
 rintro e w1 ⟨rfl,k1,p1⟩
 have M2:Hid (_):=M1.out.need hb (Nat.le_refl _) k1 p1
 clear k1 p1 M1
 go_wp2_with fail
 refine (needU b s _ _ _ M2.out.pen hs).mono ?_
 rintro e w2 ⟨rfl,k2,p2⟩
 have M3:Hid (_):=M2.out.need hb (Nat.le_refl _) k2 p2
 clear k2 p2 M2
 go_wp2_with fail
 go_ret
 rw[fail_eq]
 exact M3.out.post (Nat.le_refl _)
end Ref
end Go.Proofs.YtnhkpbmplefnaaaGreatDoor
