import Derived.Test.YtagpnplggopoeaaGreatDoorProg
import Derived.WalkKit
import Derived.LaidEql
import Derived.Stop.Asserts
import Derived.RowKitTokens
set_option maxRecDepth 100000
set_option maxHeartbeats 4000000
namespace Go.Proofs.YtagpnplggopoeaaGreatDoor
open Go.RowKit Go.Extern.Stop Go.Stop Go.Extern
namespace Lg
theorem qlt (v:Value) (w:World):(Extern.ReflectliteType.typeOf #[.iface 359 v]).run Tryz.prog w=.ok (.iface 147 (.agg #[.pointer (some ⟨21,359,none⟩)])) w:=by kernel_rfl
theorem qhc (w:World):((Extern.ReflectliteType.method fun t=>do Extern.Rtype.noPackHeld "Comparable" t;Functor.map (fun a=>Value.bool a.comparable) (typeInfo t)) #[.agg #[.pointer (some ⟨21,359,none⟩)]]).run Tryz.prog w=.ok (.bool true) w:=by kernel_rfl
theorem qdr (v:Value) (w:World):(Go.method 500 147 v "Comparable").run Tryz.prog w=.ok (272,v) w:=by kernel_rfl
theorem zat:(Tryz.prog.info? 359).map (·.comparable)=some true:=by kernel_rfl
theorem zas:(Tryz.prog.info? 385).map (·.size)=some 1:=by kernel_rfl
theorem zs3 (v:Value) (xT:TypeId) (w:World):(Instr.typeAssert (.iface 359 v) xT 239 true).run Tryz.prog w=.ok (.tuple #[.nilIface,.bool false]) w:=run_typeAssert_lacksB Tryz.underlying239 (by kernel_rfl) (by kernel_rfl) v xT w
theorem qli (v:Value) (xT:TypeId) (w:World):(Instr.typeAssert (.iface 359 v) xT 233 true).run Tryz.prog w=.ok (.tuple #[.nilIface,.bool false]) w:=run_typeAssert_lacksB Tryz.underlying233 (by kernel_rfl) (by kernel_rfl) v xT w
theorem qj3 (v:Value) (xT:TypeId) (w:World):(Instr.typeAssert (.iface 359 v) xT 234 true).run Tryz.prog w=.ok (.tuple #[.nilIface,.bool false]) w:=run_typeAssert_lacksB Tryz.underlying234 (by kernel_rfl) (by kernel_rfl) v xT w
theorem zwu (v:Value) (xT:TypeId) (w:World):(Instr.typeAssert (.iface 93 v) xT 239 true).run Tryz.prog w=.ok (.tuple #[.nilIface,.bool false]) w:=run_typeAssert_lacksB Tryz.underlying239 (by kernel_rfl) (by kernel_rfl) v xT w
theorem qrm (v:Value) (xT:TypeId) (w:World):(Instr.typeAssert (.iface 93 v) xT 233 true).run Tryz.prog w=.ok (.tuple #[.iface 93 v,.bool true]) w:=run_typeAssert_hasB Tryz.underlying233 (by kernel_rfl) v xT w
theorem qng (v:Value) (w:World):(Go.method 500 93 v "Unwrap").run Tryz.prog w=.ok (268,v) w:=by kernel_rfl
abbrev xh8:=@run_callFunc_extern Tryz.prog 83 _ Extern.ReflectliteType.typeOf Tryz.func83 (by kernel_rfl) (by kernel_rfl) (by kernel_rfl) (by kernel_rfl)
abbrev xh32:=@run_callFunc_extern Tryz.prog 272 _ (Extern.ReflectliteType.method fun t=>do Extern.Rtype.noPackHeld "Comparable" t;pure (.bool (← typeInfo t).comparable)) Tryz.func272 (by kernel_rfl) (by kernel_rfl) (by kernel_rfl) (by kernel_rfl)
theorem zh4 (a:Addr) (w:World) :
  Calls Tryz.prog 40 #[.iface 359 (.pointer (some a)),.iface 359 (.pointer (some a))] w fun e w'=>e=.returned (.bool true)∧w'=w:=by
 obtain ⟨i,hi,hcmp⟩:=Option.map_eq_some_iff.1 zat;obtain ⟨j,hj,hjs⟩:=Option.map_eq_some_iff.1 zas;have h8:=xh8;have h32:=xh32;have tT:=qlt;have cT:=qhc;have mR:=qdr;have heq:=run_eql_iface_ptr_same (P:=Tryz.prog) w a Tryz.underlying55 Tryz.underlying359 hi hcmp hj;go_enter Tryz.func40,Tryz.ntmps40
 go_wp2;refine wp_loop_rounds 1 ?_;rw[rounds_succ];go_wp2;go_ret;exact ⟨rfl,rfl⟩
theorem qtm (f:Nat) (b:Addr) (w:World) (h1:w.cell? ⟨f,1,none⟩=some (.iface 359 (.pointer (some b)))) :
  Calls Tryz.prog 40 #[.iface 93 (.pointer (some ⟨f,0,none⟩)),.iface 359 (.pointer (some b))] w fun e w'=>e=.returned (.bool true)∧w'=w:=by
 obtain ⟨i,hi,hcmp⟩:=Option.map_eq_some_iff.1 zat;obtain ⟨j,hj,hjs⟩:=Option.map_eq_some_iff.1 zas;have h8:=xh8;have h32:=xh32;have tT:=qlt;have cT:=qhc;have mR:=qdr;have nE:=zs3;have uE:=qli;have vE:=qj3;have nW:=zwu;have uW:=qrm;have mU:=qng;have heq:=run_eql_iface_ptr_same (P:=Tryz.prog) w b Tryz.underlying55 Tryz.underlying359 hi hcmp hj;have hty:=run_eql_iface_types (P:=Tryz.prog) 93 359 (.pointer (some ⟨f,0,none⟩)) (.pointer (some b)) Tryz.underlying55 (by decide) w
 go_enter Tryz.func40,Tryz.ntmps40
 go_wp2;refine wp_loop_rounds 2 ?_;rw[rounds_succ];go_wp2;rw[rounds_succ];go_wp2;go_ret;exact ⟨rfl,rfl⟩
theorem qqt (f:Nat) (b a:Addr) (ca cb:Array Value) (ta tb:TypeId) (w:World) (h1:w.cell? ⟨f,1,none⟩=some (.iface 359 (.pointer (some a)))) (hne:a≠b) (ha:w.heap[a.block]?=some (.cells ca ta (0,0))) (hb:w.heap[b.block]?=some (.cells cb tb (0,0))) :
  Calls Tryz.prog 40 #[.iface 93 (.pointer (some ⟨f,0,none⟩)),.iface 359 (.pointer (some b))] w fun e w'=>e=.returned (.bool false)∧w'=w:=by
 obtain ⟨i,hi,hcmp⟩:=Option.map_eq_some_iff.1 zat;obtain ⟨j,hj,hjs⟩:=Option.map_eq_some_iff.1 zas;have h8:=xh8;have h32:=xh32;have tT:=qlt;have cT:=qhc;have mR:=qdr;have nE:=zs3;have uE:=qli;have vE:=qj3;have nW:=zwu;have uW:=qrm;have mU:=qng;have heq:=run_eql_iface_ptr_other (P:=Tryz.prog) w Tryz.underlying55 Tryz.underlying359 hi hcmp hj (by rw[hjs];decide) hne ha hb
 have hty:=run_eql_iface_types (P:=Tryz.prog) 93 359 (.pointer (some ⟨f,0,none⟩)) (.pointer (some b)) Tryz.underlying55 (by decide) w
 go_enter Tryz.func40,Tryz.ntmps40
 go_wp2;refine wp_loop_rounds 2 ?_;rw[rounds_succ];go_wp2;rw[rounds_succ];go_wp2;go_ret;exact ⟨rfl,rfl⟩
open Go.RowKit Go.Extern.Stop Go.Stop Go.Extern
theorem quz (t:Addr) (w:World):(ReflectliteValue.unpack (.iface 95 (.pointer (some t)))).run Tryz.prog w
  = .ok (.agg #[.pointer (some ⟨21,95,none⟩),.pointer (some ⟨w.heap.size,0,none⟩),.int .u64 150]) (w.alloc (.cells #[.pointer (some t)] 95)):=by kernel_rfl
theorem zpu (a:Addr) (w:World):(ReflectliteValue.methodAny (ReflectliteValue.valueError "reflectlite.Value.Type" 0) (fun t _ _ _=>ReflectliteType.toType t) #[.agg #[.pointer (some ⟨21,95,none⟩),.pointer (some a),.int .u64 150]]).run Tryz.prog w
  = .ok (.iface 147 (.agg #[.pointer (some ⟨21,95,none⟩)])) w:=by kernel_rfl
theorem qrf (h:Value) (w:World):(Go.method 500 147 (.agg #[h]) "Kind").run Tryz.prog w=.ok (259,h) w:=by kernel_rfl
theorem zqj (w:World):((ReflectliteType.abiMethod fun t=>Functor.map (fun a:Nat=>Value.int IntKind.u8 (a:Int)) (Rtype.kind t)) #[.pointer (some ⟨21,95,none⟩)]).run Tryz.prog w=.ok (.int .u8 22) w:=by kernel_rfl
theorem zqk (w:World):((ReflectliteType.abiMethod fun t=>Functor.map (fun a:Nat=>Value.int IntKind.u8 (a:Int)) (Rtype.kind t)) #[.pointer (some ⟨21,93,none⟩)]).run Tryz.prog w=.ok (.int .u8 22) w:=by kernel_rfl
theorem zf4 (a:Addr) (w:World):(ReflectliteValue.parts (.agg #[.pointer (some ⟨21,95,none⟩),.pointer (some a),.int .u64 150])).run Tryz.prog w=.ok (some (95,a,150)) w:=by kernel_rfl
theorem qnf (z:Sem Value) (f:TypeId→Addr→Nat→Nat→Sem Value) (v:Value):∃ R:Option (TypeId×Addr×Nat)→Sem Value,ReflectliteValue.method z f #[v]=(ReflectliteValue.parts v >>= R)∧∀ t a fl,R (some (t,a,fl))=f t a fl (fl % 32):=⟨_,rfl,fun _ _ _=>rfl⟩
theorem zfc (v x:Value):∃ R:Option (TypeId×Addr×Nat)→Option (TypeId×Addr×Nat)→Sem Value,ReflectliteValue.set #[v,x]=(ReflectliteValue.parts v >>= fun a=>ReflectliteValue.parts x >>= fun b=>R a b) ∧
  ∀ ta b,∃ S:Value→Bool→Sem Value,R (some (93,ta,406)) (some (93,b,150))=(loadVar 93 b >>= fun val=>Rtype.directlyAssignable 93 93 >>= fun c=>S val c) ∧
   ∀ val,S val true=(storeVar 93 ta val >>= fun _=>pure (.tuple #[])):=⟨_,rfl,fun _ _=>⟨_,rfl,fun _=>rfl⟩⟩
theorem zh5 (a p:Addr) (W:World) (ha:W.cell? a=some (.pointer (some p))) :
  (ReflectliteValue.method (ReflectliteValue.valueError "reflectlite.Value.IsNil" 0) ReflectliteValue.isNil #[.agg #[.pointer (some ⟨21,95,none⟩),.pointer (some a),.int .u64 150]]).run Tryz.prog W=.ok (.bool false) W:=by
 obtain ⟨R,h1,h2⟩:=qnf (ReflectliteValue.valueError "reflectlite.Value.IsNil" 0) ReflectliteValue.isNil (.agg #[.pointer (some ⟨21,95,none⟩),.pointer (some a),.int .u64 150]);rw[h1];simp only[Sem.run_bind,zf4,Result.andThen,h2];simp[ReflectliteValue.isNil,loadVar,isAgg,underlying,Tryz.underlying95,ha,Result.andThen]
theorem qrg (h:Value) (w:World):(Go.method 500 147 (.agg #[h]) "Elem").run Tryz.prog w=.ok (273,.agg #[h]) w:=by kernel_rfl
theorem qir (h:Value) (w:World):(Go.method 500 147 (.agg #[h]) "Implements").run Tryz.prog w=.ok (274,.agg #[h]) w:=by kernel_rfl
theorem qg8 (h:Value) (w:World):(Go.method 500 147 (.agg #[h]) "AssignableTo").run Tryz.prog w=.ok (271,.agg #[h]) w:=by kernel_rfl
theorem zqt (w:World):(ReflectliteType.method ReflectliteType.elem #[.agg #[.pointer (some ⟨21,95,none⟩)]]).run Tryz.prog w=.ok (.iface 147 (.agg #[.pointer (some ⟨21,93,none⟩)])) w:=by kernel_rfl
theorem qps (w:World):(ReflectliteType.relation "Implements" ReflectliteType.implements_ #[.agg #[.pointer (some ⟨21,93,none⟩)],.iface 147 (.agg #[.pointer (some ⟨21,55,none⟩)])]).run Tryz.prog w=.ok (.bool true) w:=by kernel_rfl
theorem zra (v:Value) (w:World):(ReflectliteType.typeOf #[.iface 93 v]).run Tryz.prog w=.ok (.iface 147 (.agg #[.pointer (some ⟨21,93,none⟩)])) w:=by kernel_rfl
theorem qys (w:World):(ReflectliteType.relation "AssignableTo" ReflectliteType.assignableTo #[.agg #[.pointer (some ⟨21,93,none⟩)],.iface 147 (.agg #[.pointer (some ⟨21,93,none⟩)])]).run Tryz.prog w=.ok (.bool true) w:=by kernel_rfl
theorem qyt (w:World):(ReflectliteType.relation "AssignableTo" ReflectliteType.assignableTo #[.agg #[.pointer (some ⟨21,359,none⟩)],.iface 147 (.agg #[.pointer (some ⟨21,93,none⟩)])]).run Tryz.prog w=.ok (.bool false) w:=by kernel_rfl
theorem zkn (e:Addr) (w:World):(ReflectliteValue.unpack (.iface 93 (.pointer (some e)))).run Tryz.prog w
  = .ok (.agg #[.pointer (some ⟨21,93,none⟩),.pointer (some ⟨w.heap.size,0,none⟩),.int .u64 150]) (w.alloc (.cells #[.pointer (some e)] 93)):=by kernel_rfl
theorem zoq (w:World):(Rtype.elem? 95).run Tryz.prog w=.ok (some 93) w:=by kernel_rfl
theorem mkP (p:Addr) (w:World):(ReflectliteValue.mk 93 p ReflectliteValue.flagAddr).run Tryz.prog w=.ok (.agg #[.pointer (some ⟨21,93,none⟩),.pointer (some p),.int .u64 406]) w:=by kernel_rfl
theorem zui (a p:Addr) (W:World) (ha:W.cell? a=some (.pointer (some p))) :
  (ReflectliteValue.method (ReflectliteValue.valueError "reflectlite.Value.Elem" 0) ReflectliteValue.elem #[.agg #[.pointer (some ⟨21,95,none⟩),.pointer (some a),.int .u64 150]]).run Tryz.prog W
   = .ok (.agg #[.pointer (some ⟨21,93,none⟩),.pointer (some p),.int .u64 406]) W:=by
 obtain ⟨R,h1,h2⟩:=qnf (ReflectliteValue.valueError "reflectlite.Value.Elem" 0) ReflectliteValue.elem (.agg #[.pointer (some ⟨21,95,none⟩),.pointer (some a),.int .u64 150]);rw[h1];simp only[Sem.run_bind,zf4,Result.andThen,h2];simp[ReflectliteValue.elem,loadVar,isAgg,underlying,Tryz.underlying95,ha,Result.andThen,zoq,mkP]
theorem zsh (a:Addr) (w:World):(ReflectliteValue.parts (.agg #[.pointer (some ⟨21,93,none⟩),.pointer (some a),.int .u64 406])).run Tryz.prog w=.ok (some (93,a,406)) w:=by kernel_rfl
theorem zwl (a:Addr) (w:World):(ReflectliteValue.parts (.agg #[.pointer (some ⟨21,93,none⟩),.pointer (some a),.int .u64 150])).run Tryz.prog w=.ok (some (93,a,150)) w:=by kernel_rfl
theorem zuq (w:World):(Rtype.directlyAssignable 93 93).run Tryz.prog w=.ok true w:=by kernel_rfl
theorem setP (ta b e:Addr) (old:Value) (W:World) (hb:W.cell? b=some (.pointer (some e))) (ht:W.cell? ta=some old) (hf:W.frozen? ta=false) :
  (ReflectliteValue.set #[.agg #[.pointer (some ⟨21,93,none⟩),.pointer (some ta),.int .u64 406],.agg #[.pointer (some ⟨21,93,none⟩),.pointer (some b),.int .u64 150]]).run Tryz.prog W
   = .ok (.tuple #[]) (W.setCell ta (.pointer (some e))):=by
 obtain ⟨R,h1,h2⟩:=zfc (.agg #[.pointer (some ⟨21,93,none⟩),.pointer (some ta),.int .u64 406]) (.agg #[.pointer (some ⟨21,93,none⟩),.pointer (some b),.int .u64 150]);obtain ⟨S,h3,h4⟩:=h2 ta b;rw[h1];simp only[Sem.run_bind,zsh,zwl,Result.andThen,h3,zuq,h4];simp[loadVar,isAgg,underlying,Tryz.underlying93,hb,Result.andThen,storeVar,Value.cells,storeCells,Addr.add];rw[run_store Tryz.prog W ta _ _ (by rfl)]
 simp[ht,hf]
theorem ych (v:Value) (xT:TypeId) (w:World):(Instr.typeAssert (.iface 359 v) xT 230 true).run Tryz.prog w=.ok (.tuple #[.nilIface,.bool false]) w:=run_typeAssert_lacksB Tryz.underlying230 (by kernel_rfl) (by kernel_rfl) v xT w
open Go.RowKit Go.Extern.Stop Go.Stop Go.Extern
abbrev yh6:=@run_callFunc_extern Tryz.prog 30 _ (fun args=>ReflectliteValue.unpack (args.getD 0 (.tuple #[]))) Tryz.func30 (by kernel_rfl) (by kernel_rfl) (by kernel_rfl) (by kernel_rfl)
abbrev yh7:=@run_callFunc_extern Tryz.prog 77 _ (ReflectliteValue.methodAny (ReflectliteValue.valueError "reflectlite.Value.Type" 0) (fun t _ _ _=>ReflectliteType.toType t)) Tryz.func77 (by kernel_rfl) (by kernel_rfl) (by kernel_rfl) (by kernel_rfl)
abbrev yh8:=@run_callFunc_extern Tryz.prog 78 _ (ReflectliteValue.method (ReflectliteValue.valueError "reflectlite.Value.IsNil" 0) ReflectliteValue.isNil) Tryz.func78 (by kernel_rfl) (by kernel_rfl) (by kernel_rfl) (by kernel_rfl)
abbrev yh27:=@run_callFunc_extern Tryz.prog 259 _ (ReflectliteType.abiMethod fun t=>do pure (.int .u8 (← Rtype.kind t))) Tryz.func259 (by kernel_rfl) (by kernel_rfl) (by kernel_rfl) (by kernel_rfl)
abbrev yh37:=@run_callFunc_extern Tryz.prog 273 _ (ReflectliteType.method ReflectliteType.elem) Tryz.func273 (by kernel_rfl) (by kernel_rfl) (by kernel_rfl) (by kernel_rfl)
abbrev yh38:=@run_callFunc_extern Tryz.prog 274 _ (ReflectliteType.relation "Implements" ReflectliteType.implements_) Tryz.func274 (by kernel_rfl) (by kernel_rfl) (by kernel_rfl) (by kernel_rfl)
abbrev yh10:=@run_callFunc_extern Tryz.prog 83 _ ReflectliteType.typeOf Tryz.func83 (by kernel_rfl) (by kernel_rfl) (by kernel_rfl) (by kernel_rfl)
abbrev yh35:=@run_callFunc_extern Tryz.prog 271 _ (ReflectliteType.relation "AssignableTo" ReflectliteType.assignableTo) Tryz.func271 (by kernel_rfl) (by kernel_rfl) (by kernel_rfl) (by kernel_rfl)
abbrev yh11:=@run_callFunc_extern Tryz.prog 138 _ (ReflectliteValue.method (ReflectliteValue.valueError "reflectlite.Value.Elem" 0) ReflectliteValue.elem) Tryz.func138 (by kernel_rfl) (by kernel_rfl) (by kernel_rfl) (by kernel_rfl)
abbrev yh12:=@run_callFunc_extern Tryz.prog 139 _ ReflectliteValue.set Tryz.func139 (by kernel_rfl) (by kernel_rfl) (by kernel_rfl) (by kernel_rfl)
def asV (w:World):Obj:=.cells #[.pointer (some ⟨21,95,none⟩),.pointer (some ⟨w.heap.size,0,none⟩),.int .u64 150] 83
theorem zya (e t:Addr) (old:Value) (w:World) (hg:w.cell? ⟨10,0,none⟩=some (.iface 147 (.agg #[.pointer (some ⟨21,55,none⟩)]))) (ht0:w.cell? t=some old) (hf0:w.frozen? t=false) :
  Calls Tryz.prog 37 #[.iface 93 (.pointer (some e)),.iface 95 (.pointer (some t))] w fun ev w'=>ev=.returned (.bool true)∧w'=((((w.alloc (.cells #[.pointer (some t)] 95)).alloc (asV w)).alloc (asV w)).alloc (.cells #[.pointer (some e)] 93)).setCell t (.pointer (some e)):=by
 have h6:=yh6;have h7:=yh7;have h8:=yh8;have h27:=yh27;have h37:=yh37;have h38:=yh38;have h10:=yh10;have h35:=yh35;have h11:=yh11;have h12:=yh12;have tO:=zra;have mA:=qg8;have a25:=qys;have v25:=zkn;have f6:=quz;have f7:=zpu;have mK:=qrf;have mE:=qrg;have mI:=qir;have k27:=zqj;have k25:=zqk;have e27:=zqt;have i25:=qps;have n8:=zh5 ⟨w.heap.size,0,none⟩ t ((w.alloc (.cells #[.pointer (some t)] 95)).alloc (asV w)) (by simp[asV])
 have hlt:10 < w.heap.size:=by
  rcases Nat.lt_or_ge 10 w.heap.size with h | h
  ·exact h
  ·have:w.heap[10]?=none:=by simp[h]
   simp[World.cell?,this] at hg
 have hg2:((w.alloc (.cells #[.pointer (some t)] 95)).alloc (asV w)).cell? ⟨10,0,none⟩=some (.iface 147 (.agg #[.pointer (some ⟨21,55,none⟩)])):=by
  rw[World.cell?_alloc_lt _ _ ⟨10,0,none⟩ (by simp;omega),World.cell?_alloc_lt _ _ ⟨10,0,none⟩ hlt];exact hg
 have htl:t.block < w.heap.size:=by
  rcases Nat.lt_or_ge t.block w.heap.size with h | h
  ·exact h
  ·simp[World.cell?,Array.getElem?_eq_none h] at ht0
 have el:=zui ⟨w.heap.size,0,none⟩ t (((w.alloc (.cells #[.pointer (some t)] 95)).alloc (asV w)).alloc (asV w)) (by rw[World.cell?_alloc_lt _ _ ⟨w.heap.size,0,none⟩ (by simp;omega)];simp[asV])
 have st:=setP t ⟨w.heap.size+1+1+1,0,none⟩ e old ((((w.alloc (.cells #[.pointer (some t)] 95)).alloc (asV w)).alloc (asV w)).alloc (.cells #[.pointer (some e)] 93))
  (by rw[World.cell?_alloc_at _ _ _ _ (by simp)];rfl)
  (by rw[World.cell?_alloc_lt _ _ t (by simp;omega),World.cell?_alloc_lt _ _ t (by simp;omega),World.cell?_alloc_lt _ _ t (by simp;omega),World.cell?_alloc_lt _ _ t htl];exact ht0)
  (by rw[World.frozen?_alloc_old _ _ t (by simp;omega),World.frozen?_alloc_old _ _ t (by simp;omega),World.frozen?_alloc_old _ _ t (by simp;omega),World.frozen?_alloc_old _ _ t (Nat.ne_of_lt htl)];exact hf0)
 unfold asV at *;go_enter Tryz.func37,Tryz.ntmps37
 go_wp2;refine wp_loop_rounds 1 ?_;rw[rounds_succ];go_wp2;go_ret;exact ⟨rfl,rfl⟩
theorem zvi (e t:Addr) (w:World) (hg:w.cell? ⟨10,0,none⟩=some (.iface 147 (.agg #[.pointer (some ⟨21,55,none⟩)]))) :
  Calls Tryz.prog 37 #[.iface 359 (.pointer (some e)),.iface 95 (.pointer (some t))] w fun ev w'=>ev=.returned (.bool false)∧w'=(((w.alloc (.cells #[.pointer (some t)] 95)).alloc (asV w)).alloc (asV w)):=by
 have h6:=yh6;have h7:=yh7;have h8:=yh8;have h27:=yh27;have h37:=yh37;have h38:=yh38;have h10:=yh10;have h35:=yh35;have tO:=qlt;have mA:=qg8;have aE:=qyt;have f6:=quz;have f7:=zpu;have mK:=qrf;have mE:=qrg;have mI:=qir;have k27:=zqj;have k25:=zqk;have e27:=zqt;have i25:=qps;have nE:=ych;have uE:=qli;have vE:=qj3;have n8:=zh5 ⟨w.heap.size,0,none⟩ t ((w.alloc (.cells #[.pointer (some t)] 95)).alloc (asV w)) (by simp[asV])
 have hlt:10 < w.heap.size:=by
  rcases Nat.lt_or_ge 10 w.heap.size with h | h
  ·exact h
  ·have:w.heap[10]?=none:=by simp[h]
   simp[World.cell?,this] at hg
 have hg2:((w.alloc (.cells #[.pointer (some t)] 95)).alloc (asV w)).cell? ⟨10,0,none⟩=some (.iface 147 (.agg #[.pointer (some ⟨21,55,none⟩)])):=by
  rw[World.cell?_alloc_lt _ _ ⟨10,0,none⟩ (by simp;omega),World.cell?_alloc_lt _ _ ⟨10,0,none⟩ hlt];exact hg
 unfold asV at *;go_enter Tryz.func37,Tryz.ntmps37
 go_wp2;refine wp_loop_rounds 1 ?_;rw[rounds_succ];go_wp2;go_ret;exact ⟨rfl,rfl⟩
end Lg
end Go.Proofs.YtagpnplggopoeaaGreatDoor
