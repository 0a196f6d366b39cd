import Derived.Test.YthanmfbakpcigaaGreatDoorProg
import Derived.WalkKit
import Derived.LaidEql
import Derived.Stop.Asserts
import Derived.RowKitTokens
set_option maxRecDepth 100000
set_option maxHeartbeats 4000000
namespace Go.Proofs.YthanmfbakpcigaaGreatDoor
open Go.RowKit Go.Extern.Stop Go.Stop Go.Extern
namespace Lg
theorem qlt (v:Value) (w:World):(Extern.ReflectliteType.typeOf #[.iface 302 v]).run Tryz.prog w=.ok (.iface 161 (.agg #[.pointer (some ⟨17,302,none⟩)])) w:=by kernel_rfl
theorem qhc (w:World):((Extern.ReflectliteType.method fun t=>do Extern.Rtype.noPackHeld "Comparable" t;Functor.map (fun a=>Value.bool a.comparable) (typeInfo t)) #[.agg #[.pointer (some ⟨17,302,none⟩)]]).run Tryz.prog w=.ok (.bool true) w:=by kernel_rfl
theorem qdr (v:Value) (w:World):(Go.method 444 161 v "Comparable").run Tryz.prog w=.ok (201,v) w:=by kernel_rfl
theorem zat:(Tryz.prog.info? 302).map (·.comparable)=some true:=by kernel_rfl
theorem zas:(Tryz.prog.info? 329).map (·.size)=some 1:=by kernel_rfl
theorem zs3 (v:Value) (xT:TypeId) (w:World):(Instr.typeAssert (.iface 302 v) xT 243 true).run Tryz.prog w=.ok (.tuple #[.nilIface,.bool false]) w:=run_typeAssert_lacksB Tryz.underlying243 (by kernel_rfl) (by kernel_rfl) v xT w
theorem qli (v:Value) (xT:TypeId) (w:World):(Instr.typeAssert (.iface 302 v) xT 169 true).run Tryz.prog w=.ok (.tuple #[.nilIface,.bool false]) w:=run_typeAssert_lacksB Tryz.underlying169 (by kernel_rfl) (by kernel_rfl) v xT w
theorem qj3 (v:Value) (xT:TypeId) (w:World):(Instr.typeAssert (.iface 302 v) xT 171 true).run Tryz.prog w=.ok (.tuple #[.nilIface,.bool false]) w:=run_typeAssert_lacksB Tryz.underlying171 (by kernel_rfl) (by kernel_rfl) v xT w
theorem zwu (v:Value) (xT:TypeId) (w:World):(Instr.typeAssert (.iface 68 v) xT 243 true).run Tryz.prog w=.ok (.tuple #[.nilIface,.bool false]) w:=run_typeAssert_lacksB Tryz.underlying243 (by kernel_rfl) (by kernel_rfl) v xT w
theorem qrm (v:Value) (xT:TypeId) (w:World):(Instr.typeAssert (.iface 68 v) xT 169 true).run Tryz.prog w=.ok (.tuple #[.iface 68 v,.bool true]) w:=run_typeAssert_hasB Tryz.underlying169 (by kernel_rfl) v xT w
theorem qng (v:Value) (w:World):(Go.method 444 68 v "Unwrap").run Tryz.prog w=.ok (194,v) w:=by kernel_rfl
theorem zh4 (a:Addr) (w:World) :
  Calls Tryz.prog 42 #[.iface 302 (.pointer (some a)),.iface 302 (.pointer (some a))] w fun e w'=>e=.returned (.bool true)∧w'=w:=by
 obtain ⟨i,hi,hcmp⟩:=Option.map_eq_some_iff.1 zat;obtain ⟨j,hj,hjs⟩:=Option.map_eq_some_iff.1 zas;have h8:=@run_callFunc_extern Tryz.prog 54 _ Extern.ReflectliteType.typeOf Tryz.func54 (by kernel_rfl) (by kernel_rfl) (by kernel_rfl) (by kernel_rfl)
 have h32:=@run_callFunc_extern Tryz.prog 201 _ (Extern.ReflectliteType.method fun t=>do Extern.Rtype.noPackHeld "Comparable" t;pure (.bool (← typeInfo t).comparable)) Tryz.func201 (by kernel_rfl) (by kernel_rfl) (by kernel_rfl) (by kernel_rfl)
 have tT:=qlt;have cT:=qhc;have mR:=qdr;have heq:=run_eql_iface_ptr_same (P:=Tryz.prog) w a Tryz.underlying44 Tryz.underlying302 hi hcmp hj;go_enter Tryz.func42,Tryz.ntmps42
 go_wp2;refine wp_loop_rounds 1 ?_;rw[rounds_succ];go_wp2;go_ret;exact ⟨rfl,rfl⟩
theorem qtm (f:Nat) (b:Addr) (w:World) (h1:w.cell? ⟨f,1,none⟩=some (.iface 302 (.pointer (some b)))) :
  Calls Tryz.prog 42 #[.iface 68 (.pointer (some ⟨f,0,none⟩)),.iface 302 (.pointer (some b))] w fun e w'=>e=.returned (.bool true)∧w'=w:=by
 obtain ⟨i,hi,hcmp⟩:=Option.map_eq_some_iff.1 zat;obtain ⟨j,hj,hjs⟩:=Option.map_eq_some_iff.1 zas;have h8:=@run_callFunc_extern Tryz.prog 54 _ Extern.ReflectliteType.typeOf Tryz.func54 (by kernel_rfl) (by kernel_rfl) (by kernel_rfl) (by kernel_rfl)
 have h32:=@run_callFunc_extern Tryz.prog 201 _ (Extern.ReflectliteType.method fun t=>do Extern.Rtype.noPackHeld "Comparable" t;pure (.bool (← typeInfo t).comparable)) Tryz.func201 (by kernel_rfl) (by kernel_rfl) (by kernel_rfl) (by kernel_rfl)
 have tT:=qlt;have cT:=qhc;have mR:=qdr;have nE:=zs3;have uE:=qli;have vE:=qj3;have nW:=zwu;have uW:=qrm;have mU:=qng;have heq:=run_eql_iface_ptr_same (P:=Tryz.prog) w b Tryz.underlying44 Tryz.underlying302 hi hcmp hj;have hty:=run_eql_iface_types (P:=Tryz.prog) 68 302 (.pointer (some ⟨f,0,none⟩)) (.pointer (some b)) Tryz.underlying44 (by decide) w
 go_enter Tryz.func42,Tryz.ntmps42
 go_wp2;refine wp_loop_rounds 2 ?_;rw[rounds_succ];go_wp2;rw[rounds_succ];go_wp2;go_ret;exact ⟨rfl,rfl⟩
theorem qqt (f:Nat) (b a:Addr) (ca cb:Array Value) (ta tb:TypeId) (w:World) (h1:w.cell? ⟨f,1,none⟩=some (.iface 302 (.pointer (some a)))) (hne:a≠b) (ha:w.heap[a.block]?=some (.cells ca ta (0,0))) (hb:w.heap[b.block]?=some (.cells cb tb (0,0))) :
  Calls Tryz.prog 42 #[.iface 68 (.pointer (some ⟨f,0,none⟩)),.iface 302 (.pointer (some b))] w fun e w'=>e=.returned (.bool false)∧w'=w:=by
 obtain ⟨i,hi,hcmp⟩:=Option.map_eq_some_iff.1 zat;obtain ⟨j,hj,hjs⟩:=Option.map_eq_some_iff.1 zas;have h8:=@run_callFunc_extern Tryz.prog 54 _ Extern.ReflectliteType.typeOf Tryz.func54 (by kernel_rfl) (by kernel_rfl) (by kernel_rfl) (by kernel_rfl)
 have h32:=@run_callFunc_extern Tryz.prog 201 _ (Extern.ReflectliteType.method fun t=>do Extern.Rtype.noPackHeld "Comparable" t;pure (.bool (← typeInfo t).comparable)) Tryz.func201 (by kernel_rfl) (by kernel_rfl) (by kernel_rfl) (by kernel_rfl)
 have tT:=qlt;have cT:=qhc;have mR:=qdr;have nE:=zs3;have uE:=qli;have vE:=qj3;have nW:=zwu;have uW:=qrm;have mU:=qng;have heq:=run_eql_iface_ptr_other (P:=Tryz.prog) w Tryz.underlying44 Tryz.underlying302 hi hcmp hj (by rw[hjs];decide) hne ha hb
 have hty:=run_eql_iface_types (P:=Tryz.prog) 68 302 (.pointer (some ⟨f,0,none⟩)) (.pointer (some b)) Tryz.underlying44 (by decide) w
 go_enter Tryz.func42,Tryz.ntmps42
 go_wp2;refine wp_loop_rounds 2 ?_;rw[rounds_succ];go_wp2;rw[rounds_succ];go_wp2;go_ret;exact ⟨rfl,rfl⟩
open Go.RowKit Go.Extern.Stop Go.Stop Go.Extern
theorem quz (t:Addr) (w:World):(ReflectliteValue.unpack (.iface 70 (.pointer (some t)))).run Tryz.prog w
  = .ok (.agg #[.pointer (some ⟨17,70,none⟩),.pointer (some ⟨w.heap.size,0,none⟩),.int .u64 150]) (w.alloc (.cells #[.pointer (some t)] 70)):=by kernel_rfl
theorem zpu (a:Addr) (w:World):(ReflectliteValue.methodAny (ReflectliteValue.valueError "reflectlite.Value.Type" 0) (fun t _ _ _=>ReflectliteType.toType t) #[.agg #[.pointer (some ⟨17,70,none⟩),.pointer (some a),.int .u64 150]]).run Tryz.prog w
  = .ok (.iface 161 (.agg #[.pointer (some ⟨17,70,none⟩)])) w:=by kernel_rfl
theorem qrf (h:Value) (w:World):(Go.method 444 161 (.agg #[h]) "Kind").run Tryz.prog w=.ok (189,h) w:=by kernel_rfl
theorem zqj (w:World):((ReflectliteType.abiMethod fun t=>Functor.map (fun a:Nat=>Value.int IntKind.u8 (a:Int)) (Rtype.kind t)) #[.pointer (some ⟨17,70,none⟩)]).run Tryz.prog w=.ok (.int .u8 22) w:=by kernel_rfl
theorem zqk (w:World):((ReflectliteType.abiMethod fun t=>Functor.map (fun a:Nat=>Value.int IntKind.u8 (a:Int)) (Rtype.kind t)) #[.pointer (some ⟨17,68,none⟩)]).run Tryz.prog w=.ok (.int .u8 22) w:=by kernel_rfl
theorem zf4 (a:Addr) (w:World):(ReflectliteValue.parts (.agg #[.pointer (some ⟨17,70,none⟩),.pointer (some a),.int .u64 150])).run Tryz.prog w=.ok (some (70,a,150)) w:=by kernel_rfl
theorem qnf (z:Sem Value) (f:TypeId→Addr→Nat→Nat→Sem Value) (v:Value):∃ R:Option (TypeId×Addr×Nat)→Sem Value,ReflectliteValue.method z f #[v]=(ReflectliteValue.parts v >>= R)∧∀ t a fl,R (some (t,a,fl))=f t a fl (fl % 32):=⟨_,rfl,fun _ _ _=>rfl⟩
theorem zfc (v x:Value):∃ R:Option (TypeId×Addr×Nat)→Option (TypeId×Addr×Nat)→Sem Value,ReflectliteValue.set #[v,x]=(ReflectliteValue.parts v >>= fun a=>ReflectliteValue.parts x >>= fun b=>R a b) ∧
  ∀ ta b,∃ S:Value→Bool→Sem Value,R (some (68,ta,406)) (some (68,b,150))=(loadVar 68 b >>= fun val=>Rtype.directlyAssignable 68 68 >>= fun c=>S val c) ∧
   ∀ val,S val true=(storeVar 68 ta val >>= fun _=>pure (.tuple #[])):=⟨_,rfl,fun _ _=>⟨_,rfl,fun _=>rfl⟩⟩
theorem zh5 (a p:Addr) (W:World) (ha:W.cell? a=some (.pointer (some p))) :
  (ReflectliteValue.method (ReflectliteValue.valueError "reflectlite.Value.IsNil" 0) ReflectliteValue.isNil #[.agg #[.pointer (some ⟨17,70,none⟩),.pointer (some a),.int .u64 150]]).run Tryz.prog W=.ok (.bool false) W:=by
 obtain ⟨R,h1,h2⟩:=qnf (ReflectliteValue.valueError "reflectlite.Value.IsNil" 0) ReflectliteValue.isNil (.agg #[.pointer (some ⟨17,70,none⟩),.pointer (some a),.int .u64 150]);rw[h1];simp only[Sem.run_bind,zf4,Result.andThen,h2];simp[ReflectliteValue.isNil,loadVar,isAgg,underlying,Tryz.underlying70,ha,Result.andThen]
theorem qrg (h:Value) (w:World):(Go.method 444 161 (.agg #[h]) "Elem").run Tryz.prog w=.ok (202,.agg #[h]) w:=by kernel_rfl
theorem qir (h:Value) (w:World):(Go.method 444 161 (.agg #[h]) "Implements").run Tryz.prog w=.ok (203,.agg #[h]) w:=by kernel_rfl
theorem qg8 (h:Value) (w:World):(Go.method 444 161 (.agg #[h]) "AssignableTo").run Tryz.prog w=.ok (200,.agg #[h]) w:=by kernel_rfl
theorem zqt (w:World):(ReflectliteType.method ReflectliteType.elem #[.agg #[.pointer (some ⟨17,70,none⟩)]]).run Tryz.prog w=.ok (.iface 161 (.agg #[.pointer (some ⟨17,68,none⟩)])) w:=by kernel_rfl
theorem qps (w:World):(ReflectliteType.relation "Implements" ReflectliteType.implements_ #[.agg #[.pointer (some ⟨17,68,none⟩)],.iface 161 (.agg #[.pointer (some ⟨17,44,none⟩)])]).run Tryz.prog w=.ok (.bool true) w:=by kernel_rfl
theorem zra (v:Value) (w:World):(ReflectliteType.typeOf #[.iface 68 v]).run Tryz.prog w=.ok (.iface 161 (.agg #[.pointer (some ⟨17,68,none⟩)])) w:=by kernel_rfl
theorem qys (w:World):(ReflectliteType.relation "AssignableTo" ReflectliteType.assignableTo #[.agg #[.pointer (some ⟨17,68,none⟩)],.iface 161 (.agg #[.pointer (some ⟨17,68,none⟩)])]).run Tryz.prog w=.ok (.bool true) w:=by kernel_rfl
theorem qyt (w:World):(ReflectliteType.relation "AssignableTo" ReflectliteType.assignableTo #[.agg #[.pointer (some ⟨17,302,none⟩)],.iface 161 (.agg #[.pointer (some ⟨17,68,none⟩)])]).run Tryz.prog w=.ok (.bool false) w:=by kernel_rfl
theorem zkn (e:Addr) (w:World):(ReflectliteValue.unpack (.iface 68 (.pointer (some e)))).run Tryz.prog w
  = .ok (.agg #[.pointer (some ⟨17,68,none⟩),.pointer (some ⟨w.heap.size,0,none⟩),.int .u64 150]) (w.alloc (.cells #[.pointer (some e)] 68)):=by kernel_rfl
theorem zoq (w:World):(Rtype.elem? 70).run Tryz.prog w=.ok (some 68) w:=by kernel_rfl
theorem mkP (p:Addr) (w:World):(ReflectliteValue.mk 68 p ReflectliteValue.flagAddr).run Tryz.prog w=.ok (.agg #[.pointer (some ⟨17,68,none⟩),.pointer (some p),.int .u64 406]) w:=by kernel_rfl
theorem zui (a p:Addr) (W:World) (ha:W.cell? a=some (.pointer (some p))) :
  (ReflectliteValue.method (ReflectliteValue.valueError "reflectlite.Value.Elem" 0) ReflectliteValue.elem #[.agg #[.pointer (some ⟨17,70,none⟩),.pointer (some a),.int .u64 150]]).run Tryz.prog W
   = .ok (.agg #[.pointer (some ⟨17,68,none⟩),.pointer (some p),.int .u64 406]) W:=by
 obtain ⟨R,h1,h2⟩:=qnf (ReflectliteValue.valueError "reflectlite.Value.Elem" 0) ReflectliteValue.elem (.agg #[.pointer (some ⟨17,70,none⟩),.pointer (some a),.int .u64 150]);rw[h1];simp only[Sem.run_bind,zf4,Result.andThen,h2];simp[ReflectliteValue.elem,loadVar,isAgg,underlying,Tryz.underlying70,ha,Result.andThen,zoq,mkP]
theorem zsh (a:Addr) (w:World):(ReflectliteValue.parts (.agg #[.pointer (some ⟨17,68,none⟩),.pointer (some a),.int .u64 406])).run Tryz.prog w=.ok (some (68,a,406)) w:=by kernel_rfl
theorem zwl (a:Addr) (w:World):(ReflectliteValue.parts (.agg #[.pointer (some ⟨17,68,none⟩),.pointer (some a),.int .u64 150])).run Tryz.prog w=.ok (some (68,a,150)) w:=by kernel_rfl
theorem zuq (w:World):(Rtype.directlyAssignable 68 68).run Tryz.prog w=.ok true w:=by kernel_rfl
theorem setP (ta b e:Addr) (old:Value) (W:World) (hb:W.cell? b=some (.pointer (some e))) (ht:W.cell? ta=some old) (hf:W.frozen? ta=false) :
  (ReflectliteValue.set #[.agg #[.pointer (some ⟨17,68,none⟩),.pointer (some ta),.int .u64 406],.agg #[.pointer (some ⟨17,68,none⟩),.pointer (some b),.int .u64 150]]).run Tryz.prog W
   = .ok (.tuple #[]) (W.setCell ta (.pointer (some e))):=by
 obtain ⟨R,h1,h2⟩:=zfc (.agg #[.pointer (some ⟨17,68,none⟩),.pointer (some ta),.int .u64 406]) (.agg #[.pointer (some ⟨17,68,none⟩),.pointer (some b),.int .u64 150]);obtain ⟨S,h3,h4⟩:=h2 ta b;rw[h1];simp only[Sem.run_bind,zsh,zwl,Result.andThen,h3,zuq,h4];simp[loadVar,isAgg,underlying,Tryz.underlying68,hb,Result.andThen,storeVar,Value.cells,storeCells,Addr.add];rw[run_store Tryz.prog W ta _ _ (by rfl)]
 simp[ht,hf]
theorem noAsE (v:Value) (xT:TypeId) (w:World):(Instr.typeAssert (.iface 302 v) xT 166 true).run Tryz.prog w=.ok (.tuple #[.nilIface,.bool false]) w:=run_typeAssert_lacksB Tryz.underlying166 (by kernel_rfl) (by kernel_rfl) v xT w
open Go.RowKit Go.Extern.Stop Go.Stop Go.Extern
def asV (w:World):Obj:=.cells #[.pointer (some ⟨17,70,none⟩),.pointer (some ⟨w.heap.size,0,none⟩),.int .u64 150] 110
theorem zya (e t:Addr) (old:Value) (w:World) (hg:w.cell? ⟨2,0,none⟩=some (.iface 161 (.agg #[.pointer (some ⟨17,44,none⟩)]))) (ht0:w.cell? t=some old) (hf0:w.frozen? t=false) :
  Calls Tryz.prog 24 #[.iface 68 (.pointer (some e)),.iface 70 (.pointer (some t))] w fun ev w'=>ev=.returned (.bool true)∧w'=((((w.alloc (.cells #[.pointer (some t)] 70)).alloc (asV w)).alloc (asV w)).alloc (.cells #[.pointer (some e)] 68)).setCell t (.pointer (some e)):=by
 have h6:=@run_callFunc_extern Tryz.prog 38 _ (fun args=>ReflectliteValue.unpack (args.getD 0 (.tuple #[]))) Tryz.func38 (by kernel_rfl) (by kernel_rfl) (by kernel_rfl) (by kernel_rfl)
 have h7:=@run_callFunc_extern Tryz.prog 39 _ (ReflectliteValue.methodAny (ReflectliteValue.valueError "reflectlite.Value.Type" 0) (fun t _ _ _=>ReflectliteType.toType t)) Tryz.func39 (by kernel_rfl) (by kernel_rfl) (by kernel_rfl) (by kernel_rfl)
 have h8:=@run_callFunc_extern Tryz.prog 40 _ (ReflectliteValue.method (ReflectliteValue.valueError "reflectlite.Value.IsNil" 0) ReflectliteValue.isNil) Tryz.func40 (by kernel_rfl) (by kernel_rfl) (by kernel_rfl) (by kernel_rfl)
 have h27:=@run_callFunc_extern Tryz.prog 189 _ (ReflectliteType.abiMethod fun t=>do pure (.int .u8 (← Rtype.kind t))) Tryz.func189 (by kernel_rfl) (by kernel_rfl) (by kernel_rfl) (by kernel_rfl)
 have h37:=@run_callFunc_extern Tryz.prog 202 _ (ReflectliteType.method ReflectliteType.elem) Tryz.func202 (by kernel_rfl) (by kernel_rfl) (by kernel_rfl) (by kernel_rfl)
 have h38:=@run_callFunc_extern Tryz.prog 203 _ (ReflectliteType.relation "Implements" ReflectliteType.implements_) Tryz.func203 (by kernel_rfl) (by kernel_rfl) (by kernel_rfl) (by kernel_rfl)
 have h10:=@run_callFunc_extern Tryz.prog 54 _ ReflectliteType.typeOf Tryz.func54 (by kernel_rfl) (by kernel_rfl) (by kernel_rfl) (by kernel_rfl)
 have h35:=@run_callFunc_extern Tryz.prog 200 _ (ReflectliteType.relation "AssignableTo" ReflectliteType.assignableTo) Tryz.func200 (by kernel_rfl) (by kernel_rfl) (by kernel_rfl) (by kernel_rfl)
 have h11:=@run_callFunc_extern Tryz.prog 55 _ (ReflectliteValue.method (ReflectliteValue.valueError "reflectlite.Value.Elem" 0) ReflectliteValue.elem) Tryz.func55 (by kernel_rfl) (by kernel_rfl) (by kernel_rfl) (by kernel_rfl)
 have h12:=@run_callFunc_extern Tryz.prog 56 _ ReflectliteValue.set Tryz.func56 (by kernel_rfl) (by kernel_rfl) (by kernel_rfl) (by kernel_rfl)
 have tO:=zra;have mA:=qg8;have a25:=qys;have v25:=zkn;have f6:=quz;have f7:=zpu;have mK:=qrf;have mE:=qrg;have mI:=qir;have k27:=zqj;have k25:=zqk;have e27:=zqt;have i25:=qps;have n8:=zh5 ⟨w.heap.size,0,none⟩ t ((w.alloc (.cells #[.pointer (some t)] 70)).alloc (asV w)) (by simp[asV])
 have hlt:2 < w.heap.size:=by
  rcases Nat.lt_or_ge 2 w.heap.size with h | h
  ·exact h
  ·have:w.heap[2]?=none:=by simp[h]
   simp[World.cell?,this] at hg
 have hg2:((w.alloc (.cells #[.pointer (some t)] 70)).alloc (asV w)).cell? ⟨2,0,none⟩=some (.iface 161 (.agg #[.pointer (some ⟨17,44,none⟩)])):=by
  rw[World.cell?_alloc_lt _ _ ⟨2,0,none⟩ (by simp;omega),World.cell?_alloc_lt _ _ ⟨2,0,none⟩ hlt];exact hg
 have htl:t.block < w.heap.size:=by
  rcases Nat.lt_or_ge t.block w.heap.size with h | h
  ·exact h
  ·simp[World.cell?,Array.getElem?_eq_none h] at ht0
 have el:=zui ⟨w.heap.size,0,none⟩ t (((w.alloc (.cells #[.pointer (some t)] 70)).alloc (asV w)).alloc (asV w)) (by rw[World.cell?_alloc_lt _ _ ⟨w.heap.size,0,none⟩ (by simp;omega)];simp[asV])
 have st:=setP t ⟨w.heap.size+1+1+1,0,none⟩ e old ((((w.alloc (.cells #[.pointer (some t)] 70)).alloc (asV w)).alloc (asV w)).alloc (.cells #[.pointer (some e)] 68))
  (by rw[World.cell?_alloc_at _ _ _ _ (by simp)];rfl)
  (by rw[World.cell?_alloc_lt _ _ t (by simp;omega),World.cell?_alloc_lt _ _ t (by simp;omega),World.cell?_alloc_lt _ _ t (by simp;omega),World.cell?_alloc_lt _ _ t htl];exact ht0)
  (by rw[World.frozen?_alloc_old _ _ t (by simp;omega),World.frozen?_alloc_old _ _ t (by simp;omega),World.frozen?_alloc_old _ _ t (by simp;omega),World.frozen?_alloc_old _ _ t (Nat.ne_of_lt htl)];exact hf0)
 unfold asV at *;go_enter Tryz.func24,Tryz.ntmps24
 go_wp2;refine wp_loop_rounds 1 ?_;rw[rounds_succ];go_wp2;go_ret;exact ⟨rfl,rfl⟩
theorem zvi (e t:Addr) (w:World) (hg:w.cell? ⟨2,0,none⟩=some (.iface 161 (.agg #[.pointer (some ⟨17,44,none⟩)]))) :
  Calls Tryz.prog 24 #[.iface 302 (.pointer (some e)),.iface 70 (.pointer (some t))] w fun ev w'=>ev=.returned (.bool false)∧w'=(((w.alloc (.cells #[.pointer (some t)] 70)).alloc (asV w)).alloc (asV w)):=by
 have h6:=@run_callFunc_extern Tryz.prog 38 _ (fun args=>ReflectliteValue.unpack (args.getD 0 (.tuple #[]))) Tryz.func38 (by kernel_rfl) (by kernel_rfl) (by kernel_rfl) (by kernel_rfl)
 have h7:=@run_callFunc_extern Tryz.prog 39 _ (ReflectliteValue.methodAny (ReflectliteValue.valueError "reflectlite.Value.Type" 0) (fun t _ _ _=>ReflectliteType.toType t)) Tryz.func39 (by kernel_rfl) (by kernel_rfl) (by kernel_rfl) (by kernel_rfl)
 have h8:=@run_callFunc_extern Tryz.prog 40 _ (ReflectliteValue.method (ReflectliteValue.valueError "reflectlite.Value.IsNil" 0) ReflectliteValue.isNil) Tryz.func40 (by kernel_rfl) (by kernel_rfl) (by kernel_rfl) (by kernel_rfl)
 have h27:=@run_callFunc_extern Tryz.prog 189 _ (ReflectliteType.abiMethod fun t=>do pure (.int .u8 (← Rtype.kind t))) Tryz.func189 (by kernel_rfl) (by kernel_rfl) (by kernel_rfl) (by kernel_rfl)
 have h37:=@run_callFunc_extern Tryz.prog 202 _ (ReflectliteType.method ReflectliteType.elem) Tryz.func202 (by kernel_rfl) (by kernel_rfl) (by kernel_rfl) (by kernel_rfl)
 have h38:=@run_callFunc_extern Tryz.prog 203 _ (ReflectliteType.relation "Implements" ReflectliteType.implements_) Tryz.func203 (by kernel_rfl) (by kernel_rfl) (by kernel_rfl) (by kernel_rfl)
 have h10:=@run_callFunc_extern Tryz.prog 54 _ ReflectliteType.typeOf Tryz.func54 (by kernel_rfl) (by kernel_rfl) (by kernel_rfl) (by kernel_rfl)
 have h35:=@run_callFunc_extern Tryz.prog 200 _ (ReflectliteType.relation "AssignableTo" ReflectliteType.assignableTo) Tryz.func200 (by kernel_rfl) (by kernel_rfl) (by kernel_rfl) (by kernel_rfl)
 have tO:=qlt;have mA:=qg8;have aE:=qyt;have f6:=quz;have f7:=zpu;have mK:=qrf;have mE:=qrg;have mI:=qir;have k27:=zqj;have k25:=zqk;have e27:=zqt;have i25:=qps;have nE:=noAsE;have uE:=qli;have vE:=qj3;have n8:=zh5 ⟨w.heap.size,0,none⟩ t ((w.alloc (.cells #[.pointer (some t)] 70)).alloc (asV w)) (by simp[asV])
 have hlt:2 < w.heap.size:=by
  rcases Nat.lt_or_ge 2 w.heap.size with h | h
  ·exact h
  ·have:w.heap[2]?=none:=by simp[h]
   simp[World.cell?,this] at hg
 have hg2:((w.alloc (.cells #[.pointer (some t)] 70)).alloc (asV w)).cell? ⟨2,0,none⟩=some (.iface 161 (.agg #[.pointer (some ⟨17,44,none⟩)])):=by
  rw[World.cell?_alloc_lt _ _ ⟨2,0,none⟩ (by simp;omega),World.cell?_alloc_lt _ _ ⟨2,0,none⟩ hlt];exact hg
 unfold asV at *;go_enter Tryz.func24,Tryz.ntmps24
 go_wp2;refine wp_loop_rounds 1 ?_;rw[rounds_succ];go_wp2;go_ret;exact ⟨rfl,rfl⟩
end Lg
end Go.Proofs.YthanmfbakpcigaaGreatDoor
