import Derived.Test.YtnhkpbmplefnaaaGreatDoorP07
import Derived.Test.YtnhkpbmplefnaaaGreatDoorP06
import Derived.Deep.RegionWith
import Derived.Deep.DeepCutAuto
namespace Go.Proofs.YtnhkpbmplefnaaaGreatDoor
open Go.RowKit Go.Extern.Stop Go.Stop Go.Extern
namespace Lg
theorem as_nil (t:Value) (w:World) :
  Calls Tryz.prog 39 #[.nilIface,t] w fun e w'=>e=.returned (.bool false)∧w'=w:=by
 go_enter Tryz.func39,Tryz.ntmps39
 go_wp2
 go_ret
 exact ⟨rfl,rfl⟩
theorem valueOfPP (t:Addr) (w:World):(ReflectliteValue.unpack (.iface 89 (.pointer (some t)))).run Tryz.prog w
  = .ok (.agg #[.pointer (some ⟨20,89,none⟩),.pointer (some ⟨w.heap.size,0,none⟩),.int .u64 150]) (w.alloc (.cells #[.pointer (some t)] 89)):=by kernel_rfl
theorem typePP (a:Addr) (w:World):(ReflectliteValue.methodAny (ReflectliteValue.valueError "reflectlite.Value.Type" 0) (fun t _ _ _=>ReflectliteType.toType t) #[.agg #[.pointer (some ⟨20,89,none⟩),.pointer (some a),.int .u64 150]]).run Tryz.prog w
  = .ok (.iface 232 (.agg #[.pointer (some ⟨20,89,none⟩)])) w:=by kernel_rfl
theorem methodKind (h:Value) (w:World):(Go.method 514 232 (.agg #[h]) "Kind").run Tryz.prog w=.ok (231,h) w:=by kernel_rfl
theorem kindPP (w:World):((ReflectliteType.abiMethod fun t=>Functor.map (fun a:Nat=>Value.int IntKind.u8 (a:Int)) (Rtype.kind t)) #[.pointer (some ⟨20,89,none⟩)]).run Tryz.prog w=.ok (.int .u8 22) w:=by kernel_rfl
theorem kindP1 (w:World):((ReflectliteType.abiMethod fun t=>Functor.map (fun a:Nat=>Value.int IntKind.u8 (a:Int)) (Rtype.kind t)) #[.pointer (some ⟨20,87,none⟩)]).run Tryz.prog w=.ok (.int .u8 22) w:=by kernel_rfl
theorem partsPP (a:Addr) (w:World):(ReflectliteValue.parts (.agg #[.pointer (some ⟨20,89,none⟩),.pointer (some a),.int .u64 150])).run Tryz.prog w=.ok (some (89,a,150)) w:=by kernel_rfl
theorem method_parts (z:Sem Value) (f:TypeId→Addr→Nat→Nat→Sem Value) (v:Value):∃ R:Option (TypeId×Addr×Nat)→Sem Value,ReflectliteValue.method z f #[v]=(ReflectliteValue.parts v >>= R)∧∀ t a fl,R (some (t,a,fl))=f t a fl (fl % 32):=⟨_,rfl,fun _ _ _=>rfl⟩
theorem set_parts (v x:Value):∃ R:Option (TypeId×Addr×Nat)→Option (TypeId×Addr×Nat)→Sem Value,ReflectliteValue.set #[v,x]=(ReflectliteValue.parts v >>= fun a=>ReflectliteValue.parts x >>= fun b=>R a b) ∧
  ∀ ta b,∃ S:Value→Bool→Sem Value,R (some (87,ta,406)) (some (87,b,150))=(loadVar 87 b >>= fun val=>Rtype.directlyAssignable 87 87 >>= fun c=>S val c) ∧
   ∀ val,S val true=(storeVar 87 ta val >>= fun _=>pure (.tuple #[])):=⟨_,rfl,fun _ _=>⟨_,rfl,fun _=>rfl⟩⟩
theorem isNilPP (a p:Addr) (W:World) (ha:W.cell? a=some (.pointer (some p))) :
  (ReflectliteValue.method (ReflectliteValue.valueError "reflectlite.Value.IsNil" 0) ReflectliteValue.isNil #[.agg #[.pointer (some ⟨20,89,none⟩),.pointer (some a),.int .u64 150]]).run Tryz.prog W=.ok (.bool false) W:=by
 obtain ⟨R,h1,h2⟩:=method_parts (ReflectliteValue.valueError "reflectlite.Value.IsNil" 0) ReflectliteValue.isNil (.agg #[.pointer (some ⟨20,89,none⟩),.pointer (some a),.int .u64 150])
 rw[h1]
 simp only[Sem.run_bind,partsPP,Result.andThen,h2]
 simp[ReflectliteValue.isNil,loadVar,isAgg,underlying,Tryz.underlying89,ha,Result.andThen]
theorem methodElem (h:Value) (w:World):(Go.method 514 232 (.agg #[h]) "Elem").run Tryz.prog w=.ok (246,.agg #[h]) w:=by kernel_rfl
theorem methodImplements (h:Value) (w:World):(Go.method 514 232 (.agg #[h]) "Implements").run Tryz.prog w=.ok (247,.agg #[h]) w:=by kernel_rfl
theorem methodAssignableTo (h:Value) (w:World):(Go.method 514 232 (.agg #[h]) "AssignableTo").run Tryz.prog w=.ok (244,.agg #[h]) w:=by kernel_rfl
theorem elemPP (w:World):(ReflectliteType.method ReflectliteType.elem #[.agg #[.pointer (some ⟨20,89,none⟩)]]).run Tryz.prog w=.ok (.iface 232 (.agg #[.pointer (some ⟨20,87,none⟩)])) w:=by kernel_rfl
theorem implementsP (w:World):(ReflectliteType.relation "Implements" ReflectliteType.implements_ #[.agg #[.pointer (some ⟨20,87,none⟩)],.iface 232 (.agg #[.pointer (some ⟨20,56,none⟩)])]).run Tryz.prog w=.ok (.bool true) w:=by kernel_rfl
theorem typeOfP (v:Value) (w:World):(ReflectliteType.typeOf #[.iface 87 v]).run Tryz.prog w=.ok (.iface 232 (.agg #[.pointer (some ⟨20,87,none⟩)])) w:=by kernel_rfl
theorem assignableP (w:World):(ReflectliteType.relation "AssignableTo" ReflectliteType.assignableTo #[.agg #[.pointer (some ⟨20,87,none⟩)],.iface 232 (.agg #[.pointer (some ⟨20,87,none⟩)])]).run Tryz.prog w=.ok (.bool true) w:=by kernel_rfl
theorem assignableE (w:World):(ReflectliteType.relation "AssignableTo" ReflectliteType.assignableTo #[.agg #[.pointer (some ⟨20,357,none⟩)],.iface 232 (.agg #[.pointer (some ⟨20,87,none⟩)])]).run Tryz.prog w=.ok (.bool false) w:=by kernel_rfl
theorem valueOfP (e:Addr) (w:World):(ReflectliteValue.unpack (.iface 87 (.pointer (some e)))).run Tryz.prog w
  = .ok (.agg #[.pointer (some ⟨20,87,none⟩),.pointer (some ⟨w.heap.size,0,none⟩),.int .u64 150]) (w.alloc (.cells #[.pointer (some e)] 87)):=by kernel_rfl
theorem elemOfPP (w:World):(Rtype.elem? 89).run Tryz.prog w=.ok (some 87) w:=by kernel_rfl
theorem mkP (p:Addr) (w:World):(ReflectliteValue.mk 87 p ReflectliteValue.flagAddr).run Tryz.prog w=.ok (.agg #[.pointer (some ⟨20,87,none⟩),.pointer (some p),.int .u64 406]) w:=by kernel_rfl
theorem elemVPP (a p:Addr) (W:World) (ha:W.cell? a=some (.pointer (some p))) :
  (ReflectliteValue.method (ReflectliteValue.valueError "reflectlite.Value.Elem" 0) ReflectliteValue.elem #[.agg #[.pointer (some ⟨20,89,none⟩),.pointer (some a),.int .u64 150]]).run Tryz.prog W
   = .ok (.agg #[.pointer (some ⟨20,87,none⟩),.pointer (some p),.int .u64 406]) W:=by
 obtain ⟨R,h1,h2⟩:=method_parts (ReflectliteValue.valueError "reflectlite.Value.Elem" 0) ReflectliteValue.elem (.agg #[.pointer (some ⟨20,89,none⟩),.pointer (some a),.int .u64 150])
 rw[h1]
 simp only[Sem.run_bind,partsPP,Result.andThen,h2]
 simp[ReflectliteValue.elem,loadVar,isAgg,underlying,Tryz.underlying89,ha,Result.andThen,elemOfPP,mkP]
theorem partsPa (a:Addr) (w:World):(ReflectliteValue.parts (.agg #[.pointer (some ⟨20,87,none⟩),.pointer (some a),.int .u64 406])).run Tryz.prog w=.ok (some (87,a,406)) w:=by kernel_rfl
theorem partsP (a:Addr) (w:World):(ReflectliteValue.parts (.agg #[.pointer (some ⟨20,87,none⟩),.pointer (some a),.int .u64 150])).run Tryz.prog w=.ok (some (87,a,150)) w:=by kernel_rfl
theorem directP (w:World):(Rtype.directlyAssignable 87 87).run Tryz.prog w=.ok true w:=by kernel_rfl
theorem setP (ta b e:Addr) (old:Value) (W:World) (hb:W.cell? b=some (.pointer (some e))) (ht:W.cell? ta=some old) (hf:W.frozen? ta=false) :
  (ReflectliteValue.set #[.agg #[.pointer (some ⟨20,87,none⟩),.pointer (some ta),.int .u64 406],.agg #[.pointer (some ⟨20,87,none⟩),.pointer (some b),.int .u64 150]]).run Tryz.prog W
   = .ok (.tuple #[]) (W.setCell ta (.pointer (some e))):=by
 obtain ⟨R,h1,h2⟩:=set_parts (.agg #[.pointer (some ⟨20,87,none⟩),.pointer (some ta),.int .u64 406]) (.agg #[.pointer (some ⟨20,87,none⟩),.pointer (some b),.int .u64 150])
 obtain ⟨S,h3,h4⟩:=h2 ta b
 rw[h1]
 simp only[Sem.run_bind,partsPa,partsP,Result.andThen,h3,directP,h4]
 simp[loadVar,isAgg,underlying,Tryz.underlying87,hb,Result.andThen,storeVar,Value.cells,storeCells,Addr.add]
 rw[run_store Tryz.prog W ta _ _ (by rfl)]
 simp[ht,hf]
theorem noAsE (v:Value) (xT:TypeId) (w:World):(Instr.typeAssert (.iface 357 v) xT 237 true).run Tryz.prog w=.ok (.tuple #[.nilIface,.bool false]) w:=run_typeAssert_lacksB Tryz.underlying237 (by kernel_rfl) (by kernel_rfl) v xT w
open Go.RowKit Go.Extern.Stop Go.Stop Go.Extern
def asV (w:World):Obj:=.cells #[.pointer (some ⟨20,89,none⟩),.pointer (some ⟨w.heap.size,0,none⟩),.int .u64 150] 159
set_option maxRecDepth 100000 in
set_option maxHeartbeats 4000000 in
theorem as_hit (e t:Addr) (old:Value) (w:World) (hg:w.cell? ⟨2,0,none⟩=some (.iface 232 (.agg #[.pointer (some ⟨20,56,none⟩)]))) (ht0:w.cell? t=some old) (hf0:w.frozen? t=false) :
  Calls Tryz.prog 39 #[.iface 87 (.pointer (some e)),.iface 89 (.pointer (some t))] w fun ev w'=>ev=.returned (.bool true)∧w'=((((w.alloc (.cells #[.pointer (some t)] 89)).alloc (asV w)).alloc (asV w)).alloc (.cells #[.pointer (some e)] 87)).setCell t (.pointer (some e)):=by
 have h6:=@run_callFunc_extern Tryz.prog 62 _ (fun args=>ReflectliteValue.unpack (args.getD 0 (.tuple #[]))) Tryz.func62 (by kernel_rfl) (by kernel_rfl) (by kernel_rfl) (by kernel_rfl)
 have h7:=@run_callFunc_extern Tryz.prog 63 _ (ReflectliteValue.methodAny (ReflectliteValue.valueError "reflectlite.Value.Type" 0) (fun t _ _ _=>ReflectliteType.toType t)) Tryz.func63 (by kernel_rfl) (by kernel_rfl) (by kernel_rfl) (by kernel_rfl)
 have h8:=@run_callFunc_extern Tryz.prog 64 _ (ReflectliteValue.method (ReflectliteValue.valueError "reflectlite.Value.IsNil" 0) ReflectliteValue.isNil) Tryz.func64 (by kernel_rfl) (by kernel_rfl) (by kernel_rfl) (by kernel_rfl)
 have h27:=@run_callFunc_extern Tryz.prog 231 _ (ReflectliteType.abiMethod fun t=>do pure (.int .u8 (← Rtype.kind t))) Tryz.func231 (by kernel_rfl) (by kernel_rfl) (by kernel_rfl) (by kernel_rfl)
 have h37:=@run_callFunc_extern Tryz.prog 246 _ (ReflectliteType.method ReflectliteType.elem) Tryz.func246 (by kernel_rfl) (by kernel_rfl) (by kernel_rfl) (by kernel_rfl)
 have h38:=@run_callFunc_extern Tryz.prog 247 _ (ReflectliteType.relation "Implements" ReflectliteType.implements_) Tryz.func247 (by kernel_rfl) (by kernel_rfl) (by kernel_rfl) (by kernel_rfl)
 have h10:=@run_callFunc_extern Tryz.prog 119 _ ReflectliteType.typeOf Tryz.func119 (by kernel_rfl) (by kernel_rfl) (by kernel_rfl) (by kernel_rfl)
 have h35:=@run_callFunc_extern Tryz.prog 244 _ (ReflectliteType.relation "AssignableTo" ReflectliteType.assignableTo) Tryz.func244 (by kernel_rfl) (by kernel_rfl) (by kernel_rfl) (by kernel_rfl)
 have h11:=@run_callFunc_extern Tryz.prog 120 _ (ReflectliteValue.method (ReflectliteValue.valueError "reflectlite.Value.Elem" 0) ReflectliteValue.elem) Tryz.func120 (by kernel_rfl) (by kernel_rfl) (by kernel_rfl) (by kernel_rfl)
 have h12:=@run_callFunc_extern Tryz.prog 121 _ ReflectliteValue.set Tryz.func121 (by kernel_rfl) (by kernel_rfl) (by kernel_rfl) (by kernel_rfl)
 have tO:=typeOfP
 have mA:=methodAssignableTo
 have a25:=assignableP
 have v25:=valueOfP
 have f6:=valueOfPP
 have f7:=typePP
 have mK:=methodKind
 have mE:=methodElem
 have mI:=methodImplements
 have k27:=kindPP
 have k25:=kindP1
 have e27:=elemPP
 have i25:=implementsP
 have n8:=isNilPP ⟨w.heap.size,0,none⟩ t ((w.alloc (.cells #[.pointer (some t)] 89)).alloc (asV w)) (by simp[asV])
 have hlt:2 < w.heap.size:=by
  rcases Nat.lt_or_ge 2 w.heap.size with h | h
  ·exact h
  ·have:w.heap[2]?=none:=by simp[h]
   simp[World.cell?,this] at hg
 have hg2:((w.alloc (.cells #[.pointer (some t)] 89)).alloc (asV w)).cell? ⟨2,0,none⟩=some (.iface 232 (.agg #[.pointer (some ⟨20,56,none⟩)])):=by
  rw[World.cell?_alloc_lt _ _ ⟨2,0,none⟩ (by simp;omega),World.cell?_alloc_lt _ _ ⟨2,0,none⟩ hlt];exact hg
 have htl:t.block < w.heap.size:=by
  rcases Nat.lt_or_ge t.block w.heap.size with h | h
  ·exact h
  ·simp[World.cell?,Array.getElem?_eq_none h] at ht0
 have el:=elemVPP ⟨w.heap.size,0,none⟩ t (((w.alloc (.cells #[.pointer (some t)] 89)).alloc (asV w)).alloc (asV w)) (by rw[World.cell?_alloc_lt _ _ ⟨w.heap.size,0,none⟩ (by simp;omega)];simp[asV])
 have st:=setP t ⟨w.heap.size+1+1+1,0,none⟩ e old ((((w.alloc (.cells #[.pointer (some t)] 89)).alloc (asV w)).alloc (asV w)).alloc (.cells #[.pointer (some e)] 87))
  (by rw[World.cell?_alloc_at _ _ _ _ (by simp)];rfl)
  (by rw[World.cell?_alloc_lt _ _ t (by simp;omega),World.cell?_alloc_lt _ _ t (by simp;omega),World.cell?_alloc_lt _ _ t (by simp;omega),World.cell?_alloc_lt _ _ t htl];exact ht0)
  (by rw[World.frozen?_alloc_old _ _ t (by simp;omega),World.frozen?_alloc_old _ _ t (by simp;omega),World.frozen?_alloc_old _ _ t (by simp;omega),World.frozen?_alloc_old _ _ t (Nat.ne_of_lt htl)];exact hf0)
 unfold asV at *
 go_enter Tryz.func39,Tryz.ntmps39
 go_wp2
 refine wp_loop_rounds 1 ?_
 rw[rounds_succ]
 go_wp2
 go_ret
 exact ⟨rfl,rfl⟩
set_option maxRecDepth 100000 in
set_option maxHeartbeats 4000000 in
theorem as_miss (e t:Addr) (w:World) (hg:w.cell? ⟨2,0,none⟩=some (.iface 232 (.agg #[.pointer (some ⟨20,56,none⟩)]))) :
  Calls Tryz.prog 39 #[.iface 357 (.pointer (some e)),.iface 89 (.pointer (some t))] w fun ev w'=>ev=.returned (.bool false)∧w'=(((w.alloc (.cells #[.pointer (some t)] 89)).alloc (asV w)).alloc (asV w)):=by
 have h6:=@run_callFunc_extern Tryz.prog 62 _ (fun args=>ReflectliteValue.unpack (args.getD 0 (.tuple #[]))) Tryz.func62 (by kernel_rfl) (by kernel_rfl) (by kernel_rfl) (by kernel_rfl)
 have h7:=@run_callFunc_extern Tryz.prog 63 _ (ReflectliteValue.methodAny (ReflectliteValue.valueError "reflectlite.Value.Type" 0) (fun t _ _ _=>ReflectliteType.toType t)) Tryz.func63 (by kernel_rfl) (by kernel_rfl) (by kernel_rfl) (by kernel_rfl)
 have h8:=@run_callFunc_extern Tryz.prog 64 _ (ReflectliteValue.method (ReflectliteValue.valueError "reflectlite.Value.IsNil" 0) ReflectliteValue.isNil) Tryz.func64 (by kernel_rfl) (by kernel_rfl) (by kernel_rfl) (by kernel_rfl)
 have h27:=@run_callFunc_extern Tryz.prog 231 _ (ReflectliteType.abiMethod fun t=>do pure (.int .u8 (← Rtype.kind t))) Tryz.func231 (by kernel_rfl) (by kernel_rfl) (by kernel_rfl) (by kernel_rfl)
 have h37:=@run_callFunc_extern Tryz.prog 246 _ (ReflectliteType.method ReflectliteType.elem) Tryz.func246 (by kernel_rfl) (by kernel_rfl) (by kernel_rfl) (by kernel_rfl)
 have h38:=@run_callFunc_extern Tryz.prog 247 _ (ReflectliteType.relation "Implements" ReflectliteType.implements_) Tryz.func247 (by kernel_rfl) (by kernel_rfl) (by kernel_rfl) (by kernel_rfl)
 have h10:=@run_callFunc_extern Tryz.prog 119 _ ReflectliteType.typeOf Tryz.func119 (by kernel_rfl) (by kernel_rfl) (by kernel_rfl) (by kernel_rfl)
 have h35:=@run_callFunc_extern Tryz.prog 244 _ (ReflectliteType.relation "AssignableTo" ReflectliteType.assignableTo) Tryz.func244 (by kernel_rfl) (by kernel_rfl) (by kernel_rfl) (by kernel_rfl)
 have tO:=isTypeOf
 have mA:=methodAssignableTo
 have aE:=assignableE
 have f6:=valueOfPP
 have f7:=typePP
 have mK:=methodKind
 have mE:=methodElem
 have mI:=methodImplements
 have k27:=kindPP
 have k25:=kindP1
 have e27:=elemPP
 have i25:=implementsP
 have nE:=noAsE
 have uE:=noUnwrapE
 have vE:=noUnwrapsE
 have n8:=isNilPP ⟨w.heap.size,0,none⟩ t ((w.alloc (.cells #[.pointer (some t)] 89)).alloc (asV w)) (by simp[asV])
 have hlt:2 < w.heap.size:=by
  rcases Nat.lt_or_ge 2 w.heap.size with h | h
  ·exact h
  ·have:w.heap[2]?=none:=by simp[h]
   simp[World.cell?,this] at hg
 have hg2:((w.alloc (.cells #[.pointer (some t)] 89)).alloc (asV w)).cell? ⟨2,0,none⟩=some (.iface 232 (.agg #[.pointer (some ⟨20,56,none⟩)])):=by
  rw[World.cell?_alloc_lt _ _ ⟨2,0,none⟩ (by simp;omega),World.cell?_alloc_lt _ _ ⟨2,0,none⟩ hlt];exact hg
 unfold asV at *
 go_enter Tryz.func39,Tryz.ntmps39
 go_wp2
 refine wp_loop_rounds 1 ?_
 rw[rounds_succ]
 go_wp2
 go_ret
 exact ⟨rfl,rfl⟩
open Go.RowKit
structure Snt (w:World) (E:Nat→Addr):Prop where
 v1:w.cell? ⟨0,0,none⟩=some (.iface 357 (.pointer (some (E 1))))
 v2:w.cell? ⟨1,0,none⟩=some (.iface 357 (.pointer (some (E 2))))
 v3:w.cell? ⟨3,0,none⟩=some (.iface 357 (.pointer (some (E 3))))
 v4:w.cell? ⟨4,0,none⟩=some (.iface 357 (.pointer (some (E 4))))
 v5:w.cell? ⟨5,0,none⟩=some (.iface 357 (.pointer (some (E 5))))
 v6:w.cell? ⟨6,0,none⟩=some (.iface 357 (.pointer (some (E 6))))
 v7:w.cell? ⟨7,0,none⟩=some (.iface 357 (.pointer (some (E 7))))
 v8:w.cell? ⟨8,0,none⟩=some (.iface 357 (.pointer (some (E 8))))
 v9:w.cell? ⟨9,0,none⟩=some (.iface 357 (.pointer (some (E 9))))
 blk:∀ i,1≤i→i≤9→∃ c t,w.heap[(E i).block]?=some (.cells c t (0,0))
 ne:∀ i j,1≤i→i≤9→1≤j→j≤9→i≠j→E i≠E j
 et:w.cell? ⟨2,0,none⟩=some (.iface 232 (.agg #[.pointer (some ⟨20,56,none⟩)]))
theorem Snt.below {w w':World} {E:Nat→Addr} (h:Snt w E) (k:Below w.heap.size w w'):Snt w' E:=by
 have bc:∀ {b o:Nat} {v:Value},w.cell? ⟨b,o,none⟩=some v→w'.cell? ⟨b,o,none⟩=some v:=fun {b o v} hv=>by
  rw[World.cell?_of_block (w:=w) (k.block b (lt_of_cell hv))];exact hv
 refine ⟨bc h.v1,bc h.v2,bc h.v3,bc h.v4,bc h.v5,bc h.v6,bc h.v7,bc h.v8,bc h.v9,fun i h1 h2=>?_,h.ne,bc h.et⟩
 obtain ⟨c,t,hc⟩:=h.blk i h1 h2
 have hl:(E i).block < w.heap.size:=by
  rcases Nat.lt_or_ge (E i).block w.heap.size with hb | hb
  ·exact hb
  ·rw[Array.getElem?_eq_none hb] at hc;cases hc
 exact ⟨c,t,by rw[k.block _ hl];exact hc⟩
theorem is_not {w:World} {E:Nat→Addr} (h:Snt w E) {f p e i:Nat} (hf:FltAt w f p (E e)) (he:1≤e∧e≤9) (hi:1≤i∧i≤9) (hne:e≠i) :
  Calls Tryz.prog 66 #[.iface 87 (.pointer (some ⟨f,0,none⟩)),.iface 357 (.pointer (some (E i)))] w fun e w'=>e=.returned (.bool false)∧w'=w:=by
 obtain ⟨ca,ta,ha⟩:=h.blk e he.1 he.2
 obtain ⟨cb,tb,hb⟩:=h.blk i hi.1 hi.2
 exact is_fault_other f _ _ _ _ _ _ w (by unfold FltAt at hf;simp[World.cell?,hf]) (h.ne e i he.1 he.2 hi.1 hi.2 hne) ha hb
theorem is_yes {w:World} {E:Nat→Addr} {f p e:Nat} (hf:FltAt w f p (E e)) :
  Calls Tryz.prog 66 #[.iface 87 (.pointer (some ⟨f,0,none⟩)),.iface 357 (.pointer (some (E e)))] w fun e w'=>e=.returned (.bool true)∧w'=w :=
 is_fault_same f _ w (by unfold FltAt at hf;simp[World.cell?,hf])
theorem number_nil (w:World):Calls Tryz.prog 40 #[.nilIface] w fun r w'=>r=.returned (.int .i64 0)∧w'=w:=by
 go_enter Tryz.func40,Tryz.ntmps40
 go_wp2_with fail
 go_ret
 exact ⟨rfl,rfl⟩
theorem number_long (E:Nat→Addr) (w:World) (h:Snt w E):Calls Tryz.prog 40 #[.iface 357 (.pointer (some (E 1)))] w fun r w'=>r=.returned (.int .i64 1)∧w'=w:=by
 have v1:=h.v1
 clear h
 go_enter Tryz.func40,Tryz.ntmps40
 go_wp2_with fail
 refine (is_same (E 1) w).mono ?_
 rintro e w' ⟨rfl,rfl⟩
 go_wp2_with fail
 go_ret
 exact ⟨rfl,rfl⟩
theorem number_fault (E:Nat→Addr) (e p f:Nat) (w:World) (h:Snt w E) (hf:FltAt w f p (E e)) (he:2≤e∧e≤6):Calls Tryz.prog 40 #[.iface 87 (.pointer (some ⟨f,0,none⟩))] w fun r w'=>r=.returned (.int .i64 (e:Int))∧w'=w:=by
 have v1:=h.v1
 have v3:=h.v3
 have v4:=h.v4
 have v5:=h.v5
 have v6:=h.v6
 have v7:=h.v7
 have v8:=h.v8
 have v9:=h.v9
 have H:Hid (Snt w E∧FltAt w f p (E e)):=⟨h,hf⟩
 clear h hf
 have hc:e=2∨e=3∨e=4∨e=5∨e=6:=by omega
 go_enter Tryz.func40,Tryz.ntmps40
 go_wp2_with fail
 refine (is_not H.out.1 (i:=1) H.out.2 (by omega) (by omega) (by omega)).mono ?_
 rintro r w' ⟨rfl,rfl⟩
 rcases hc with rfl | rfl | rfl | rfl | rfl
 ·go_wp2_with fail
  refine (is_not H.out.1 (i:=3) H.out.2 (by omega) (by omega) (by omega)).mono ?_
  rintro r w' ⟨rfl,rfl⟩
  go_wp2_with fail
  refine (is_not H.out.1 (i:=4) H.out.2 (by omega) (by omega) (by omega)).mono ?_
  rintro r w' ⟨rfl,rfl⟩
  go_wp2_with fail
  refine (is_not H.out.1 (i:=5) H.out.2 (by omega) (by omega) (by omega)).mono ?_
  rintro r w' ⟨rfl,rfl⟩
  go_wp2_with fail
  refine (is_not H.out.1 (i:=6) H.out.2 (by omega) (by omega) (by omega)).mono ?_
  rintro r w' ⟨rfl,rfl⟩
  go_wp2_with fail
  refine (is_not H.out.1 (i:=7) H.out.2 (by omega) (by omega) (by omega)).mono ?_
  rintro r w' ⟨rfl,rfl⟩
  go_wp2_with fail
  refine (is_not H.out.1 (i:=8) H.out.2 (by omega) (by omega) (by omega)).mono ?_
  rintro r w' ⟨rfl,rfl⟩
  go_wp2_with fail
  refine (is_not H.out.1 (i:=9) H.out.2 (by omega) (by omega) (by omega)).mono ?_
  rintro r w' ⟨rfl,rfl⟩
  go_wp2_with fail
  go_ret
  exact ⟨rfl,rfl⟩
 ·go_wp2_with fail
  refine (is_yes H.out.2).mono ?_
  rintro r w' ⟨rfl,rfl⟩
  go_wp2_with fail
  go_ret
  exact ⟨rfl,rfl⟩
 ·go_wp2_with fail
  refine (is_not H.out.1 (i:=3) H.out.2 (by omega) (by omega) (by omega)).mono ?_
  rintro r w' ⟨rfl,rfl⟩
  go_wp2_with fail
  refine (is_yes H.out.2).mono ?_
  rintro r w' ⟨rfl,rfl⟩
  go_wp2_with fail
  go_ret
  exact ⟨rfl,rfl⟩
 ·go_wp2_with fail
  refine (is_not H.out.1 (i:=3) H.out.2 (by omega) (by omega) (by omega)).mono ?_
  rintro r w' ⟨rfl,rfl⟩
  go_wp2_with fail
  refine (is_not H.out.1 (i:=4) H.out.2 (by omega) (by omega) (by omega)).mono ?_
  rintro r w' ⟨rfl,rfl⟩
  go_wp2_with fail
  refine (is_yes H.out.2).mono ?_
  rintro r w' ⟨rfl,rfl⟩
  go_wp2_with fail
  go_ret
  exact ⟨rfl,rfl⟩
 ·go_wp2_with fail
  refine (is_not H.out.1 (i:=3) H.out.2 (by omega) (by omega) (by omega)).mono ?_
  rintro r w' ⟨rfl,rfl⟩
  go_wp2_with fail
  refine (is_not H.out.1 (i:=4) H.out.2 (by omega) (by omega) (by omega)).mono ?_
  rintro r w' ⟨rfl,rfl⟩
  go_wp2_with fail
  refine (is_not H.out.1 (i:=5) H.out.2 (by omega) (by omega) (by omega)).mono ?_
  rintro r w' ⟨rfl,rfl⟩
  go_wp2_with fail
  refine (is_yes H.out.2).mono ?_
  rintro r w' ⟨rfl,rfl⟩
  go_wp2_with fail
  go_ret
  exact ⟨rfl,rfl⟩
theorem told_nil (w:World):Calls Tryz.prog 26 #[.nilIface] w fun r w'=>r=.returned (.tuple #[.int .i64 0,.int .i64 0])∧Below w.heap.size w w':=by
 go_enter Tryz.func26,Tryz.ntmps26
 go_wp2_with fail
 refine (as_nil _ _).mono ?_
 rintro r w' ⟨rfl,rfl⟩
 go_wp2_with fail
 refine (number_nil _).mono ?_
 rintro r w' ⟨rfl,rfl⟩
 go_wp2_with fail
 go_ret2
 exact ⟨rfl,(Below.refl _ _).alloc (Nat.le_refl _) _⟩
theorem told_long (E:Nat→Addr) (w:World) (h:Snt w E):Calls Tryz.prog 26 #[.iface 357 (.pointer (some (E 1)))] w fun r w'=>r=.returned (.tuple #[.int .i64 1,.int .i64 0])∧Below w.heap.size w w':=by
 have H:Hid (Snt w E):=h
 have hb:Hid (Below w.heap.size w (w.alloc (.cells #[.pointer none] 87))):=(Below.refl _ _).alloc (Nat.le_refl _) _
 clear h
 go_enter Tryz.func26,Tryz.ntmps26
 go_wp2_with fail
 refine (as_miss (E 1) _ _ (H.out.below hb.out).et).mono ?_
 rintro r w' ⟨rfl,rfl⟩
 have hb2:Hid (Below w.heap.size w ((((w.alloc (.cells #[.pointer none] 87)).alloc (.cells #[.pointer (some ⟨w.heap.size,0,none⟩)] 89)).alloc (asV (w.alloc (.cells #[.pointer none] 87)))).alloc (asV (w.alloc (.cells #[.pointer none] 87))))) :=
  (((hb.out.alloc (by simp) _).alloc (by simp;omega) _).alloc (by simp;omega) _)
 go_wp2_with fail
 refine (number_long E _ (H.out.below hb2.out)).mono ?_
 rintro r w' ⟨rfl,rfl⟩
 go_wp2_with fail
 go_ret2
 exact ⟨rfl,hb2.out⟩
def toldW (w:World) (f:Nat):World:=(((((w.alloc (.cells #[.pointer none] 87)).alloc (.cells #[.pointer (some ⟨w.heap.size,0,none⟩)] 89)).alloc (asV (w.alloc (.cells #[.pointer none] 87)))).alloc (asV (w.alloc (.cells #[.pointer none] 87)))).alloc (.cells #[.pointer (some ⟨f,0,none⟩)] 87)).setCell ⟨w.heap.size,0,none⟩ (.pointer (some ⟨f,0,none⟩))
theorem toldW_below (w:World) (f:Nat):Below w.heap.size w (toldW w f) :=
 (((((((Below.refl _ _).alloc (Nat.le_refl _) _).alloc (by simp) _).alloc (by simp;omega) _).alloc (by simp;omega) _).alloc (by simp;omega) _).setCell (p:=⟨w.heap.size,0,none⟩) (Nat.le_refl _) _)
theorem toldW_cell (w:World) (f:Nat):(toldW w f).cell? ⟨w.heap.size,0,none⟩=some (.pointer (some ⟨f,0,none⟩)):=by
 have h0:(w.alloc (.cells #[.pointer none] 87)).heap[w.heap.size]?=some (.cells #[.pointer none] 87):=by
  show (w.heap.push _)[w.heap.size]?=_
  rw[Array.getElem?_push,if_pos rfl]
 have h1:(((((w.alloc (.cells #[.pointer none] 87)).alloc (.cells #[.pointer (some ⟨w.heap.size,0,none⟩)] 89)).alloc (asV (w.alloc (.cells #[.pointer none] 87)))).alloc (asV (w.alloc (.cells #[.pointer none] 87)))).alloc (.cells #[.pointer (some ⟨f,0,none⟩)] 87)).heap[w.heap.size]?=some (.cells #[.pointer none] 87):=by
  rw[Below.heap_alloc _ _ _ (by simp;omega),Below.heap_alloc _ _ _ (by simp;omega),Below.heap_alloc _ _ _ (by simp;omega),Below.heap_alloc _ _ _ (by simp)]
  exact h0
 unfold toldW
 generalize (((((w.alloc (.cells #[.pointer none] 87)).alloc (.cells #[.pointer (some ⟨w.heap.size,0,none⟩)] 89)).alloc (asV (w.alloc (.cells #[.pointer none] 87)))).alloc (asV (w.alloc (.cells #[.pointer none] 87)))).alloc (.cells #[.pointer (some ⟨f,0,none⟩)] 87))=X at h1 ⊢
 simp[World.cell?,World.setCell,Array.getElem?_modify,h1]
theorem told_fault (E:Nat→Addr) (e p f:Nat) (w:World) (h:Snt w E) (hf:FltAt w f p (E e)) (he:2≤e∧e≤6):Calls Tryz.prog 26 #[.iface 87 (.pointer (some ⟨f,0,none⟩))] w fun r w'=>r=.returned (.tuple #[.int .i64 (e:Int),.int .i64 (p:Int)])∧Below w.heap.size w w':=by
 have hfl:f < w.heap.size:=by
  unfold FltAt at hf
  rcases Nat.lt_or_ge f w.heap.size with hb | hb
  ·exact hb
  ·rw[Array.getElem?_eq_none hb] at hf;cases hf
 have H:Hid (Snt w E):=h
 have hb:Hid (Below w.heap.size w (w.alloc (.cells #[.pointer none] 87))):=(Below.refl _ _).alloc (Nat.le_refl _) _
 have hb2:Hid (Below w.heap.size w (toldW w f)):=toldW_below w f
 have hb3:Hid (Below w.heap.size w (toldW w f).drew):=⟨hb2.out.os,hb2.out.tape,hb2.out.output,hb2.out.size,hb2.out.block⟩
 have hc:=toldW_cell w f
 have hF:Hid (FltAt (toldW w f) f p (E e)):=by
  unfold Hid FltAt
  rw[(toldW_below w f).block f hfl];exact hf
 have hp:(toldW w f).cell? ⟨f,0,none⟩=some (.int .i64 (p:Int)):=by
  have:=hF.out
  unfold FltAt at this
  simp[World.cell?,this]
 clear h hf
 go_enter Tryz.func26,Tryz.ntmps26
 go_wp2_with fail
 refine (as_hit ⟨f,0,none⟩ _ (.pointer none) _ (H.out.below hb.out).et (by simp) (by simp)).mono ?_
 rintro r w' ⟨rfl,hw⟩
 have hw':w'=toldW w f:=hw
 subst hw'
 clear hw
 go_wp2_with fail
 go_region_with (go_at_call 40;refine (number_fault E e p f _ ?_ ?_ he).mono ?_;exact H.out.below hb3.out;exact hF.out;rintro r w' ⟨rfl,rfl⟩)
 all_goals (try go_wp2_with fail)
 all_goals (go_ret2;exact ⟨rfl,hb3.out⟩)
end Lg
namespace Px
def E4 (c:Lk):Prop:=c.e=0∨c.e=4∨c.e=5∨c.e=6
theorem noteP_e {c:Lk} (h:E4 c) {e:Nat} (he:e=4∨e=5∨e=6) (p:Nat):E4 (noteP e p c):=by
 unfold noteP
 split
 ·exact Or.inr he
 ·exact h
theorem kindP_e (x:Ex):∀ c,E4 c→E4 (kindP x c).2:=by
 match x with
 | ⟨op,n,word,pl,own,none,_⟩ =>
  intro c h
  simp only[kindP,leafP]
  split
  ·exact h
  ·split
   ·exact h
   ·split
    ·exact noteP_e h (by omega) _
    ·exact h
 | ⟨op,n,word,pl,own,some l,none⟩ =>
  intro c h
  simp only[kindP,notP]
  split
  ·exact kindP_e l c h
  ·exact noteP_e (kindP_e l c h) (by omega) _
 | ⟨op,n,word,pl,own,some l,some r⟩ =>
  intro c h
  simp only[kindP,binP]
  split
  ·exact kindP_e r _ (kindP_e l c h)
  ·exact noteP_e (kindP_e r _ (kindP_e l c h)) (by omega) _
theorem giveP_e {c:Lk} (h:E4 c) (w:ByteArray) (p k:Nat):E4 (giveP w p k c):=by
 unfold giveP
 split
 ·exact h
 ·split
  ·exact h
  ·exact noteP_e h (by omega) _
theorem rootP_e {c:Lk} (h:E4 c) (x:Ex) (k:Nat):E4 (rootP x k c):=by
 unfold rootP
 split
 ·exact kindP_e x c h
 ·exact noteP_e (kindP_e x c h) (by omega) _
theorem argP_e {c:Lk} (h:E4 c) (x:Option Ex):E4 (argP x c):=by
 cases x with
 | none=>exact h
 | some x=>exact rootP_e h x 105
theorem asP_e {c:Lk} (h:E4 c) (w:ByteArray) (p:Nat):E4 (asP w p c):=by
 unfold asP
 split
 ·exact h
 ·exact giveP_e h _ _ _
theorem countP_e {c:Lk} (h:E4 c) (n p a b:Nat):E4 (countP n p a b c):=by
 unfold countP
 split
 ·exact noteP_e h (by omega) _
 ·exact h
theorem lookP_e (l:List Sm):∀ c,E4 c→E4 (lookP l c):=by
 match l with
 | []=>intro c h;rw[lookP_nil];exact h
 | ⟨op,word,pl,ex,asw,asPl,undo,n,nPl,one,two⟩::rest =>
  intro c h
  rw[lookP_cons]
  refine lookP_e rest _ ?_
  unfold lookX'
  simp only
  split
  ·cases ex with
   | none=>exact h
   | some e=>exact giveP_e (kindP_e e c h) _ _ _
  ·split
   ·exact countP_e (asP_e (argP_e h _) _ _) _ _ _ _
   ·split
    ·cases ex with
     | none=>exact h
     | some e=>exact lookP_e two _ (lookP_e one _ (rootP_e h e 98))
    ·split
     ·exact lookP_e two _ (lookP_e one _ h)
     ·split
      ·exact lookP_e one _ (countP_e h _ _ _ _)
      ·exact h
theorem read_err {s:ByteArray} {c p:Nat} (hs:s.size≤300) (h:read s=.error (c,p)):c=2∨c=3:=by
 unfold read at h
 rw[if_neg (by omega)] at h
 split at h
 ·cases h;exact Or.inl rfl
 ·split at h
  ·cases h;exact Or.inr rfl
  ·cases h
theorem check_ok {s:ByteArray} {l:List Sm} (h:read s=.ok l):check s=(if (lookP l ⟨[],0,0⟩).e=0 then (0,0) else ((lookP l ⟨[],0,0⟩).e,(lookP l ⟨[],0,0⟩).pl)):=by
 unfold check
 rw[h]
 simp only
 rw[read_look h]
theorem check_err {s:ByteArray} {r:Nat×Nat} (h:read s=.error r):check s=r:=by
 unfold check
 rw[h]
end Px
open Go.RowKit
namespace Lg
structure Gw (w:World) (E:Nat→Addr):Prop where
 s:Snt w E
 ops:∀ j (hj:j < 28),w.cell? ⟨16,j,none⟩=some (opsC[j]'hj)
 lo:20≤w.heap.size
theorem Gw.below {w w':World} {E:Nat→Addr} (h:Gw w E) (k:Below w.heap.size w w'):Gw w' E :=
 ⟨h.s.below k,fun j hj=>by rw[World.cell?_of_block (w:=w) (k.block _ (by show 16 < w.heap.size;have:=h.lo;omega))];exact h.ops j hj,Nat.le_trans h.lo k.size⟩
theorem Gw.gl {w:World} {E:Nat→Addr} (h:Gw w E):Gl w (w.heap.size+2) (E 2) (E 3):=⟨h.s.v2,h.s.v3,h.ops,by have:=h.lo;omega⟩
theorem Gw.gc {w:World} {E:Nat→Addr} (h:Gw w E):Gc w w.heap.size E:=⟨h.s.v4,h.s.v5,h.s.v6,h.ops,h.lo⟩
def ReadPost (s:ByteArray) (E:Nat→Addr) (w:World) (e:Ending) (w':World):Prop :=
 Below w.heap.size w w'∧∃ v er,e=.returned (.tuple #[v,er]) ∧
  ((Px.check s=(0,0)∧er=.nilIface∧∃ l vs,Px.read s=.ok l∧SlL w' v vs (· < w'.heap.size)∧LsAt w' l (· < w'.heap.size) vs) ∨
   (Px.check s=(1,0)∧er=.iface 357 (.pointer (some (E 1)))) ∨
   (∃ c p f,2≤c∧c≤6∧Px.check s=(c,p)∧er=.iface 87 (.pointer (some ⟨f,0,none⟩))∧FltAt w' f p (E c)))
set_option maxRecDepth 100000 in
theorem read_any (E:Nat→Addr) (hblk:∀ l,Px.WfS l→∀ c m B,BlockOk c m B E l) (s:ByteArray) (w:World) (hs:s.size≤maxLen) (g:Gw w E) :
  Calls Tryz.prog 25 #[.string s] w (ReadPost s E w):=by
 unfold maxLen at hs
 have v1:=g.s.v1
 have G0:Hid (Gw w E):=g
 have HB:Hid (∀ l,Px.WfS l→∀ c m B,BlockOk c m B E l):=hblk
 clear g hblk
 by_cases h300:300 < s.size
 ·have t1:(300:Int) < s.size:=by omega
  have hck:Hid (Px.check s=(1,0)):=Px.check_err (by unfold Px.read;rw[if_pos h300])
  go_enter Tryz.func25,Tryz.ntmps25
  go_wp2_with fail
  go_region
  all_goals
   go_wp2_with fail
   go_ret2
   exact ⟨below_drew (Below.refl _ _),_,_,rfl,Or.inr (Or.inl ⟨hck.out,rfl⟩)⟩
 ·have t1:¬ (300:Int) < s.size:=by omega
  go_enter Tryz.func25,Tryz.ntmps25
  go_wp2_with fail
  refine (parse_any s (E 2) (E 3) w (by omega) G0.out.lo G0.out.gl).mono ?_
  rintro e w1 ⟨hb,v,er,rfl,hp⟩
  cases hr:Px.read s with
  | error r =>
   obtain ⟨c,p⟩:=r
   rw[hr] at hp
   obtain ⟨rfl,f,rfl,hf⟩:=hp
   have hc:=Px.read_err (by omega) hr
   have hF:Hid (FltAt w1 f p (E c)):=by
    rcases hc with rfl | rfl
    ·exact hf
    ·exact hf
   have HH:Hid (Below w.heap.size w w1∧Px.check s=(c,p)):=⟨hb,Px.check_err hr⟩
   clear hb hf
   unfold Ref.ptr
   go_wp2_with fail
   go_ret2
   exact ⟨HH.out.1,_,_,rfl,Or.inr (Or.inr ⟨c,p,f,by omega,by omega,HH.out.2,rfl,hF.out⟩)⟩
  | ok l =>
   rw[hr] at hp
   obtain ⟨rfl,vs,hs1,hl1⟩:=hp
   obtain ⟨a,n,cp,rfl⟩:=hs1.form
   have hs2:SlL w1 (.slice a n cp) vs (· < w1.heap.size):=hs1.mono fun k hk=>hk.2
   have hl2:LsAt w1 l (· < w1.heap.size) vs:=hl1.mono fun k hk=>hk.2
   have HC:Hid (_):=checkBlock_any E l w1 (fun c m=>HB.out l (Px.read_makes hr).1 c m _) (.slice a n cp) vs hs2 hl2 (G0.out.below hb).gc
   have HH:Hid (Below w.heap.size w w1∧SlL w1 (.slice a n cp) vs (· < w1.heap.size)∧LsAt w1 l (· < w1.heap.size) vs∧Px.read s=.ok l):=⟨hb,hs2,hl2,hr⟩
   have hck:Hid (_):=Px.check_ok hr
   have hE:Hid (Px.E4 (Px.lookP l ⟨[],0,0⟩)):=Px.lookP_e l _ (Or.inl rfl)
   clear hb hs1 hl1 hs2 hl2 hr
   generalize Px.lookP l ⟨[],0,0⟩=K at *
   go_wp2_with fail
   refine (Calls.mono HC.out ?_)
   rintro e w2 ⟨hb2,er,rfl,hK⟩
   have hb3:Hid (Below w.heap.size w w2):=HH.out.1.trans (hb2.mono HH.out.1.size)
   have hS:Hid (SlL w2 (.slice a n cp) vs (· < w2.heap.size)∧LsAt w2 l (· < w2.heap.size) vs):=⟨(HH.out.2.1.below hb2).mono fun k hk=>Nat.lt_of_lt_of_le hk hb2.size,(HH.out.2.2.1.below hb2).mono fun k hk=>Nat.lt_of_lt_of_le hk hb2.size⟩
   clear hb2
   rcases hK with ⟨hK,rfl⟩ | ⟨hK,f,rfl,hF⟩
   ·go_wp2_with fail
    go_ret2
    refine ⟨hb3.out,_,_,rfl,Or.inl ⟨?_,rfl,l,vs,HH.out.2.2.2,hS.out.1,hS.out.2⟩⟩
    rw[hck.out,if_pos hK]
   ·have HF:Hid (FltAt w2 f K.pl (E K.e)):=hF
    clear hF
    go_wp2_with fail
    go_ret2
    refine ⟨hb3.out,_,_,rfl,Or.inr (Or.inr ⟨K.e,K.pl,f,?_,?_,?_,rfl,HF.out⟩)⟩
    ·have:=hE.out;unfold Px.E4 at this;omega
    ·have:=hE.out;unfold Px.E4 at this;omega
    ·rw[hck.out,if_neg hK]
set_option maxRecDepth 100000 in
theorem check_any (E:Nat→Addr) (hblk:∀ l,Px.WfS l→∀ c m B,BlockOk c m B E l) (s:ByteArray) (w:World) (hs:s.size≤maxLen) (g:Gw w E) :
  Calls Tryz.prog 12 #[.string s] w fun e w'=>e=.returned (.tuple #[.int .i64 ((Px.check s).1:Int),.int .i64 ((Px.check s).2:Int)])∧Below w.heap.size w w':=by
 have G0:Hid (Gw w E):=g
 have HR:Hid (Calls Tryz.prog 25 #[.string s] w (ReadPost s E w)):=read_any E hblk s w hs g
 clear g hblk hs
 go_enter Tryz.func12,Tryz.ntmps12
 go_wp2_with fail
 refine HR.out.mono ?_
 rintro e w1 ⟨hb,v,er,rfl,hc⟩
 have HB:Hid (Below w.heap.size w w1):=hb
 have G1:Hid (Gw w1 E):=G0.out.below hb
 clear hb
 rcases hc with ⟨h1,rfl,_⟩ | ⟨h1,rfl⟩ | ⟨c,p,f,h2,h3,h1,rfl,hF⟩
 ·go_wp2_with fail
  refine (told_nil _).mono ?_
  rintro e w2 ⟨rfl,b2⟩
  have B2:Hid (Below w.heap.size w w2):=HB.out.trans (b2.mono HB.out.size)
  clear b2
  go_wp2_with fail
  go_ret2
  exact ⟨by rw[h1];rfl,B2.out⟩
 ·go_wp2_with fail
  refine (told_long E _ G1.out.s).mono ?_
  rintro e w2 ⟨rfl,b2⟩
  have B2:Hid (Below w.heap.size w w2):=HB.out.trans (b2.mono HB.out.size)
  clear b2
  go_wp2_with fail
  go_ret2
  exact ⟨by rw[h1];rfl,B2.out⟩
 ·have HF:Hid (FltAt w1 f p (E c)):=hF
  clear hF
  go_wp2_with fail
  refine (told_fault E c p f _ G1.out.s HF.out ⟨h2,h3⟩).mono ?_
  rintro e w2 ⟨rfl,b2⟩
  have B2:Hid (Below w.heap.size w w2):=HB.out.trans (b2.mono HB.out.size)
  clear b2
  go_wp2_with fail
  go_ret2
  exact ⟨by rw[h1];rfl,B2.out⟩
open Go.RowKit
def pairW (w:World) (i tk mk:Nat):World:=w.alloc (.cells #[.string (tx i),.int .i64 (lv i),.int .i64 (kk tk:Int),.int .i64 (kk mk:Int)] 355)
theorem Ck.alloc {w:World} {c m B:Nat} {E:Nat→Addr} {K:Px.Lk} (h:Ck w c m B E K) (o:Obj):Ck (w.alloc o) c m B E K:=by
 have hf:Fr c m w (w.alloc o):=(Fr.refl c m w).alloc o
 refine ⟨h.g.below (h.fr hf),h.bc,?_⟩
 obtain ⟨pf,h1,h2,h3,⟨es,ck,h4,h4'⟩,h5⟩:=h.ex
 refine ⟨pf,by rw[Below.heap_alloc _ _ _ (lt_of_block h1)];exact h1,h2,h3,⟨es,ck,by rw[Below.heap_alloc _ _ _ (lt_of_block h4)];exact h4,h4'⟩,?_⟩
 rcases h5 with h5 | ⟨h5,f,h6,h7,h8,h9,h10⟩
 ·exact Or.inl h5
 ·refine Or.inr ⟨h5,f,h6,h7,h8,h9,?_⟩
  unfold FltAt at h10 ⊢
  rw[Below.heap_alloc _ _ _ (lt_of_block h10)];exact h10
def Op7 (op:Nat):Prop:=op=42∨op=47∨op=43∨op=45∨op=60∨op=61∨op=35
theorem ops_cells {w:World} {B:Nat} {E:Nat→Addr} (g:Gc w B E) {op:Nat} (hop:Op7 op) :
  w.cell? ⟨16,opIx op * 4,none⟩=some (.string (tx (opIx op)))∧w.cell? ⟨16,opIx op * 4+1,none⟩=some (.int .i64 (lv (opIx op))) ∧
  w.cell? ⟨16,opIx op * 4+2,none⟩=some (.int .i64 (kk (Px.takesP op):Int))∧w.cell? ⟨16,opIx op * 4+3,none⟩=some (.int .i64 (kk (Px.makesP op):Int)):=by
 rcases hop with rfl | rfl | rfl | rfl | rfl | rfl | rfl
 ·exact ⟨g.ops 8 (by decide),g.ops 9 (by decide),g.ops 10 (by decide),g.ops 11 (by decide)⟩
 ·exact ⟨g.ops 12 (by decide),g.ops 13 (by decide),g.ops 14 (by decide),g.ops 15 (by decide)⟩
 ·exact ⟨g.ops 0 (by decide),g.ops 1 (by decide),g.ops 2 (by decide),g.ops 3 (by decide)⟩
 ·exact ⟨g.ops 4 (by decide),g.ops 5 (by decide),g.ops 6 (by decide),g.ops 7 (by decide)⟩
 ·exact ⟨g.ops 16 (by decide),g.ops 17 (by decide),g.ops 18 (by decide),g.ops 19 (by decide)⟩
 ·exact ⟨g.ops 20 (by decide),g.ops 21 (by decide),g.ops 22 (by decide),g.ops 23 (by decide)⟩
 ·exact ⟨g.ops 24 (by decide),g.ops 25 (by decide),g.ops 26 (by decide),g.ops 27 (by decide)⟩
theorem takes_k3 {op:Nat}:Px.K3 (Px.takesP op):=by unfold Px.takesP;split;exact Or.inr (Or.inr rfl);exact Or.inl rfl
theorem opIx_lt (op:Nat):opIx op < 7:=by
 unfold opIx
 repeat' split
 all_goals omega
end Lg
end Go.Proofs.YtnhkpbmplefnaaaGreatDoor
