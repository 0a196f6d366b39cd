import Derived.Test.YtokkhhekekeokaaGreatDoorC00
import Derived.Test.YtokkhhekekeokaaGreatDoorProg
import Derived.Stop.Asserts
import Derived.RowKitTokens
set_option maxRecDepth 100000
set_option maxHeartbeats 4000000
namespace Go.Proofs.YtokkhhekekeokaaGreatDoor
open Go.RowKit Go.Extern.Stop Go.Stop Go.Extern Tryz
namespace Lg
theorem BI (v:fC)(w:fu):(Extern.ReflectliteType.typeOf #[.iface 337 v]).run prog w=.ok (.iface 207 (.agg #[.pointer (some ⟨17,337,none⟩)])) w:=by kernel_rfl
theorem FR (w:fu):((Extern.ReflectliteType.method fun t=>do Extern.Rtype.noPackHeld "Comparable" t;Functor.map (fun a=>Value.bool a.comparable) (typeInfo t)) #[.agg #[.pointer (some ⟨17,337,none⟩)]]).run prog w=.ok (.bool true) w:=by kernel_rfl
theorem FT (v:fC)(w:fu):(Go.method 479 207 v "Comparable").run prog w=.ok (220,v) w:=by kernel_rfl
theorem FU:(prog.info? 337).map (·.comparable)=some true:=by kernel_rfl
theorem FV:(prog.info? 364).map (·.size)=some 1:=by kernel_rfl
theorem I9 (v:fC)(xT:TypeId)(w:fu):(Instr.typeAssert (.iface 337 v) xT 283 true).run prog w=.ok (.tuple #[.nilIface,.bool false]) w:=run_typeAssert_lacksB underlying283 (by kernel_rfl) (by kernel_rfl) v xT w
theorem DL (v:fC)(xT:TypeId)(w:fu):(Instr.typeAssert (.iface 337 v) xT 215 true).run prog w=.ok (.tuple #[.nilIface,.bool false]) w:=run_typeAssert_lacksB underlying215 (by kernel_rfl) (by kernel_rfl) v xT w
theorem DN (v:fC)(xT:TypeId)(w:fu):(Instr.typeAssert (.iface 337 v) xT 216 true).run prog w=.ok (.tuple #[.nilIface,.bool false]) w:=run_typeAssert_lacksB underlying216 (by kernel_rfl) (by kernel_rfl) v xT w
theorem XO (v:fC)(xT:TypeId)(w:fu):(Instr.typeAssert (.iface 70 v) xT 283 true).run prog w=.ok (.tuple #[.nilIface,.bool false]) w:=run_typeAssert_lacksB underlying283 (by kernel_rfl) (by kernel_rfl) v xT w
theorem XP (v:fC)(xT:TypeId)(w:fu):(Instr.typeAssert (.iface 70 v) xT 215 true).run prog w=.ok (.tuple #[.iface 70 v,.bool true]) w:=run_typeAssert_hasB underlying215 (by kernel_rfl) v xT w
theorem XQ (v:fC)(w:fu):(Go.method 479 70 v "Unwrap").run prog w=.ok (211,v) w:=by kernel_rfl
abbrev Ja:=@run_callFunc_extern prog 96 _ Extern.ReflectliteType.typeOf func96 (by kernel_rfl) (by kernel_rfl) (by kernel_rfl) (by kernel_rfl)
abbrev yx:=@run_callFunc_extern prog 220 _ (Extern.ReflectliteType.method fun t=>do Extern.Rtype.noPackHeld "Comparable" t;pure (.bool (<- typeInfo t).comparable)) func220 (by kernel_rfl) (by kernel_rfl) (by kernel_rfl) (by kernel_rfl)
theorem XR (a:Addr)(w:fu) :
  Calls prog 48 #[.iface 337 (.pointer (some a)),.iface 337 (.pointer (some a))] w fun e w'=>e=.returned (.bool true)/\w'=w:=by
 obtain ⟨i,hi,hcmp⟩:=bE.1 FU;obtain ⟨j,hj,hjs⟩:=bE.1 FV;have h8:=Ja;have h32:=yx;have tT:=BI;have cT:=FR;have mR:=FT;have heq:=run_eql_iface_ptr_same (P:=prog) w a underlying43 underlying337 hi hcmp hj;go_enter func48,ntmps48
 go_wp2;refine wp_loop_rounds 1 ?_;rw[rounds_succ];go_wp2;go_ret;exact ⟨rfl,rfl⟩
theorem Z3 (f:Nat)(b:Addr)(w:fu)(h1:w.cell? ⟨f,1,none⟩=some (.iface 337 (.pointer (some b)))) :
  Calls prog 48 #[.iface 70 (.pointer (some ⟨f,0,none⟩)),.iface 337 (.pointer (some b))] w fun e w'=>e=.returned (.bool true)/\w'=w:=by
 obtain ⟨i,hi,hcmp⟩:=bE.1 FU;obtain ⟨j,hj,hjs⟩:=bE.1 FV;have h8:=Ja;have h32:=yx;have tT:=BI;have cT:=FR;have mR:=FT;have nE:=I9;have uE:=DL;have vE:=DN;have nW:=XO;have uW:=XP;have mU:=XQ;have heq:=run_eql_iface_ptr_same (P:=prog) w b underlying43 underlying337 hi hcmp hj;have hty:=run_eql_iface_types (P:=prog) 70 337 (.pointer (some ⟨f,0,none⟩)) (.pointer (some b)) underlying43 (by decide) w
 go_enter func48,ntmps48
 go_wp2;refine wp_loop_rounds 2 ?_;rw[rounds_succ];go_wp2;rw[rounds_succ];go_wp2;go_ret;exact ⟨rfl,rfl⟩
theorem qqt (f:Nat)(b a:Addr)(ca cb:Array fC)(ta tb:TypeId)(w:fu)(h1:w.cell? ⟨f,1,none⟩=some (.iface 337 (.pointer (some a))))(hne:a≠b)(ha:w.heap[a.block]?=some (.cells ca ta (0,0)))(hb:w.heap[b.block]?=some (.cells cb tb (0,0))) :
  Calls prog 48 #[.iface 70 (.pointer (some ⟨f,0,none⟩)),.iface 337 (.pointer (some b))] w fun e w'=>e=.returned (.bool false)/\w'=w:=by
 obtain ⟨i,hi,hcmp⟩:=bE.1 FU;obtain ⟨j,hj,hjs⟩:=bE.1 FV;have h8:=Ja;have h32:=yx;have tT:=BI;have cT:=FR;have mR:=FT;have nE:=I9;have uE:=DL;have vE:=DN;have nW:=XO;have uW:=XP;have mU:=XQ;have heq:=run_eql_iface_ptr_other (P:=prog) w underlying43 underlying337 hi hcmp hj (by rw[hjs];decide) hne ha hb
 have hty:=run_eql_iface_types (P:=prog) 70 337 (.pointer (some ⟨f,0,none⟩)) (.pointer (some b)) underlying43 (by decide) w
 go_enter func48,ntmps48
 go_wp2;refine wp_loop_rounds 2 ?_;rw[rounds_succ];go_wp2;rw[rounds_succ];go_wp2;go_ret;exact ⟨rfl,rfl⟩
theorem QI (t:Addr)(w:fu):(ReflectliteValue.unpack (.iface 72 (.pointer (some t)))).run prog w
  = .ok (.agg #[.pointer (some ⟨17,72,none⟩),.pointer (some ⟨w.heap.size,0,none⟩),.int .u64 150]) (w.alloc (.cells #[.pointer (some t)] 72)):=by kernel_rfl
theorem QJ (a:Addr)(w:fu):(ReflectliteValue.methodAny (ReflectliteValue.valueError "reflectlite.Value.Type" 0) (fun t _ _ _=>ReflectliteType.toType t) #[.agg #[.pointer (some ⟨17,72,none⟩),.pointer (some a),.int .u64 150]]).run prog w
  = .ok (.iface 207 (.agg #[.pointer (some ⟨17,72,none⟩)])) w:=by kernel_rfl
theorem QK (h:fC)(w:fu):(Go.method 479 207 (.agg #[h]) "Kind").run prog w=.ok (207,h) w:=by kernel_rfl
theorem QL (w:fu):((ReflectliteType.abiMethod fun t=>Functor.map (fun a:Nat=>Value.int IntKind.u8 (a:Int)) (Rtype.kind t)) #[.pointer (some ⟨17,72,none⟩)]).run prog w=.ok (.int .u8 22) w:=by kernel_rfl
theorem QM (w:fu):((ReflectliteType.abiMethod fun t=>Functor.map (fun a:Nat=>Value.int IntKind.u8 (a:Int)) (Rtype.kind t)) #[.pointer (some ⟨17,70,none⟩)]).run prog w=.ok (.int .u8 22) w:=by kernel_rfl
theorem XT (a:Addr)(w:fu):(ReflectliteValue.parts (.agg #[.pointer (some ⟨17,72,none⟩),.pointer (some a),.int .u64 150])).run prog w=.ok (some (72,a,150)) w:=by kernel_rfl
theorem XU (z:Sem fC)(f:TypeId->Addr->Nat->Nat->Sem fC)(v:fC):∃ R:Option (TypeId×Addr×Nat)->Sem fC,ReflectliteValue.method z f #[v]=(ReflectliteValue.parts v >>= R)/\∀ t a fl,R (some (t,a,fl))=f t a fl (fl % 32):=⟨_,rfl,fun _ _ _=>rfl⟩
theorem zfc (v x:fC):∃ R:Option (TypeId×Addr×Nat)->Option (TypeId×Addr×Nat)->Sem fC,ReflectliteValue.set #[v,x]=(ReflectliteValue.parts v >>= fun a=>ReflectliteValue.parts x >>= fun b=>R a b) /\
  ∀ ta b,∃ S:fC->Bool->Sem fC,R (some (70,ta,406)) (some (70,b,150))=(loadVar 70 b >>= fun val=>Rtype.directlyAssignable 70 70 >>= fun c=>S val c) /\
   ∀ val,S val true=(storeVar 70 ta val >>= fun _=>pure (.tuple #[])):=⟨_,rfl,fun _ _=>⟨_,rfl,fun _=>rfl⟩⟩
theorem QN (a p:Addr)(W:fu)(ha:W.cell? a=some (.pointer (some p))) :
  (ReflectliteValue.method (ReflectliteValue.valueError "reflectlite.Value.IsNil" 0) ReflectliteValue.isNil #[.agg #[.pointer (some ⟨17,72,none⟩),.pointer (some a),.int .u64 150]]).run prog W=.ok (.bool false) W:=by
 obtain ⟨R,h1,h2⟩:=XU (ReflectliteValue.valueError "reflectlite.Value.IsNil" 0) ReflectliteValue.isNil (.agg #[.pointer (some ⟨17,72,none⟩),.pointer (some a),.int .u64 150]);rw[h1];simp only[Sem.run_bind,XT,Result.andThen,h2];simp[ReflectliteValue.isNil,loadVar,isAgg,underlying,underlying72,ha,Result.andThen]
theorem QO (h:fC)(w:fu):(Go.method 479 207 (.agg #[h]) "Elem").run prog w=.ok (221,.agg #[h]) w:=by kernel_rfl
theorem QS (h:fC)(w:fu):(Go.method 479 207 (.agg #[h]) "Implements").run prog w=.ok (222,.agg #[h]) w:=by kernel_rfl
theorem QT (h:fC)(w:fu):(Go.method 479 207 (.agg #[h]) "AssignableTo").run prog w=.ok (219,.agg #[h]) w:=by kernel_rfl
theorem QU (w:fu):(ReflectliteType.method ReflectliteType.elem #[.agg #[.pointer (some ⟨17,72,none⟩)]]).run prog w=.ok (.iface 207 (.agg #[.pointer (some ⟨17,70,none⟩)])) w:=by kernel_rfl
theorem QV (w:fu):(ReflectliteType.relation "Implements" ReflectliteType.implements_ #[.agg #[.pointer (some ⟨17,70,none⟩)],.iface 207 (.agg #[.pointer (some ⟨17,43,none⟩)])]).run prog w=.ok (.bool true) w:=by kernel_rfl
theorem zra (v:fC)(w:fu):(ReflectliteType.typeOf #[.iface 70 v]).run prog w=.ok (.iface 207 (.agg #[.pointer (some ⟨17,70,none⟩)])) w:=by kernel_rfl
theorem qys (w:fu):(ReflectliteType.relation "AssignableTo" ReflectliteType.assignableTo #[.agg #[.pointer (some ⟨17,70,none⟩)],.iface 207 (.agg #[.pointer (some ⟨17,70,none⟩)])]).run prog w=.ok (.bool true) w:=by kernel_rfl
theorem XW (w:fu):(ReflectliteType.relation "AssignableTo" ReflectliteType.assignableTo #[.agg #[.pointer (some ⟨17,337,none⟩)],.iface 207 (.agg #[.pointer (some ⟨17,70,none⟩)])]).run prog w=.ok (.bool false) w:=by kernel_rfl
theorem zkn (e:Addr)(w:fu):(ReflectliteValue.unpack (.iface 70 (.pointer (some e)))).run prog w
  = .ok (.agg #[.pointer (some ⟨17,70,none⟩),.pointer (some ⟨w.heap.size,0,none⟩),.int .u64 150]) (w.alloc (.cells #[.pointer (some e)] 70)):=by kernel_rfl
theorem zoq (w:fu):(Rtype.elem? 72).run prog w=.ok (some 70) w:=by kernel_rfl
theorem mkP (p:Addr)(w:fu):(ReflectliteValue.mk 70 p ReflectliteValue.flagAddr).run prog w=.ok (.agg #[.pointer (some ⟨17,70,none⟩),.pointer (some p),.int .u64 406]) w:=by kernel_rfl
theorem zui (a p:Addr)(W:fu)(ha:W.cell? a=some (.pointer (some p))) :
  (ReflectliteValue.method (ReflectliteValue.valueError "reflectlite.Value.Elem" 0) ReflectliteValue.elem #[.agg #[.pointer (some ⟨17,72,none⟩),.pointer (some a),.int .u64 150]]).run prog W
   = .ok (.agg #[.pointer (some ⟨17,70,none⟩),.pointer (some p),.int .u64 406]) W:=by
 obtain ⟨R,h1,h2⟩:=XU (ReflectliteValue.valueError "reflectlite.Value.Elem" 0) ReflectliteValue.elem (.agg #[.pointer (some ⟨17,72,none⟩),.pointer (some a),.int .u64 150]);rw[h1];simp only[Sem.run_bind,XT,Result.andThen,h2];simp[ReflectliteValue.elem,loadVar,isAgg,underlying,underlying72,ha,Result.andThen,zoq,mkP]
theorem zsh (a:Addr)(w:fu):(ReflectliteValue.parts (.agg #[.pointer (some ⟨17,70,none⟩),.pointer (some a),.int .u64 406])).run prog w=.ok (some (70,a,406)) w:=by kernel_rfl
theorem zwl (a:Addr)(w:fu):(ReflectliteValue.parts (.agg #[.pointer (some ⟨17,70,none⟩),.pointer (some a),.int .u64 150])).run prog w=.ok (some (70,a,150)) w:=by kernel_rfl
theorem zuq (w:fu):(Rtype.directlyAssignable 70 70).run prog w=.ok true w:=by kernel_rfl
theorem QW (ta b e:Addr)(old:fC)(W:fu)(hb:W.cell? b=some (.pointer (some e)))(ht:W.cell? ta=some old)(hf:W.frozen? ta=false) :
  (ReflectliteValue.set #[.agg #[.pointer (some ⟨17,70,none⟩),.pointer (some ta),.int .u64 406],.agg #[.pointer (some ⟨17,70,none⟩),.pointer (some b),.int .u64 150]]).run prog W
   = .ok (.tuple #[]) (W.setCell ta (.pointer (some e))):=by
 obtain ⟨R,h1,h2⟩:=zfc (.agg #[.pointer (some ⟨17,70,none⟩),.pointer (some ta),.int .u64 406]) (.agg #[.pointer (some ⟨17,70,none⟩),.pointer (some b),.int .u64 150]);obtain ⟨S,h3,h4⟩:=h2 ta b;rw[h1];simp only[Sem.run_bind,zsh,zwl,Result.andThen,h3,zuq,h4];simp[loadVar,isAgg,underlying,underlying70,hb,Result.andThen,storeVar,Value.cells,storeCells,Addr.add];rw[run_store prog W ta _ _ (by rfl)]
 simp[ht,hf]
theorem XY (v:fC)(xT:TypeId)(w:fu):(Instr.typeAssert (.iface 337 v) xT 212 true).run prog w=.ok (.tuple #[.nilIface,.bool false]) w:=run_typeAssert_lacksB underlying212 (by kernel_rfl) (by kernel_rfl) v xT w
abbrev QX:=@run_callFunc_extern prog 44 _ (fun args=>ReflectliteValue.unpack (args.getD 0 (.tuple #[]))) func44 (by kernel_rfl) (by kernel_rfl) (by kernel_rfl) (by kernel_rfl)
abbrev QY:=@run_callFunc_extern prog 45 _ (ReflectliteValue.methodAny (ReflectliteValue.valueError "reflectlite.Value.Type" 0) (fun t _ _ _=>ReflectliteType.toType t)) func45 (by kernel_rfl) (by kernel_rfl) (by kernel_rfl) (by kernel_rfl)
abbrev QZ:=@run_callFunc_extern prog 46 _ (ReflectliteValue.method (ReflectliteValue.valueError "reflectlite.Value.IsNil" 0) ReflectliteValue.isNil) func46 (by kernel_rfl) (by kernel_rfl) (by kernel_rfl) (by kernel_rfl)
abbrev DR:=@run_callFunc_extern prog 207 _ (ReflectliteType.abiMethod fun t=>do pure (.int .u8 (<- Rtype.kind t))) func207 (by kernel_rfl) (by kernel_rfl) (by kernel_rfl) (by kernel_rfl)
abbrev DT:=@run_callFunc_extern prog 221 _ (ReflectliteType.method ReflectliteType.elem) func221 (by kernel_rfl) (by kernel_rfl) (by kernel_rfl) (by kernel_rfl)
abbrev DU:=@run_callFunc_extern prog 222 _ (ReflectliteType.relation "Implements" ReflectliteType.implements_) func222 (by kernel_rfl) (by kernel_rfl) (by kernel_rfl) (by kernel_rfl)
abbrev DV:=@run_callFunc_extern prog 96 _ ReflectliteType.typeOf func96 (by kernel_rfl) (by kernel_rfl) (by kernel_rfl) (by kernel_rfl)
abbrev DW:=@run_callFunc_extern prog 219 _ (ReflectliteType.relation "AssignableTo" ReflectliteType.assignableTo) func219 (by kernel_rfl) (by kernel_rfl) (by kernel_rfl) (by kernel_rfl)
abbrev Q0:=@run_callFunc_extern prog 97 _ (ReflectliteValue.method (ReflectliteValue.valueError "reflectlite.Value.Elem" 0) ReflectliteValue.elem) func97 (by kernel_rfl) (by kernel_rfl) (by kernel_rfl) (by kernel_rfl)
abbrev Q5:=@run_callFunc_extern prog 98 _ ReflectliteValue.set func98 (by kernel_rfl) (by kernel_rfl) (by kernel_rfl) (by kernel_rfl)
def mW (w:fu):Obj:=.cells #[.pointer (some ⟨17,72,none⟩),.pointer (some ⟨w.heap.size,0,none⟩),.int .u64 150] 138
theorem zya (e t:Addr)(old:fC)(w:fu)(hg:w.cell? ⟨2,0,none⟩=some (.iface 207 (.agg #[.pointer (some ⟨17,43,none⟩)])))(ht0:w.cell? t=some old)(hf0:w.frozen? t=false) :
  Calls prog 23 #[.iface 70 (.pointer (some e)),.iface 72 (.pointer (some t))] w fun ev w'=>ev=.returned (.bool true)/\w'=((((w.alloc (.cells #[.pointer (some t)] 72)).alloc (mW w)).alloc (mW w)).alloc (.cells #[.pointer (some e)] 70)).setCell t (.pointer (some e)):=by
 have h6:=QX;have h7:=QY;have h8:=QZ;have h27:=DR;have h37:=DT;have XZ:=DU;have h10:=DV;have Dg:=DW;have h11:=Q0;have h12:=Q5;have tO:=zra;have mA:=QT;have a25:=qys;have v25:=zkn;have f6:=QI;have f7:=QJ;have mK:=QK;have mE:=QO;have mI:=QS;have k27:=QL;have k25:=QM;have e27:=QU;have i25:=QV;have n8:=QN ⟨w.heap.size,0,none⟩ t ((w.alloc (.cells #[.pointer (some t)] 72)).alloc (mW w)) (by simp[mW])
 have hlt:2 < w.heap.size:=by
  rcases dD 2 w.heap.size with h | h
  ·exact h
  ·have:w.heap[2]?=none:=by simp[h]
   simp[World.cell?,this] at hg
 have hg2:((w.alloc (.cells #[.pointer (some t)] 72)).alloc (mW w)).cell? ⟨2,0,none⟩=some (.iface 207 (.agg #[.pointer (some ⟨17,43,none⟩)])):=by
  rw[bF _ _ ⟨2,0,none⟩ (by simp;omega),bF _ _ ⟨2,0,none⟩ hlt];exact hg
 have htl:t.block < w.heap.size:=by
  rcases dD t.block w.heap.size with h | h
  ·exact h
  ·simp[World.cell?,Array.getElem?_eq_none h] at ht0
 have el:=zui ⟨w.heap.size,0,none⟩ t (((w.alloc (.cells #[.pointer (some t)] 72)).alloc (mW w)).alloc (mW w)) (by rw[bF _ _ ⟨w.heap.size,0,none⟩ (by simp;omega)];simp[mW])
 have st:=QW t ⟨w.heap.size+1+1+1,0,none⟩ e old ((((w.alloc (.cells #[.pointer (some t)] 72)).alloc (mW w)).alloc (mW w)).alloc (.cells #[.pointer (some e)] 70))
  (by rw[World.cell?_alloc_at _ _ _ _ (by simp)];rfl)
  (by rw[bF _ _ t (by simp;omega),bF _ _ t (by simp;omega),bF _ _ t (by simp;omega),bF _ _ t htl];exact ht0)
  (by rw[eO _ _ t (by simp;omega),eO _ _ t (by simp;omega),eO _ _ t (by simp;omega),eO _ _ t (Nat.ne_of_lt htl)];exact hf0)
 unfold mW at *;go_enter func23,ntmps23
 go_wp2;refine wp_loop_rounds 1 ?_;rw[rounds_succ];go_wp2;go_ret;exact ⟨rfl,rfl⟩
theorem zvi (e t:Addr)(w:fu)(hg:w.cell? ⟨2,0,none⟩=some (.iface 207 (.agg #[.pointer (some ⟨17,43,none⟩)]))) :
  Calls prog 23 #[.iface 337 (.pointer (some e)),.iface 72 (.pointer (some t))] w fun ev w'=>ev=.returned (.bool false)/\w'=(((w.alloc (.cells #[.pointer (some t)] 72)).alloc (mW w)).alloc (mW w)):=by
 have h6:=QX;have h7:=QY;have h8:=QZ;have h27:=DR;have h37:=DT;have XZ:=DU;have h10:=DV;have Dg:=DW;have tO:=BI;have mA:=QT;have aE:=XW;have f6:=QI;have f7:=QJ;have mK:=QK;have mE:=QO;have mI:=QS;have k27:=QL;have k25:=QM;have e27:=QU;have i25:=QV;have nE:=XY;have uE:=DL;have vE:=DN;have n8:=QN ⟨w.heap.size,0,none⟩ t ((w.alloc (.cells #[.pointer (some t)] 72)).alloc (mW w)) (by simp[mW])
 have hlt:2 < w.heap.size:=by
  rcases dD 2 w.heap.size with h | h
  ·exact h
  ·have:w.heap[2]?=none:=by simp[h]
   simp[World.cell?,this] at hg
 have hg2:((w.alloc (.cells #[.pointer (some t)] 72)).alloc (mW w)).cell? ⟨2,0,none⟩=some (.iface 207 (.agg #[.pointer (some ⟨17,43,none⟩)])):=by
  rw[bF _ _ ⟨2,0,none⟩ (by simp;omega),bF _ _ ⟨2,0,none⟩ hlt];exact hg
 unfold mW at *;go_enter func23,ntmps23
 go_wp2;refine wp_loop_rounds 1 ?_;rw[rounds_succ];go_wp2;go_ret;exact ⟨rfl,rfl⟩
