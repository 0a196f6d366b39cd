import Derived.Test.YtgkhgealpneodaaGreatDoorG00
import Derived.Stop.Asserts
import Derived.RowKitTokens
set_option maxRecDepth 100000
set_option maxHeartbeats 4000000
namespace Go.Proofs.YtgkhgealpneodaaGreatDoor
open Go.RowKit Go.Extern.Stop Go.Stop Go.Extern Tryz
namespace Lg
theorem BO(v:dZ)(w:dY):(Extern.ReflectliteType.typeOf #[.iface 393 v]).run prog w=.ok (.iface 258 (.agg #[.pointer (some ⟨21,393,none⟩)])) w:=by kernel_rfl
theorem Fj(w:dY):((Extern.ReflectliteType.method fun t=>do Extern.Rtype.noPackHeld "Comparable" t;Functor.map (fun a=>Value.bool a.comparable) (typeInfo t)) #[.agg #[.pointer (some ⟨21,393,none⟩)]]).run prog w=.ok (.bool true) w:=by kernel_rfl
theorem Fp(v:dZ)(w:dY):(Go.method 534 258 v "Comparable").run prog w=.ok (303,v) w:=by kernel_rfl
theorem Fq:(prog.info? 393).map (·.comparable)=some true:=by kernel_rfl
theorem Fv:(prog.info? 419).map (·.size)=some 1:=by kernel_rfl
theorem Hz(v:dZ)(xT:TypeId)(w:dY):(Instr.typeAssert (.iface 393 v) xT 272 true).run prog w=.ok (.tuple #[.nilIface,.bool false]) w:=run_typeAssert_lacksB underlying272 (by kernel_rfl) (by kernel_rfl) v xT w
theorem Dm(v:dZ)(xT:TypeId)(w:dY):(Instr.typeAssert (.iface 393 v) xT 265 true).run prog w=.ok (.tuple #[.nilIface,.bool false]) w:=run_typeAssert_lacksB underlying265 (by kernel_rfl) (by kernel_rfl) v xT w
theorem Dn(v:dZ)(xT:TypeId)(w:dY):(Instr.typeAssert (.iface 393 v) xT 266 true).run prog w=.ok (.tuple #[.nilIface,.bool false]) w:=run_typeAssert_lacksB underlying266 (by kernel_rfl) (by kernel_rfl) v xT w
theorem YC(v:dZ)(xT:TypeId)(w:dY):(Instr.typeAssert (.iface 114 v) xT 272 true).run prog w=.ok (.tuple #[.nilIface,.bool false]) w:=run_typeAssert_lacksB underlying272 (by kernel_rfl) (by kernel_rfl) v xT w
theorem YD(v:dZ)(xT:TypeId)(w:dY):(Instr.typeAssert (.iface 114 v) xT 265 true).run prog w=.ok (.tuple #[.iface 114 v,.bool true]) w:=run_typeAssert_hasB underlying265 (by kernel_rfl) v xT w
theorem YE(v:dZ)(w:dY):(Go.method 534 114 v "Unwrap").run prog w=.ok (295,v) w:=by kernel_rfl
abbrev Ia:=@run_callFunc_extern prog 92 _ Extern.ReflectliteType.typeOf func92 (by kernel_rfl) (by kernel_rfl) (by kernel_rfl) (by kernel_rfl)
abbrev xR:=@run_callFunc_extern prog 303 _ (Extern.ReflectliteType.method fun t=>do Extern.Rtype.noPackHeld "Comparable" t;pure (.bool (<- typeInfo t).comparable)) func303 (by kernel_rfl) (by kernel_rfl) (by kernel_rfl) (by kernel_rfl)
theorem YF(a:Addr)(w:dY):fI 47 #[.iface 393 (.pointer (some a)),.iface 393 (.pointer (some a))] w fun e w'=>e=fM (.bool true)/\w'=w:=by obtain⟨i,hi,hcmp⟩:=bG.1 Fq;obtain⟨j,hj,hjs⟩:=bG.1 Fv;have h8:=Ia;have h32:=xR;have tT:=BO;have cT:=Fj;have mR:=Fp;have heq:=run_eql_iface_ptr_same (P:=prog) w a underlying63 underlying393 hi hcmp hj;go_enter func47,ntmps47;go_wp2;refine wp_loop_rounds 1 ?_;rw[rounds_succ];go_wp2;go_ret;exact⟨rfl,rfl⟩
theorem qtm(f:Nat)(b:Addr)(w:dY)(h1:w.cell? ⟨f,1,none⟩=some (.iface 393 (.pointer (some b)))):fI 47 #[.iface 114 (fq f),.iface 393 (.pointer (some b))] w fun e w'=>e=fM (.bool true)/\w'=w:=by obtain⟨i,hi,hcmp⟩:=bG.1 Fq;obtain⟨j,hj,hjs⟩:=bG.1 Fv;have h8:=Ia;have h32:=xR;have tT:=BO;have cT:=Fj;have mR:=Fp;have nE:=Hz;have uE:=Dm;have vE:=Dn;have nW:=YC;have uW:=YD;have mU:=YE;have heq:=run_eql_iface_ptr_same (P:=prog) w b underlying63 underlying393 hi hcmp hj;have hty:=run_eql_iface_types (P:=prog) 114 393 (fq f) (.pointer (some b)) underlying63 (by decide) w;go_enter func47,ntmps47;go_wp2;refine wp_loop_rounds 2 ?_;rw[rounds_succ];go_wp2;rw[rounds_succ];go_wp2;go_ret;exact⟨rfl,rfl⟩
theorem qqt(f:Nat)(b a:Addr)(ca cb:Array dZ)(ta tb:TypeId)(w:dY)(h1:w.cell? ⟨f,1,none⟩=some (.iface 393 (.pointer (some a))))(hne:a≠b)(ha:w.heap[a.block]?=some (.cells ca ta (0,0)))(hb:w.heap[b.block]?=some (.cells cb tb (0,0))):fI 47 #[.iface 114 (fq f),.iface 393 (.pointer (some b))] w fun e w'=>e=fM (.bool false)/\w'=w:=by obtain⟨i,hi,hcmp⟩:=bG.1 Fq;obtain⟨j,hj,hjs⟩:=bG.1 Fv;have h8:=Ia;have h32:=xR;have tT:=BO;have cT:=Fj;have mR:=Fp;have nE:=Hz;have uE:=Dm;have vE:=Dn;have nW:=YC;have uW:=YD;have mU:=YE;have heq:=run_eql_iface_ptr_other (P:=prog) w underlying63 underlying393 hi hcmp hj (by rw[hjs];decide) hne ha hb;have hty:=run_eql_iface_types (P:=prog) 114 393 (fq f) (.pointer (some b)) underlying63 (by decide) w;go_enter func47,ntmps47;go_wp2;refine wp_loop_rounds 2 ?_;rw[rounds_succ];go_wp2;rw[rounds_succ];go_wp2;go_ret;exact⟨rfl,rfl⟩
theorem R6(t:Addr)(w:dY):(ReflectliteValue.unpack (.iface 116 (.pointer (some t)))).run prog w
  = .ok (.agg #[.pointer (some ⟨21,116,none⟩),fq w.heap.size,.int .u64 150]) (w.alloc (.cells #[.pointer (some t)] 116)):=by kernel_rfl
theorem R7(a:Addr)(w:dY):(ReflectliteValue.methodAny (ReflectliteValue.valueError "reflectlite.Value.Type" 0) (fun t _ _ _=>ReflectliteType.toType t) #[.agg #[.pointer (some ⟨21,116,none⟩),.pointer (some a),.int .u64 150]]).run prog w
  = .ok (.iface 258 (.agg #[.pointer (some ⟨21,116,none⟩)])) w:=by kernel_rfl
theorem R8(h:dZ)(w:dY):(Go.method 534 258 (.agg #[h]) "Kind").run prog w=.ok (289,h) w:=by kernel_rfl
theorem R9(w:dY):((ReflectliteType.abiMethod fun t=>Functor.map (fun a:Nat=>Value.int IntKind.u8 (a:Int)) (Rtype.kind t)) #[.pointer (some ⟨21,116,none⟩)]).run prog w=.ok (.int .u8 22) w:=by kernel_rfl
theorem Sb(w:dY):((ReflectliteType.abiMethod fun t=>Functor.map (fun a:Nat=>Value.int IntKind.u8 (a:Int)) (Rtype.kind t)) #[.pointer (some ⟨21,114,none⟩)]).run prog w=.ok (.int .u8 22) w:=by kernel_rfl
theorem YG(a:Addr)(w:dY):(ReflectliteValue.parts (.agg #[.pointer (some ⟨21,116,none⟩),.pointer (some a),.int .u64 150])).run prog w=.ok (some (116,a,150)) w:=by kernel_rfl
theorem YH(z:Sem dZ)(f:TypeId->Addr->Nat->Nat->Sem dZ)(v:dZ):∃R:Option (TypeId×Addr×Nat)->Sem dZ,ReflectliteValue.method z f #[v]=(ReflectliteValue.parts v >>= R)/\∀t a fl,R (some (t,a,fl))=f t a fl (fl%32):=⟨_,rfl,fun _ _ _=>rfl⟩
theorem zfc(v x:dZ):∃R:Option (TypeId×Addr×Nat)->Option (TypeId×Addr×Nat)->Sem dZ,ReflectliteValue.set #[v,x]=(ReflectliteValue.parts v >>= fun a=>ReflectliteValue.parts x >>= fun b=>R a b) /\
  ∀ta b,∃S:dZ->Bool->Sem dZ,R (some (114,ta,406)) (some (114,b,150))=(loadVar 114 b >>= fun val=>Rtype.directlyAssignable 114 114 >>= fun c=>S val c) /\
   ∀val,S val true=(storeVar 114 ta val >>= fun _=>pure (.tuple #[])):=⟨_,rfl,fun _ _=>⟨_,rfl,fun _=>rfl⟩⟩
theorem Sc(a p:Addr)(W:dY)(ha:W.cell? a=some (.pointer (some p))):(ReflectliteValue.method (ReflectliteValue.valueError "reflectlite.Value.IsNil" 0) ReflectliteValue.isNil #[.agg #[.pointer (some ⟨21,116,none⟩),.pointer (some a),.int .u64 150]]).run prog W=.ok (.bool false) W:=by obtain⟨R,h1,h2⟩:=YH (ReflectliteValue.valueError "reflectlite.Value.IsNil" 0) ReflectliteValue.isNil (.agg #[.pointer (some ⟨21,116,none⟩),.pointer (some a),.int .u64 150]);rw[h1];simp only[Sem.run_bind,YG,Result.andThen,h2];simp[ReflectliteValue.isNil,loadVar,isAgg,underlying,underlying116,ha,Result.andThen]
theorem Sd(h:dZ)(w:dY):(Go.method 534 258 (.agg #[h]) "Elem").run prog w=.ok (304,.agg #[h]) w:=by kernel_rfl
theorem Sg(h:dZ)(w:dY):(Go.method 534 258 (.agg #[h]) "Implements").run prog w=.ok (305,.agg #[h]) w:=by kernel_rfl
theorem Si(h:dZ)(w:dY):(Go.method 534 258 (.agg #[h]) "AssignableTo").run prog w=.ok (302,.agg #[h]) w:=by kernel_rfl
theorem Sj(w:dY):(ReflectliteType.method ReflectliteType.elem #[.agg #[.pointer (some ⟨21,116,none⟩)]]).run prog w=.ok (.iface 258 (.agg #[.pointer (some ⟨21,114,none⟩)])) w:=by kernel_rfl
theorem Sk(w:dY):(ReflectliteType.relation "Implements" ReflectliteType.implements_ #[.agg #[.pointer (some ⟨21,114,none⟩)],.iface 258 (.agg #[.pointer (some ⟨21,63,none⟩)])]).run prog w=.ok (.bool true) w:=by kernel_rfl
theorem zra(v:dZ)(w:dY):(ReflectliteType.typeOf #[.iface 114 v]).run prog w=.ok (.iface 258 (.agg #[.pointer (some ⟨21,114,none⟩)])) w:=by kernel_rfl
theorem qys(w:dY):(ReflectliteType.relation "AssignableTo" ReflectliteType.assignableTo #[.agg #[.pointer (some ⟨21,114,none⟩)],.iface 258 (.agg #[.pointer (some ⟨21,114,none⟩)])]).run prog w=.ok (.bool true) w:=by kernel_rfl
theorem YI(w:dY):(ReflectliteType.relation "AssignableTo" ReflectliteType.assignableTo #[.agg #[.pointer (some ⟨21,393,none⟩)],.iface 258 (.agg #[.pointer (some ⟨21,114,none⟩)])]).run prog w=.ok (.bool false) w:=by kernel_rfl
theorem zkn(e:Addr)(w:dY):(ReflectliteValue.unpack (.iface 114 (.pointer (some e)))).run prog w
  = .ok (.agg #[.pointer (some ⟨21,114,none⟩),fq w.heap.size,.int .u64 150]) (w.alloc (.cells #[.pointer (some e)] 114)):=by kernel_rfl
theorem zoq(w:dY):(Rtype.elem? 116).run prog w=.ok (some 114) w:=by kernel_rfl
theorem mkP(p:Addr)(w:dY):(ReflectliteValue.mk 114 p ReflectliteValue.flagAddr).run prog w=.ok (.agg #[.pointer (some ⟨21,114,none⟩),.pointer (some p),.int .u64 406]) w:=by kernel_rfl
theorem zui(a p:Addr)(W:dY)(ha:W.cell? a=some (.pointer (some p))):(ReflectliteValue.method (ReflectliteValue.valueError "reflectlite.Value.Elem" 0) ReflectliteValue.elem #[.agg #[.pointer (some ⟨21,116,none⟩),.pointer (some a),.int .u64 150]]).run prog W
   = .ok (.agg #[.pointer (some ⟨21,114,none⟩),.pointer (some p),.int .u64 406]) W:=by
 obtain⟨R,h1,h2⟩:=YH (ReflectliteValue.valueError "reflectlite.Value.Elem" 0) ReflectliteValue.elem (.agg #[.pointer (some ⟨21,116,none⟩),.pointer (some a),.int .u64 150]);rw[h1];simp only[Sem.run_bind,YG,Result.andThen,h2];simp[ReflectliteValue.elem,loadVar,isAgg,underlying,underlying116,ha,Result.andThen,zoq,mkP]
theorem zsh(a:Addr)(w:dY):(ReflectliteValue.parts (.agg #[.pointer (some ⟨21,114,none⟩),.pointer (some a),.int .u64 406])).run prog w=.ok (some (114,a,406)) w:=by kernel_rfl
theorem zwl(a:Addr)(w:dY):(ReflectliteValue.parts (.agg #[.pointer (some ⟨21,114,none⟩),.pointer (some a),.int .u64 150])).run prog w=.ok (some (114,a,150)) w:=by kernel_rfl
theorem zuq(w:dY):(Rtype.directlyAssignable 114 114).run prog w=.ok true w:=by kernel_rfl
theorem Sl(ta b e:Addr)(old:dZ)(W:dY)(hb:W.cell? b=some (.pointer (some e)))(ht:W.cell? ta=some old)(hf:W.frozen? ta=false):(ReflectliteValue.set #[.agg #[.pointer (some ⟨21,114,none⟩),.pointer (some ta),.int .u64 406],.agg #[.pointer (some ⟨21,114,none⟩),.pointer (some b),.int .u64 150]]).run prog W
   = .ok (.tuple #[]) (W.setCell ta (.pointer (some e))):=by
 obtain⟨R,h1,h2⟩:=zfc (.agg #[.pointer (some ⟨21,114,none⟩),.pointer (some ta),.int .u64 406]) (.agg #[.pointer (some ⟨21,114,none⟩),.pointer (some b),.int .u64 150]);obtain⟨S,h3,h4⟩:=h2 ta b;rw[h1];simp only[Sem.run_bind,zsh,zwl,Result.andThen,h3,zuq,h4];simp[loadVar,isAgg,underlying,underlying114,hb,Result.andThen,storeVar,Value.cells,storeCells,Addr.add];rw[run_store prog W ta _ _ (by rfl)];simp[ht,hf]
theorem YJ(v:dZ)(xT:TypeId)(w:dY):(Instr.typeAssert (.iface 393 v) xT 262 true).run prog w=.ok (.tuple #[.nilIface,.bool false]) w:=run_typeAssert_lacksB underlying262 (by kernel_rfl) (by kernel_rfl) v xT w
abbrev Sn:=@run_callFunc_extern prog 84 _ (fun args=>ReflectliteValue.unpack (args.getD 0 (.tuple #[]))) func84 (by kernel_rfl) (by kernel_rfl) (by kernel_rfl) (by kernel_rfl)
abbrev Sq:=@run_callFunc_extern prog 85 _ (ReflectliteValue.methodAny (ReflectliteValue.valueError "reflectlite.Value.Type" 0) (fun t _ _ _=>ReflectliteType.toType t)) func85 (by kernel_rfl) (by kernel_rfl) (by kernel_rfl) (by kernel_rfl)
abbrev Sr:=@run_callFunc_extern prog 86 _ (ReflectliteValue.method (ReflectliteValue.valueError "reflectlite.Value.IsNil" 0) ReflectliteValue.isNil) func86 (by kernel_rfl) (by kernel_rfl) (by kernel_rfl) (by kernel_rfl)
abbrev Fw:=@run_callFunc_extern prog 289 _ (ReflectliteType.abiMethod fun t=>do pure (.int .u8 (<- Rtype.kind t))) func289 (by kernel_rfl) (by kernel_rfl) (by kernel_rfl) (by kernel_rfl)
abbrev Fx:=@run_callFunc_extern prog 304 _ (ReflectliteType.method ReflectliteType.elem) func304 (by kernel_rfl) (by kernel_rfl) (by kernel_rfl) (by kernel_rfl)
abbrev Fy:=@run_callFunc_extern prog 305 _ (ReflectliteType.relation "Implements" ReflectliteType.implements_) func305 (by kernel_rfl) (by kernel_rfl) (by kernel_rfl) (by kernel_rfl)
abbrev Fz:=@run_callFunc_extern prog 92 _ ReflectliteType.typeOf func92 (by kernel_rfl) (by kernel_rfl) (by kernel_rfl) (by kernel_rfl)
abbrev FB:=@run_callFunc_extern prog 302 _ (ReflectliteType.relation "AssignableTo" ReflectliteType.assignableTo) func302 (by kernel_rfl) (by kernel_rfl) (by kernel_rfl) (by kernel_rfl)
abbrev Sv:=@run_callFunc_extern prog 155 _ (ReflectliteValue.method (ReflectliteValue.valueError "reflectlite.Value.Elem" 0) ReflectliteValue.elem) func155 (by kernel_rfl) (by kernel_rfl) (by kernel_rfl) (by kernel_rfl)
abbrev Sw:=@run_callFunc_extern prog 156 _ ReflectliteValue.set func156 (by kernel_rfl) (by kernel_rfl) (by kernel_rfl) (by kernel_rfl)
def nY(w:dY):Obj:=.cells #[.pointer (some ⟨21,116,none⟩),fq w.heap.size,.int .u64 150] 199
theorem zya(e t:Addr)(old:dZ)(w:dY)(hg:w.cell? ⟨4,0,none⟩=some (.iface 258 (.agg #[.pointer (some ⟨21,63,none⟩)])))(ht0:w.cell? t=some old)(hf0:w.frozen? t=false):fI 43 #[.iface 114 (.pointer (some e)),.iface 116 (.pointer (some t))] w fun ev w'=>ev=fM (.bool true)/\w'=((((w.alloc (.cells #[.pointer (some t)] 116)).alloc (nY w)).alloc (nY w)).alloc (.cells #[.pointer (some e)] 114)).setCell t (.pointer (some e)):=by
 have h6:=Sn;have h7:=Sq;have h8:=Sr;have h27:=Fw;have h37:=Fx;have YK:=Fy;have h10:=Fz;have Ez:=FB;have h11:=Sv;have h12:=Sw;have tO:=zra;have mA:=Si;have a25:=qys;have v25:=zkn;have f6:=R6;have f7:=R7;have mK:=R8;have mE:=Sd;have mI:=Sg;have k27:=R9;have k25:=Sb;have e27:=Sj;have i25:=Sk;have n8:=Sc ⟨w.heap.size,0,none⟩ t ((w.alloc (.cells #[.pointer (some t)] 116)).alloc (nY w)) (by simp[nY]);have hlt:4<w.heap.size:=by
  obtain h|h:=dF 4 w.heap.size;·exact h
  have:w.heap[4]?=none:=by simp[h]
  simp[World.cell?,this]at hg
 have hg2:((w.alloc (.cells #[.pointer (some t)] 116)).alloc (nY w)).cell? ⟨4,0,none⟩=some (.iface 258 (.agg #[.pointer (some ⟨21,63,none⟩)])):=by rw[bK _ _ ⟨4,0,none⟩ (by simp;omega),bK _ _ ⟨4,0,none⟩ hlt];exact hg
 have htl:t.block<w.heap.size:=by
  obtain h|h:=dF t.block w.heap.size;·exact h
  simp[World.cell?,Array.getElem?_eq_none h]at ht0
 have el:=zui ⟨w.heap.size,0,none⟩ t (((w.alloc (.cells #[.pointer (some t)] 116)).alloc (nY w)).alloc (nY w)) (by rw[bK _ _ ⟨w.heap.size,0,none⟩ (by simp;omega)];simp[nY]);have st:=Sl t ⟨w.heap.size+1+1+1,0,none⟩ e old ((((w.alloc (.cells #[.pointer (some t)] 116)).alloc (nY w)).alloc (nY w)).alloc (.cells #[.pointer (some e)] 114))
  (by rw[World.cell?_alloc_at _ _ _ _ (by simp)];rfl)
  (by rw[bK _ _ t (by simp;omega),bK _ _ t (by simp;omega),bK _ _ t (by simp;omega),bK _ _ t htl];exact ht0)
  (by rw[dU _ _ t (by simp;omega),dU _ _ t (by simp;omega),dU _ _ t (by simp;omega),dU _ _ t (Nat.ne_of_lt htl)];exact hf0)
 unfold nY at *;go_enter func43,ntmps43;go_wp2;refine wp_loop_rounds 1 ?_;rw[rounds_succ];go_wp2;go_ret;exact⟨rfl,rfl⟩
theorem zvi(e t:Addr)(w:dY)(hg:w.cell? ⟨4,0,none⟩=some (.iface 258 (.agg #[.pointer (some ⟨21,63,none⟩)]))):fI 43 #[.iface 393 (.pointer (some e)),.iface 116 (.pointer (some t))] w fun ev w'=>ev=fM (.bool false)/\w'=(((w.alloc (.cells #[.pointer (some t)] 116)).alloc (nY w)).alloc (nY w)):=by
 have h6:=Sn;have h7:=Sq;have h8:=Sr;have h27:=Fw;have h37:=Fx;have YK:=Fy;have h10:=Fz;have Ez:=FB;have tO:=BO;have mA:=Si;have aE:=YI;have f6:=R6;have f7:=R7;have mK:=R8;have mE:=Sd;have mI:=Sg;have k27:=R9;have k25:=Sb;have e27:=Sj;have i25:=Sk;have nE:=YJ;have uE:=Dm;have vE:=Dn;have n8:=Sc ⟨w.heap.size,0,none⟩ t ((w.alloc (.cells #[.pointer (some t)] 116)).alloc (nY w)) (by simp[nY]);have hlt:4<w.heap.size:=by
  obtain h|h:=dF 4 w.heap.size;·exact h
  have:w.heap[4]?=none:=by simp[h]
  simp[World.cell?,this]at hg
 have hg2:((w.alloc (.cells #[.pointer (some t)] 116)).alloc (nY w)).cell? ⟨4,0,none⟩=some (.iface 258 (.agg #[.pointer (some ⟨21,63,none⟩)])):=by rw[bK _ _ ⟨4,0,none⟩ (by simp;omega),bK _ _ ⟨4,0,none⟩ hlt];exact hg
 unfold nY at *;go_enter func43,ntmps43;go_wp2;refine wp_loop_rounds 1 ?_;rw[rounds_succ];go_wp2;go_ret;exact⟨rfl,rfl⟩
