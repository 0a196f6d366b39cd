import Derived.Test.YtagpnplggopoeaaGreatDoorT11
import Derived.Test.YtagpnplggopoeaaGreatDoorT10
import Derived.Deep.RegionWith
import Derived.Shelf.Strconv.Itoa3
import Derived.Test.YtagpnplggopoeaaGreatDoorProg
import Derived.Deep.DeepCutAuto
set_option maxRecDepth 100000
namespace Go.Proofs.YtagpnplggopoeaaGreatDoor
open Go.RowKit
namespace Lg
structure Snt (w:World) (E:Nat→Addr):Prop where
 v1:w.cell? ⟨0,0,none⟩=some (.iface 359 (.pointer (some (E 1))))
 v2:w.cell? ⟨9,0,none⟩=some (.iface 359 (.pointer (some (E 2))))
 v3:w.cell? ⟨3,0,none⟩=some (.iface 359 (.pointer (some (E 3))))
 v4:w.cell? ⟨4,0,none⟩=some (.iface 359 (.pointer (some (E 4))))
 v5:w.cell? ⟨5,0,none⟩=some (.iface 359 (.pointer (some (E 5))))
 v6:w.cell? ⟨6,0,none⟩=some (.iface 359 (.pointer (some (E 6))))
 v7:w.cell? ⟨7,0,none⟩=some (.iface 359 (.pointer (some (E 7))))
 v8:w.cell? ⟨1,0,none⟩=some (.iface 359 (.pointer (some (E 8))))
 v9:w.cell? ⟨8,0,none⟩=some (.iface 359 (.pointer (some (E 9))))
 blk:∀ i,1≤i→i≤9→∃ c t,w.heap[(E i).block]?=some (.cells c t (0,0))
 ne:∀ i j,1≤i→i≤9→1≤j→j≤9→i≠j→E i≠E j
 et:w.cell? ⟨10,0,none⟩=some (.iface 147 (.agg #[.pointer (some ⟨21,55,none⟩)]))
theorem Snt.below {w w':World} {E:Nat→Addr} (h:Snt w E) (k:Below w.heap.size w w'):Snt w' E:=by
 have bc:∀ {b o:Nat} {v:Value},w.cell? ⟨b,o,none⟩=some v→w'.cell? ⟨b,o,none⟩=some v:=fun {b o v} hv=>by
  rw[World.cell?_of_block (w:=w) (k.block b (lt_of_cell hv))];exact hv
 refine ⟨bc h.v1,bc h.v2,bc h.v3,bc h.v4,bc h.v5,bc h.v6,bc h.v7,bc h.v8,bc h.v9,fun i h1 h2=>?_,h.ne,bc h.et⟩
 obtain ⟨c,t,hc⟩:=h.blk i h1 h2;have hl:(E i).block < w.heap.size:=by
  rcases Nat.lt_or_ge (E i).block w.heap.size with hb | hb
  ·exact hb
  ·rw[Array.getElem?_eq_none hb] at hc;cases hc
 exact ⟨c,t,by rw[k.block _ hl];exact hc⟩
theorem qhb {w:World} {E:Nat→Addr} (h:Snt w E) {f p e i:Nat} (hf:qe9 w f p (E e)) (he:1≤e∧e≤9) (hi:1≤i∧i≤9) (hne:e≠i) :
  Calls Tryz.prog 40 #[.iface 93 (.pointer (some ⟨f,0,none⟩)),.iface 359 (.pointer (some (E i)))] w fun e w'=>e=.returned (.bool false)∧w'=w:=by
 obtain ⟨ca,ta,ha⟩:=h.blk e he.1 he.2;obtain ⟨cb,tb,hb⟩:=h.blk i hi.1 hi.2;exact qqt f _ _ _ _ _ _ w (by unfold qe9 at hf;simp[World.cell?,hf]) (h.ne e i he.1 he.2 hi.1 hi.2 hne) ha hb
theorem zar {w:World} {E:Nat→Addr} {f p e:Nat} (hf:qe9 w f p (E e)) :
  Calls Tryz.prog 40 #[.iface 93 (.pointer (some ⟨f,0,none⟩)),.iface 359 (.pointer (some (E e)))] w fun e w'=>e=.returned (.bool true)∧w'=w :=
 qtm f _ w (by unfold qe9 at hf;simp[World.cell?,hf])
theorem qx2 (E:Nat→Addr) (w:World) (h:Snt w E):Calls Tryz.prog 28 #[.iface 359 (.pointer (some (E 1)))] w fun r w'=>r=.returned (.int .i64 1)∧w'=w:=by
 have v1:=h.v1;clear h;go_enter Tryz.func28,Tryz.ntmps28
 go_wp2_with fail;refine (zh4 (E 1) w).mono ?_;rintro e w' ⟨rfl,rfl⟩;go_wp2_with fail;go_ret;exact ⟨rfl,rfl⟩
theorem qvu (E:Nat→Addr) (e p f:Nat) (w:World) (h:Snt w E) (hf:qe9 w f p (E e)) (he:2≤e∧e≤6):Calls Tryz.prog 28 #[.iface 93 (.pointer (some ⟨f,0,none⟩))] w fun r w'=>r=.returned (.int .i64 (e:Int))∧w'=w:=by
 have v1:=h.v1;have v3:=h.v3;have v4:=h.v4;have v5:=h.v5;have v6:=h.v6;have v7:=h.v7;have v8:=h.v8;have v9:=h.v9;have H:Hid (Snt w E∧qe9 w f p (E e)):=⟨h,hf⟩;clear h hf;have hc:e=2∨e=3∨e=4∨e=5∨e=6:=by omega
 go_enter Tryz.func28,Tryz.ntmps28
 go_wp2_with fail;refine (qhb H.out.1 (i:=1) H.out.2 (by omega) (by omega) (by omega)).mono ?_
 rintro r w' ⟨rfl,rfl⟩;rcases hc with rfl | rfl | rfl | rfl | rfl
 all_goals
  repeat (go_wp2_with fail;refine (qhb H.out.1 H.out.2 (by omega) (by omega) (by omega)).mono ?_;rintro r w' ⟨rfl,rfl⟩)
  all_goals go_wp2_with fail
  all_goals try (refine (zar H.out.2).mono ?_;rintro r w' ⟨rfl,rfl⟩;go_wp2_with fail)
  all_goals
   go_ret;exact ⟨rfl,rfl⟩
theorem qo0 (E:Nat→Addr) (w:World) (h:Snt w E):Calls Tryz.prog 19 #[.iface 359 (.pointer (some (E 1)))] w fun r w'=>r=.returned (.tuple #[.int .i64 1,.int .i64 0])∧Below w.heap.size w w':=by
 have H:Hid (_):=h;have hb:Hid (Below w.heap.size w (w.alloc (.cells #[.pointer none] 93))):=(Below.refl _ _).alloc (Nat.le_refl _) _;clear h;go_enter Tryz.func19,Tryz.ntmps19
 go_wp2_with fail;refine (zvi (E 1) _ _ (H.out.below hb.out).et).mono ?_;rintro r w' ⟨rfl,rfl⟩;have hb2:Hid (Below w.heap.size w ((((w.alloc (.cells #[.pointer none] 93)).alloc (.cells #[.pointer (some ⟨w.heap.size,0,none⟩)] 95)).alloc (asV (w.alloc (.cells #[.pointer none] 93)))).alloc (asV (w.alloc (.cells #[.pointer none] 93))))) :=
  (((hb.out.alloc (by simp) _).alloc (by simp;omega) _).alloc (by simp;omega) _)
 go_wp2_with fail;refine (qx2 E _ (H.out.below hb2.out)).mono ?_;rintro r w' ⟨rfl,rfl⟩;go_wp2_with fail;go_ret2;exact ⟨rfl,hb2.out⟩
def qu5 (w:World) (f:Nat):World:=(((((w.alloc (.cells #[.pointer none] 93)).alloc (.cells #[.pointer (some ⟨w.heap.size,0,none⟩)] 95)).alloc (asV (w.alloc (.cells #[.pointer none] 93)))).alloc (asV (w.alloc (.cells #[.pointer none] 93)))).alloc (.cells #[.pointer (some ⟨f,0,none⟩)] 93)).setCell ⟨w.heap.size,0,none⟩ (.pointer (some ⟨f,0,none⟩))
theorem qo1 (w:World) (f:Nat):Below w.heap.size w (qu5 w f) :=
 (((((((Below.refl _ _).alloc (Nat.le_refl _) _).alloc (by simp) _).alloc (by simp;omega) _).alloc (by simp;omega) _).alloc (by simp;omega) _).setCell (p:=⟨w.heap.size,0,none⟩) (Nat.le_refl _) _)
theorem zb3 (w:World) (f:Nat):(qu5 w f).cell? ⟨w.heap.size,0,none⟩=some (.pointer (some ⟨f,0,none⟩)):=by
 have h0:(w.alloc (.cells #[.pointer none] 93)).heap[w.heap.size]?=some (.cells #[.pointer none] 93):=by
  show (w.heap.push _)[w.heap.size]?=_
  rw[Array.getElem?_push,if_pos rfl]
 have h1:(((((w.alloc (.cells #[.pointer none] 93)).alloc (.cells #[.pointer (some ⟨w.heap.size,0,none⟩)] 95)).alloc (asV (w.alloc (.cells #[.pointer none] 93)))).alloc (asV (w.alloc (.cells #[.pointer none] 93)))).alloc (.cells #[.pointer (some ⟨f,0,none⟩)] 93)).heap[w.heap.size]?=some (.cells #[.pointer none] 93):=by
  rw[Below.heap_alloc _ _ _ (by simp;omega),Below.heap_alloc _ _ _ (by simp;omega),Below.heap_alloc _ _ _ (by simp;omega),Below.heap_alloc _ _ _ (by simp)]
  exact h0
 unfold qu5;generalize (((((w.alloc (.cells #[.pointer none] 93)).alloc (.cells #[.pointer (some ⟨w.heap.size,0,none⟩)] 95)).alloc (asV (w.alloc (.cells #[.pointer none] 93)))).alloc (asV (w.alloc (.cells #[.pointer none] 93)))).alloc (.cells #[.pointer (some ⟨f,0,none⟩)] 93))=X at h1 ⊢;simp[World.cell?,World.setCell,Array.getElem?_modify,h1]
theorem qmh (E:Nat→Addr) (e p f:Nat) (w:World) (h:Snt w E) (hf:qe9 w f p (E e)) (he:2≤e∧e≤6):Calls Tryz.prog 19 #[.iface 93 (.pointer (some ⟨f,0,none⟩))] w fun r w'=>r=.returned (.tuple #[.int .i64 (e:Int),.int .i64 (p:Int)])∧Below w.heap.size w w':=by
 have hfl:f < w.heap.size:=by
  unfold qe9 at hf;rcases Nat.lt_or_ge f w.heap.size with hb | hb
  ·exact hb
  ·rw[Array.getElem?_eq_none hb] at hf;cases hf
 have H:Hid (_):=h;have hb:Hid (Below w.heap.size w (w.alloc (.cells #[.pointer none] 93))):=(Below.refl _ _).alloc (Nat.le_refl _) _;have hb2:Hid (Below w.heap.size w (qu5 w f)):=qo1 w f;have hb3:Hid (Below w.heap.size w (qu5 w f).drew):=⟨hb2.out.os,hb2.out.tape,hb2.out.output,hb2.out.size,hb2.out.block⟩;have hc:=zb3 w f;have hF:Hid (qe9 (qu5 w f) f p (E e)):=by
  unfold Hid qe9;rw[(qo1 w f).block f hfl];exact hf
 have hp:(qu5 w f).cell? ⟨f,0,none⟩=some (.int .i64 (p:Int)):=by
  have:=hF.out
  unfold qe9 at this;simp[World.cell?,this]
 clear h hf;go_enter Tryz.func19,Tryz.ntmps19
 go_wp2_with fail;refine (zya ⟨f,0,none⟩ _ (.pointer none) _ (H.out.below hb.out).et (by simp) (by simp)).mono ?_
 rintro r w' ⟨rfl,hw⟩;have hw':w'=qu5 w f:=hw;subst hw';clear hw;go_wp2_with fail;go_region_with (go_at_call 28;refine (qvu E e p f _ ?_ ?_ he).mono ?_;exact H.out.below hb3.out;exact hF.out;rintro r w' ⟨rfl,rfl⟩)
 all_goals (try go_wp2_with fail)
 all_goals (go_ret2;exact ⟨rfl,hb3.out⟩)
end Lg
open Go.RowKit
open Go.Shelf
def itoaLays_ren:Go.Shelf.Ren:=⟨fun | 171=>51 | 243=>128 | 246=>170 | 283=>205 | 284=>206 | 285=>207 | 286=>208 | 129=>63 | 317=>227 | 318=>228 | 319=>229 | 320=>230 | 337=>239 | 338=>240 | n=>n,fun | 3=>3 | 9=>9 | 2=>2 | 4=>4 | 171=>331 | 0=>0 | 53=>152 | 37=>184 | 5=>5 | 173=>333 | 212=>347 | 51=>150 | 20=>20 | 213=>348 | 46=>88 | 232=>357 | 233=>358 | n=>n,fun | 17=>17 | 18=>19 | 19=>20 | n=>n⟩
theorem itoaLays:Go.Proofs.LaysM.n171 Tryz.prog itoaLays_ren:={
 mixed:=by kernel_rfl
 f129:=Tryz.func63.trans (congrArg some (by kernel_rfl))
 f171:=Tryz.func51.trans (congrArg some (by kernel_rfl))
 f243:=Tryz.func128.trans (congrArg some (by kernel_rfl))
 f246:=Tryz.func170.trans (congrArg some (by kernel_rfl))
 f283:=Tryz.func205.trans (congrArg some (by kernel_rfl))
 f284:=Tryz.func206.trans (congrArg some (by kernel_rfl))
 f285:=Tryz.func207.trans (congrArg some (by kernel_rfl))
 f286:=Tryz.func208.trans (congrArg some (by kernel_rfl))
 f317:=Tryz.func227.trans (congrArg some (by kernel_rfl))
 f318:=Tryz.func228.trans (congrArg some (by kernel_rfl))
 f319:=Tryz.func229.trans (congrArg some (by kernel_rfl))
 f320:=Tryz.func230.trans (congrArg some (by kernel_rfl))
 f337:=Tryz.func239.trans (congrArg some (by kernel_rfl))
 f338:=Tryz.func240.trans (congrArg some (by kernel_rfl))
 t0:=Tryz.underlying0
 a0:=Tryz.isAgg0
 z0:=Tryz.sizeOf0
 v0:=Tryz.zeroValue0
 t2:=Tryz.underlying2
 a2:=Tryz.isAgg2
 z2:=Tryz.sizeOf2
 v2:=Tryz.zeroValue2
 t3:=Tryz.underlying3
 a3:=Tryz.isAgg3
 z3:=Tryz.sizeOf3
 v3:=Tryz.zeroValue3
 t4:=Tryz.underlying4
 a4:=Tryz.isAgg4
 z4:=Tryz.sizeOf4
 v4:=Tryz.zeroValue4
 t5:=Tryz.underlying5
 a5:=Tryz.isAgg5
 z5:=Tryz.sizeOf5
 v5:=Tryz.zeroValue5
 t9:=Tryz.underlying9
 a9:=Tryz.isAgg9
 z9:=Tryz.sizeOf9
 v9:=Tryz.zeroValue9
 t20:=Tryz.underlying20
 a20:=Tryz.isAgg20
 z20:=Tryz.sizeOf20
 v20:=Tryz.zeroValue20
 t37:=Tryz.underlying184
 a37:=Tryz.isAgg184
 z37:=Tryz.sizeOf184
 v37:=Tryz.zeroValue184
 t46:=Tryz.underlying88
 a46:=Tryz.isAgg88
 z46:=Tryz.sizeOf88
 v46:=Tryz.zeroValue88
 t51:=Tryz.underlying150
 a51:=Tryz.isAgg150
 z51:=Tryz.sizeOf150
 v51:=Tryz.zeroValue150
 t53:=Tryz.underlying152
 a53:=Tryz.isAgg152
 z53:=Tryz.sizeOf152
 v53:=Tryz.zeroValue152
 t171:=Tryz.underlying331
 a171:=Tryz.isAgg331
 z171:=Tryz.sizeOf331
 v171:=Tryz.zeroValue331
 t173:=Tryz.underlying333
 a173:=Tryz.isAgg333
 z173:=Tryz.sizeOf333
 v173:=Tryz.zeroValue333
 t212:=Tryz.underlying347
 a212:=Tryz.isAgg347
 z212:=Tryz.sizeOf347
 v212:=Tryz.zeroValue347
 t213:=Tryz.underlying348
 a213:=Tryz.isAgg348
 z213:=Tryz.sizeOf348
 t232:=Tryz.underlying357
 a232:=Tryz.isAgg357
 z232:=Tryz.sizeOf357
 v232:=Tryz.zeroValue357
 t233:=Tryz.underlying358
 a233:=Tryz.isAgg358
 z233:=Tryz.sizeOf358
 v233:=Tryz.zeroValue358
 g17:=by kernel_rfl
 g18:=by kernel_rfl
 g19:=by kernel_rfl
 i0:=by kernel_rfl
 i2:=by kernel_rfl
 i3:=by kernel_rfl
 i4:=by kernel_rfl
 i5:=by kernel_rfl
 i9:=by kernel_rfl
 i20:=by kernel_rfl
 i37:=by kernel_rfl
 i46:=by kernel_rfl
 i51:=by kernel_rfl
 i53:=by kernel_rfl
 i171:=by kernel_rfl
 i173:=by kernel_rfl
 i212:=by kernel_rfl
 i232:=by kernel_rfl
 i233:=by kernel_rfl
 m17:=by kernel_rfl
 m18:=by kernel_rfl
 m19:=by kernel_rfl }
theorem zh2 (n:Int) (h0:-9223372036854775808≤n) (h1:n≤9223372036854775807) (w:World) (htab:Lib.TabIs Tryz.prog w "internal/strconv.uint64pow10" .u64 Lib.pow10Tab) :
  Calls Tryz.prog 51 #[.int .i64 n] w fun e w'=>e=.returned (.string ⟨(Lib.itoa n).toArray⟩)∧∃ k os,w'=Sort.grow (w.drewN k) os:=Any.strconv_Itoa itoaLays n h0 h1 w htab
open Go.RowKit
namespace Lg
def qbv (w:World) (i tk mk:Nat):World:=w.alloc (.cells #[.string (tx i),.int .i64 (lv i),.int .i64 (kk tk:Int),.int .i64 (kk mk:Int)] 354)
theorem Ck.alloc {w:World} {c m B:Nat} {E:Nat→Addr} {K:Px.Lk} (h:Ck w c m B E K) (o:Obj):Ck (w.alloc o) c m B E K:=by
 have hf:Fr c m w (w.alloc o):=(Fr.refl c m w).alloc o;refine ⟨h.g.below (h.fr hf),h.bc,?_⟩;obtain ⟨pf,h1,h2,h3,⟨es,ck,h4,h4'⟩,h5⟩:=h.ex;refine ⟨pf,by rw[Below.heap_alloc _ _ _ (lt_of_block h1)];exact h1,h2,h3,⟨es,ck,by rw[Below.heap_alloc _ _ _ (lt_of_block h4)];exact h4,h4'⟩,?_⟩
 rcases h5 with h5 | ⟨h5,f,h6,h7,h8,h9,h10⟩
 ·exact Or.inl h5
 ·refine Or.inr ⟨h5,f,h6,h7,h8,h9,?_⟩;unfold qe9 at h10 ⊢;rw[Below.heap_alloc _ _ _ (lt_of_block h10)];exact h10
def Op7 (op:Nat):Prop:=op=42∨op=47∨op=43∨op=45∨op=60∨op=61∨op=35
theorem qja {w:World} {B:Nat} {E:Nat→Addr} (g:Gc w B E) {op:Nat} (hop:Op7 op) :
  w.cell? ⟨18,opIx op * 4,none⟩=some (.string (tx (opIx op)))∧w.cell? ⟨18,opIx op * 4+1,none⟩=some (.int .i64 (lv (opIx op))) ∧
  w.cell? ⟨18,opIx op * 4+2,none⟩=some (.int .i64 (kk (Px.qfx op):Int))∧w.cell? ⟨18,opIx op * 4+3,none⟩=some (.int .i64 (kk (Px.qjg op):Int)):=by
 rcases hop with rfl | rfl | rfl | rfl | rfl | rfl | rfl
 ·exact ⟨g.ops 8 (by decide),g.ops 9 (by decide),g.ops 10 (by decide),g.ops 11 (by decide)⟩
 ·exact ⟨g.ops 12 (by decide),g.ops 13 (by decide),g.ops 14 (by decide),g.ops 15 (by decide)⟩
 ·exact ⟨g.ops 0 (by decide),g.ops 1 (by decide),g.ops 2 (by decide),g.ops 3 (by decide)⟩
 ·exact ⟨g.ops 4 (by decide),g.ops 5 (by decide),g.ops 6 (by decide),g.ops 7 (by decide)⟩
 ·exact ⟨g.ops 16 (by decide),g.ops 17 (by decide),g.ops 18 (by decide),g.ops 19 (by decide)⟩
 ·exact ⟨g.ops 20 (by decide),g.ops 21 (by decide),g.ops 22 (by decide),g.ops 23 (by decide)⟩
 ·exact ⟨g.ops 24 (by decide),g.ops 25 (by decide),g.ops 26 (by decide),g.ops 27 (by decide)⟩
theorem qk2 {op:Nat}:Px.K3 (Px.qfx op):=by unfold Px.qfx;split;exact Or.inr (Or.inr rfl);exact Or.inl rfl
theorem qkr (op:Nat):opIx op < 7:=by
 unfold opIx
 repeat' split
 all_goals omega
end Lg
end Go.Proofs.YtagpnplggopoeaaGreatDoor
