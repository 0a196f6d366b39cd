import Derived.Test.YtgkhgealpneodaaGreatDoorG13
import Derived.Test.YtgkhgealpneodaaGreatDoorG12
import Derived.Shelf.Strconv.Itoa3
set_option maxRecDepth 100000
namespace Go.Proofs.YtgkhgealpneodaaGreatDoor
open Go.RowKit Tryz
namespace Lg
structure q8(w:dY)(E:Nat->Addr):Prop where
 v1:w.cell? ⟨0,0,none⟩=some (.iface 393 (.pointer (some (E 1))))
 v2:w.cell? ⟨3,0,none⟩=some (.iface 393 (.pointer (some (E 2))))
 v3:w.cell? ⟨5,0,none⟩=some (.iface 393 (.pointer (some (E 3))))
 v4:w.cell? ⟨6,0,none⟩=some (.iface 393 (.pointer (some (E 4))))
 v5:w.cell? ⟨7,0,none⟩=some (.iface 393 (.pointer (some (E 5))))
 v6:w.cell? ⟨8,0,none⟩=some (.iface 393 (.pointer (some (E 6))))
 v7:w.cell? ⟨9,0,none⟩=some (.iface 393 (.pointer (some (E 7))))
 v8:w.cell? ⟨1,0,none⟩=some (.iface 393 (.pointer (some (E 8))))
 v9:w.cell? ⟨10,0,none⟩=some (.iface 393 (.pointer (some (E 9))))
 blk:∀i,1<=i->i<=9->∃c t,w.heap[(E i).block]?=some (.cells c t (0,0))
 ne:∀i j,1<=i->i<=9->1<=j->j<=9->i≠j->E i≠E j
 et:w.cell? ⟨4,0,none⟩=some (.iface 258 (.agg #[.pointer (some ⟨21,63,none⟩)]))
variable{w:dY}{E:Nat->Addr}
theorem q8.below{w':dY}(h:q8 w E)(k:gU w w'):q8 w' E:=by
 have bc:∀{b o:Nat}{v:dZ},w.cell? ⟨b,o,none⟩=some v->w'.cell? ⟨b,o,none⟩=some v:=fun{b o v}hv=>by rw[aH (w:=w) (k.block b (lt_of_cell hv))];exact hv
 refine⟨bc h.v1,bc h.v2,bc h.v3,bc h.v4,bc h.v5,bc h.v6,bc h.v7,bc h.v8,bc h.v9,fun i h1 h2=>?_,h.ne,bc h.et⟩;obtain⟨c,t,hc⟩:=h.blk i h1 h2;have hl:(E i).block<w.heap.size:=by
  obtain hb|hb:=dF (E i).block w.heap.size;·exact hb
  rw[dN hb]at hc;cases hc
 exact⟨c,t,by rw[k.block _ hl];exact hc⟩
variable{e f p:Nat}
theorem YL(h:q8 w E){i:Nat}(hf:qE w f p (E e))(he:1<=e/\e<=9)(hi:1<=i/\i<=9)(hne:e≠i):fI 47 #[.iface 114 (fq f),.iface 393 (.pointer (some (E i)))] w fun e w'=>e=fM (.bool false)/\w'=w:=by obtain⟨ca,ta,ha⟩:=h.blk e he.1 he.2;obtain⟨cb,tb,hb⟩:=h.blk i hi.1 hi.2;exact qqt f _ _ _ _ _ _ w (by unfold qE at hf;simp[World.cell?,hf]) (h.ne e i he.1 he.2 hi.1 hi.2 hne) ha hb
theorem zar(hf:qE w f p (E e)):fI 47 #[.iface 114 (fq f),.iface 393 (.pointer (some (E e)))] w fun e w'=>e=fM (.bool true)/\w'=w:=qtm f _ w (by unfold qE at hf;simp[World.cell?,hf])
theorem qx2(E:Nat->Addr)(w:dY)(h:q8 w E):fI 44 #[.iface 393 (.pointer (some (E 1)))] w fun r w'=>r=fM (eF 1)/\w'=w:=by have v1:=h.v1;clear h;go_enter func44,ntmps44;go_wp2_with fail;refine(YF (E 1) w).mono ?_;rintro e w' ⟨rfl,rfl⟩;go_wp2_with fail;go_ret;exact⟨rfl,rfl⟩
theorem qvu(E:Nat->Addr)(e p f:Nat)(w:dY)(h:q8 w E)(hf:qE w f p (E e))(he:2<=e/\e<=6):fI 44 #[.iface 114 (fq f)] w fun r w'=>r=fM (eF (e:Int))/\w'=w:=by
 have v1:=h.v1;have v3:=h.v3;have v4:=h.v4;have v5:=h.v5;have v6:=h.v6;have v7:=h.v7;have v8:=h.v8;have v9:=h.v9;have H:Hid (q8 w E/\qE w f p (E e)):=⟨h,hf⟩;clear h hf;have hc:e=2\/e=3\/e=4\/e=5\/e=6:=by omega
 go_enter func44,ntmps44;go_wp2_with fail;refine(YL H.o.1 (i:=1) H.o.2 (by omega) (by omega) (by omega)).mono ?_;rintro r w' ⟨rfl,rfl⟩;obtain rfl|rfl|rfl|rfl|rfl:=hc;all_goals
  repeat (go_wp2_with fail;refine(YL H.o.1 H.o.2 (by omega) (by omega) (by omega)).mono ?_;rintro r w' ⟨rfl,rfl⟩)
  all_goals go_wp2_with fail
  all_goals try (refine(zar H.o.2).mono ?_;rintro r w' ⟨rfl,rfl⟩;go_wp2_with fail)
  all_goals
   go_ret;exact⟨rfl,rfl⟩
theorem qo0(E:Nat->Addr)(w:dY)(h:q8 w E):fI 21 #[.iface 393 (.pointer (some (E 1)))] w fun r w'=>r=fM (.tuple #[eF 1,eF 0])/\gU w w':=by
 have H:Hid _:=h;have hb:Hid (gU w (w.alloc (.cells #[.pointer none] 114))):=(aF _ _).alloc (ay _) _;clear h;go_enter func21,ntmps21;go_wp2_with fail;refine(zvi (E 1) _ _ (H.o.below hb.o).et).mono ?_;rintro r w' ⟨rfl,rfl⟩;have hb2:Hid (gU w ((((w.alloc (.cells #[.pointer none] 114)).alloc (.cells #[fq w.heap.size] 116)).alloc (nY (w.alloc (.cells #[.pointer none] 114)))).alloc (nY (w.alloc (.cells #[.pointer none] 114))))):=
  (((hb.o.alloc (by simp) _).alloc (by simp;omega) _).alloc (by simp;omega) _)
 go_wp2_with fail;refine(qx2 E _ (H.o.below hb2.o)).mono ?_;rintro r w' ⟨rfl,rfl⟩;go_wp2_with fail;go_ret2;exact⟨rfl,hb2.o⟩
def Dp(w:dY)(f:Nat):dY:=(((((w.alloc (.cells #[.pointer none] 114)).alloc (.cells #[fq w.heap.size] 116)).alloc (nY (w.alloc (.cells #[.pointer none] 114)))).alloc (nY (w.alloc (.cells #[.pointer none] 114)))).alloc (.cells #[fq f] 114)).setCell ⟨w.heap.size,0,none⟩ (fq f)
theorem YM(w:dY)(f:Nat):gU w (Dp w f):=(((((((aF _ _).alloc (ay _) _).alloc (by simp) _).alloc (by simp;omega) _).alloc (by simp;omega) _).alloc (by simp;omega) _).setCell (p:=⟨w.heap.size,0,none⟩) (ay _) _)
theorem zb3(w:dY)(f:Nat):(Dp w f).cell? ⟨w.heap.size,0,none⟩=some (fq f):=by
 have h0:(w.alloc (.cells #[.pointer none] 114)).heap[w.heap.size]?=some (.cells #[.pointer none] 114):=by show(w.heap.push _)[w.heap.size]?=_;rw[aD,aA rfl]
 have h1:(((((w.alloc (.cells #[.pointer none] 114)).alloc (.cells #[fq w.heap.size] 116)).alloc (nY (w.alloc (.cells #[.pointer none] 114)))).alloc (nY (w.alloc (.cells #[.pointer none] 114)))).alloc (.cells #[fq f] 114)).heap[w.heap.size]?=some (.cells #[.pointer none] 114):=by rw[aI _ _ _ (by simp;omega),aI _ _ _ (by simp;omega),aI _ _ _ (by simp;omega),aI _ _ _ (by simp)];exact h0
 unfold Dp;generalize (((((w.alloc (.cells #[.pointer none] 114)).alloc (.cells #[fq w.heap.size] 116)).alloc (nY (w.alloc (.cells #[.pointer none] 114)))).alloc (nY (w.alloc (.cells #[.pointer none] 114)))).alloc (.cells #[fq f] 114))=X at h1 |-;simp[World.cell?,World.setCell,Array.getElem?_modify,h1]
theorem qmh(E:Nat->Addr)(e p f:Nat)(w:dY)(h:q8 w E)(hf:qE w f p (E e))(he:2<=e/\e<=6):fI 21 #[.iface 114 (fq f)] w fun r w'=>r=fM (.tuple #[eF (e:Int),eF (p:Int)])/\gU w w':=by
 have hfl:f<w.heap.size:=by
  unfold qE at hf;obtain hb|hb:=dF f w.heap.size;·exact hb
  rw[dN hb]at hf;cases hf
 have H:Hid _:=h;have hb:Hid (gU w (w.alloc (.cells #[.pointer none] 114))):=(aF _ _).alloc (ay _) _;have hb2:Hid (gU w (Dp w f)):=YM w f;have hb3:Hid (gU w (Dp w f).drew):=⟨hb2.o.os,hb2.o.tape,hb2.o.output,hb2.o.size,hb2.o.block⟩;have hc:=zb3 w f;have hF:Hid (qE (Dp w f) f p (E e)):=by unfold Hid qE;rw[(YM w f).block f hfl];exact hf
 have hp:(Dp w f).cell? ⟨f,0,none⟩=some (eF (p:Int)):=by have:=hF.o;unfold qE at this;simp[World.cell?,this]
 clear h hf;go_enter func21,ntmps21;go_wp2_with fail;refine(zya ⟨f,0,none⟩ _ (.pointer none) _ (H.o.below hb.o).et (by simp) (by simp)).mono ?_;rintro r w' ⟨rfl,hw⟩;have hw':w'=Dp w f:=hw;subst hw';clear hw;go_wp2_with fail;go_region_with (go_at_call 44;refine(qvu E e p f _ ?_ ?_ he).mono ?_;exact H.o.below hb3.o;exact hF.o;rintro r w' ⟨rfl,rfl⟩)
 all_goals (try go_wp2_with fail)
 all_goals (go_ret2;exact⟨rfl,hb3.o⟩)
end Lg
open Go.Shelf
def uF:Go.Shelf.Ren:=⟨fun|171=>143|243=>181|246=>229|283=>253|284=>254|285=>255|286=>256|129=>219|317=>265|318=>266|319=>267|320=>268|337=>272|338=>273|n=>n,fun|3=>3|9=>9|2=>2|4=>4|171=>375|0=>0|53=>351|37=>213|5=>5|173=>377|212=>384|51=>349|20=>20|213=>385|46=>301|232=>391|233=>392|n=>n,fun|17=>17|18=>19|19=>20|n=>n⟩
theorem zG:Go.Proofs.LaysM.n171 prog uF:={
 mixed:=by kernel_rfl
 f129:=func219.trans (congrArg some (by kernel_rfl))
 f171:=func143.trans (congrArg some (by kernel_rfl))
 f243:=func181.trans (congrArg some (by kernel_rfl))
 f246:=func229.trans (congrArg some (by kernel_rfl))
 f283:=func253.trans (congrArg some (by kernel_rfl))
 f284:=func254.trans (congrArg some (by kernel_rfl))
 f285:=func255.trans (congrArg some (by kernel_rfl))
 f286:=func256.trans (congrArg some (by kernel_rfl))
 f317:=func265.trans (congrArg some (by kernel_rfl))
 f318:=func266.trans (congrArg some (by kernel_rfl))
 f319:=func267.trans (congrArg some (by kernel_rfl))
 f320:=func268.trans (congrArg some (by kernel_rfl))
 f337:=func272.trans (congrArg some (by kernel_rfl))
 f338:=func273.trans (congrArg some (by kernel_rfl))
 t0:=underlying0
 a0:=Tryz.isAgg0
 z0:=Tryz.sizeOf0
 v0:=Tryz.zeroValue0
 t2:=underlying2
 a2:=Tryz.isAgg2
 z2:=Tryz.sizeOf2
 v2:=Tryz.zeroValue2
 t3:=underlying3
 a3:=Tryz.isAgg3
 z3:=Tryz.sizeOf3
 v3:=Tryz.zeroValue3
 t4:=underlying4
 a4:=Tryz.isAgg4
 z4:=Tryz.sizeOf4
 v4:=Tryz.zeroValue4
 t5:=underlying5
 a5:=Tryz.isAgg5
 z5:=Tryz.sizeOf5
 v5:=Tryz.zeroValue5
 t9:=underlying9
 a9:=Tryz.isAgg9
 z9:=Tryz.sizeOf9
 v9:=Tryz.zeroValue9
 t20:=underlying20
 a20:=Tryz.isAgg20
 z20:=Tryz.sizeOf20
 v20:=Tryz.zeroValue20
 t37:=underlying213
 a37:=Tryz.isAgg213
 z37:=Tryz.sizeOf213
 v37:=Tryz.zeroValue213
 t46:=underlying301
 a46:=Tryz.isAgg301
 z46:=Tryz.sizeOf301
 v46:=Tryz.zeroValue301
 t51:=underlying349
 a51:=Tryz.isAgg349
 z51:=Tryz.sizeOf349
 v51:=Tryz.zeroValue349
 t53:=underlying351
 a53:=Tryz.isAgg351
 z53:=Tryz.sizeOf351
 v53:=Tryz.zeroValue351
 t171:=underlying375
 a171:=Tryz.isAgg375
 z171:=Tryz.sizeOf375
 v171:=Tryz.zeroValue375
 t173:=underlying377
 a173:=Tryz.isAgg377
 z173:=Tryz.sizeOf377
 v173:=Tryz.zeroValue377
 t212:=underlying384
 a212:=Tryz.isAgg384
 z212:=Tryz.sizeOf384
 v212:=Tryz.zeroValue384
 t213:=underlying385
 a213:=Tryz.isAgg385
 z213:=Tryz.sizeOf385
 t232:=underlying391
 a232:=Tryz.isAgg391
 z232:=Tryz.sizeOf391
 v232:=Tryz.zeroValue391
 t233:=underlying392
 a233:=Tryz.isAgg392
 z233:=Tryz.sizeOf392
 v233:=Tryz.zeroValue392
 g17:=by kernel_rfl
 g18:=by kernel_rfl
 g19:=by kernel_rfl
 i0:=by kernel_rfl
 i2:=by kernel_rfl
 i3:=by kernel_rfl
 i4:=by kernel_rfl
 i5:=by kernel_rfl
 i9:=by kernel_rfl
 i20:=by kernel_rfl
 i37:=by kernel_rfl
 i46:=by kernel_rfl
 i51:=by kernel_rfl
 i53:=by kernel_rfl
 i171:=by kernel_rfl
 i173:=by kernel_rfl
 i212:=by kernel_rfl
 i232:=by kernel_rfl
 i233:=by kernel_rfl
 m17:=by kernel_rfl
 m18:=by kernel_rfl
 m19:=by kernel_rfl}
theorem zh2(n:Int)(h0:-9223372036854775808<=n)(h1:n<=9223372036854775807)(w:dY)(htab:Lib.TabIs prog w "internal/strconv.uint64pow10" .u64 Lib.pow10Tab):fI 143 #[eF n] w fun e w'=>e=fM (.string ⟨(Lib.itoa n).toArray⟩)/\∃k os,w'=Sort.grow (w.drewN k) os:=Any.strconv_Itoa zG n h0 h1 w htab
namespace Lg
open Px
def FC(w:dY)(i tk mk:Nat):dY:=w.alloc (.cells #[.string (tx i),eF (lv i),eF (kk tk:Int),eF (kk mk:Int)] 388)
theorem Ck.alloc{w:dY}{c m B:Nat}{E:Nat->Addr}{K:gM}(h:Ck w c m B E K)(o:Obj):Ck (w.alloc o) c m B E K:=by
 have hf:Fr c m w (w.alloc o):=(Fr.refl c m w).alloc o;refine⟨h.g.below (h.fr hf),h.bc,?_⟩;obtain⟨pf,h1,h2,h3,⟨es,ck,h4,h4'⟩,h5⟩:=h.ex;refine⟨pf,by rw[aI _ _ _ (lt_of_block h1)];exact h1,h2,h3,⟨es,ck,by rw[aI _ _ _ (lt_of_block h4)];exact h4,h4'⟩,?_⟩;obtain h5|⟨h5,f,h6,h7,h8,h9,h10⟩:=h5;·exact ak h5
 refine aj ⟨h5,f,h6,h7,h8,h9,?_⟩;unfold qE at h10 |-;rw[aI _ _ _ (lt_of_block h10)];exact h10
def YN(op:Nat):Prop:=op=42\/op=47\/op=43\/op=45\/op=60\/op=61\/op=35
theorem qja{w:dY}{B:Nat}{E:Nat->Addr}(g:Gc w B E){op:Nat}(hop:YN op):w.cell? ⟨18,jU op*4,none⟩=some (.string (tx (jU op)))/\w.cell? ⟨18,jU op*4+1,none⟩=some (eF (lv (jU op))) /\
  w.cell? ⟨18,jU op*4+2,none⟩=some (eF (kk (A9 op):Int))/\w.cell? ⟨18,jU op*4+3,none⟩=some (eF (kk (Ea op):Int)):=by
 obtain rfl|rfl|rfl|rfl|rfl|rfl|rfl:=hop;·exact⟨g.ops 8 (by decide),g.ops 9 (by decide),g.ops 10 (by decide),g.ops 11 (by decide)⟩
 ·exact⟨g.ops 12 (by decide),g.ops 13 (by decide),g.ops 14 (by decide),g.ops 15 (by decide)⟩
 ·exact⟨g.ops 0 (by decide),g.ops 1 (by decide),g.ops 2 (by decide),g.ops 3 (by decide)⟩
 ·exact⟨g.ops 4 (by decide),g.ops 5 (by decide),g.ops 6 (by decide),g.ops 7 (by decide)⟩
 ·exact⟨g.ops 16 (by decide),g.ops 17 (by decide),g.ops 18 (by decide),g.ops 19 (by decide)⟩
 ·exact⟨g.ops 20 (by decide),g.ops 21 (by decide),g.ops 22 (by decide),g.ops 23 (by decide)⟩
 ·exact⟨g.ops 24 (by decide),g.ops 25 (by decide),g.ops 26 (by decide),g.ops 27 (by decide)⟩
theorem qk2{op:Nat}:Px.K3 (A9 op):=by unfold A9;split;exact aj (aj rfl);exact ak rfl
theorem qkr(op:Nat):jU op<7:=by
 unfold jU
 repeat' split
 all_goals omega
