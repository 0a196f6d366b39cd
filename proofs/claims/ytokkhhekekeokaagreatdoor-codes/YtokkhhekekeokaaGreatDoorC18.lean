import Derived.Test.YtokkhhekekeokaaGreatDoorC17
import Derived.Test.YtokkhhekekeokaaGreatDoorC16
set_option maxRecDepth 100000
namespace Go.Proofs.YtokkhhekekeokaaGreatDoor
open Go.RowKit Tryz
namespace Lg
open Px
structure uS (w:fu)(E:Nat->Addr):Prop where
 v1:w.cell? ⟨0,0,none⟩=some (.iface 337 (.pointer (some (E 1))))
 v2:w.cell? ⟨1,0,none⟩=some (.iface 337 (.pointer (some (E 2))))
 v3:w.cell? ⟨3,0,none⟩=some (.iface 337 (.pointer (some (E 3))))
 v4:w.cell? ⟨4,0,none⟩=some (.iface 337 (.pointer (some (E 4))))
 v5:w.cell? ⟨5,0,none⟩=some (.iface 337 (.pointer (some (E 5))))
 v6:w.cell? ⟨6,0,none⟩=some (.iface 337 (.pointer (some (E 6))))
 v7:w.cell? ⟨7,0,none⟩=some (.iface 337 (.pointer (some (E 7))))
 v8:w.cell? ⟨8,0,none⟩=some (.iface 337 (.pointer (some (E 8))))
 v9:w.cell? ⟨9,0,none⟩=some (.iface 337 (.pointer (some (E 9))))
 blk:∀ i,1<=i->i<=9->∃ c t,w.heap[(E i).block]?=some (.cells c t (0,0))
 ne:∀ i j,1<=i->i<=9->1<=j->j<=9->i≠j->E i≠E j
 et:w.cell? ⟨2,0,none⟩=some (.iface 207 (.agg #[.pointer (some ⟨17,43,none⟩)]))
variable {w:fu}{E:Nat->Addr}
theorem uS.below {w':fu}(h:uS w E)(k:Below w.heap.size w w'):uS w' E:=by
 have bc:∀ {b o:Nat} {v:fC},w.cell? ⟨b,o,none⟩=some v->w'.cell? ⟨b,o,none⟩=some v:=fun {b o v} hv=>by
  rw[aF (w:=w) (k.block b (lt_of_cell hv))];exact hv
 refine ⟨bc h.v1,bc h.v2,bc h.v3,bc h.v4,bc h.v5,bc h.v6,bc h.v7,bc h.v8,bc h.v9,fun i h1 h2=>?_,h.ne,bc h.et⟩
 obtain ⟨c,t,hc⟩:=h.blk i h1 h2;have hl:(E i).block < w.heap.size:=by
  rcases dD (E i).block w.heap.size with hb | hb
  ·exact hb
  ·rw[dL hb] at hc;cases hc
 exact ⟨c,t,by rw[k.block _ hl];exact hc⟩
variable {e f op p:Nat}
theorem X0 (h:uS w E){i:Nat}(hf:oV w f p (E e))(he:1<=e/\e<=9)(hi:1<=i/\i<=9)(hne:e≠i) :
  Calls prog 48 #[.iface 70 (.pointer (some ⟨f,0,none⟩)),.iface 337 (.pointer (some (E i)))] w fun e w'=>e=.returned (.bool false)/\w'=w:=by
 obtain ⟨ca,ta,ha⟩:=h.blk e he.1 he.2;obtain ⟨cb,tb,hb⟩:=h.blk i hi.1 hi.2;exact qqt f _ _ _ _ _ _ w (by unfold oV at hf;simp[World.cell?,hf]) (h.ne e i he.1 he.2 hi.1 hi.2 hne) ha hb
theorem zar (hf:oV w f p (E e)) :
  Calls prog 48 #[.iface 70 (.pointer (some ⟨f,0,none⟩)),.iface 337 (.pointer (some (E e)))] w fun e w'=>e=.returned (.bool true)/\w'=w :=
 Z3 f _ w (by unfold oV at hf;simp[World.cell?,hf])
theorem qx2 (E:Nat->Addr)(w:fu)(h:uS w E):Calls prog 24 #[.iface 337 (.pointer (some (E 1)))] w fun r w'=>r=.returned (.int .i64 1)/\w'=w:=by
 have v1:=h.v1;clear h;go_enter func24,ntmps24
 go_wp2_with fail;refine (XR (E 1) w).mono ?_;rintro e w' ⟨rfl,rfl⟩;go_wp2_with fail;go_ret;exact ⟨rfl,rfl⟩
theorem qvu (E:Nat->Addr)(e p f:Nat)(w:fu)(h:uS w E)(hf:oV w f p (E e))(he:2<=e/\e<=6):Calls prog 24 #[.iface 70 (.pointer (some ⟨f,0,none⟩))] w fun r w'=>r=.returned (.int .i64 (e:Int))/\w'=w:=by
 have v1:=h.v1;have v3:=h.v3;have v4:=h.v4;have v5:=h.v5;have v6:=h.v6;have v7:=h.v7;have v8:=h.v8;have v9:=h.v9;have H:Hid (uS w E/\oV w f p (E e)):=⟨h,hf⟩;clear h hf;have hc:e=2\/e=3\/e=4\/e=5\/e=6:=by omega
 go_enter func24,ntmps24
 go_wp2_with fail;refine (X0 H.o.1 (i:=1) H.o.2 (by omega) (by omega) (by omega)).mono ?_
 rintro r w' ⟨rfl,rfl⟩;rcases hc with rfl | rfl | rfl | rfl | rfl
 all_goals
  repeat (go_wp2_with fail;refine (X0 H.o.1 H.o.2 (by omega) (by omega) (by omega)).mono ?_;rintro r w' ⟨rfl,rfl⟩)
  all_goals go_wp2_with fail
  all_goals try (refine (zar H.o.2).mono ?_;rintro r w' ⟨rfl,rfl⟩;go_wp2_with fail)
  all_goals
   go_ret;exact ⟨rfl,rfl⟩
theorem qo0 (E:Nat->Addr)(w:fu)(h:uS w E):Calls prog 12 #[.iface 337 (.pointer (some (E 1)))] w fun r w'=>r=.returned (.tuple #[.int .i64 1,.int .i64 0])/\Below w.heap.size w w':=by
 have H:Hid (_):=h;have hb:Hid (Below w.heap.size w (w.alloc (.cells #[.pointer none] 70))):=(aH _ _).alloc (aj _) _;clear h;go_enter func12,ntmps12
 go_wp2_with fail;refine (zvi (E 1) _ _ (H.o.below hb.o).et).mono ?_;rintro r w' ⟨rfl,rfl⟩;have hb2:Hid (Below w.heap.size w ((((w.alloc (.cells #[.pointer none] 70)).alloc (.cells #[.pointer (some ⟨w.heap.size,0,none⟩)] 72)).alloc (mW (w.alloc (.cells #[.pointer none] 70)))).alloc (mW (w.alloc (.cells #[.pointer none] 70))))) :=
  (((hb.o.alloc (by simp) _).alloc (by simp;omega) _).alloc (by simp;omega) _)
 go_wp2_with fail;refine (qx2 E _ (H.o.below hb2.o)).mono ?_;rintro r w' ⟨rfl,rfl⟩;go_wp2_with fail;go_ret2;exact ⟨rfl,hb2.o⟩
def BJ (w:fu)(f:Nat):fu:=(((((w.alloc (.cells #[.pointer none] 70)).alloc (.cells #[.pointer (some ⟨w.heap.size,0,none⟩)] 72)).alloc (mW (w.alloc (.cells #[.pointer none] 70)))).alloc (mW (w.alloc (.cells #[.pointer none] 70)))).alloc (.cells #[.pointer (some ⟨f,0,none⟩)] 70)).setCell ⟨w.heap.size,0,none⟩ (.pointer (some ⟨f,0,none⟩))
theorem X4 (w:fu)(f:Nat):Below w.heap.size w (BJ w f) :=
 (((((((aH _ _).alloc (aj _) _).alloc (by simp) _).alloc (by simp;omega) _).alloc (by simp;omega) _).alloc (by simp;omega) _).setCell (p:=⟨w.heap.size,0,none⟩) (aj _) _)
theorem zb3 (w:fu)(f:Nat):(BJ w f).cell? ⟨w.heap.size,0,none⟩=some (.pointer (some ⟨f,0,none⟩)):=by
 have h0:(w.alloc (.cells #[.pointer none] 70)).heap[w.heap.size]?=some (.cells #[.pointer none] 70):=by
  show (w.heap.push _)[w.heap.size]?=_
  rw[aB,if_pos rfl]
 have h1:(((((w.alloc (.cells #[.pointer none] 70)).alloc (.cells #[.pointer (some ⟨w.heap.size,0,none⟩)] 72)).alloc (mW (w.alloc (.cells #[.pointer none] 70)))).alloc (mW (w.alloc (.cells #[.pointer none] 70)))).alloc (.cells #[.pointer (some ⟨f,0,none⟩)] 70)).heap[w.heap.size]?=some (.cells #[.pointer none] 70):=by
  rw[aD _ _ _ (by simp;omega),aD _ _ _ (by simp;omega),aD _ _ _ (by simp;omega),aD _ _ _ (by simp)]
  exact h0
 unfold BJ;generalize (((((w.alloc (.cells #[.pointer none] 70)).alloc (.cells #[.pointer (some ⟨w.heap.size,0,none⟩)] 72)).alloc (mW (w.alloc (.cells #[.pointer none] 70)))).alloc (mW (w.alloc (.cells #[.pointer none] 70)))).alloc (.cells #[.pointer (some ⟨f,0,none⟩)] 70))=X at h1 |-;simp[World.cell?,World.setCell,Array.getElem?_modify,h1]
theorem qmh (E:Nat->Addr)(e p f:Nat)(w:fu)(h:uS w E)(hf:oV w f p (E e))(he:2<=e/\e<=6):Calls prog 12 #[.iface 70 (.pointer (some ⟨f,0,none⟩))] w fun r w'=>r=.returned (.tuple #[.int .i64 (e:Int),.int .i64 (p:Int)])/\Below w.heap.size w w':=by
 have hfl:f < w.heap.size:=by
  unfold oV at hf;rcases dD f w.heap.size with hb | hb
  ·exact hb
  ·rw[dL hb] at hf;cases hf
 have H:Hid (_):=h;have hb:Hid (Below w.heap.size w (w.alloc (.cells #[.pointer none] 70))):=(aH _ _).alloc (aj _) _;have hb2:Hid (Below w.heap.size w (BJ w f)):=X4 w f;have hb3:Hid (Below w.heap.size w (BJ w f).drew):=⟨hb2.o.os,hb2.o.tape,hb2.o.output,hb2.o.size,hb2.o.block⟩;have hc:=zb3 w f;have hF:Hid (oV (BJ w f) f p (E e)):=by
  unfold Hid oV;rw[(X4 w f).block f hfl];exact hf
 have hp:(BJ w f).cell? ⟨f,0,none⟩=some (.int .i64 (p:Int)):=by
  have:=hF.o
  unfold oV at this;simp[World.cell?,this]
 clear h hf;go_enter func12,ntmps12
 go_wp2_with fail;refine (zya ⟨f,0,none⟩ _ (.pointer none) _ (H.o.below hb.o).et (by simp) (by simp)).mono ?_
 rintro r w' ⟨rfl,hw⟩;have hw':w'=BJ w f:=hw;subst hw';clear hw;go_wp2_with fail;go_region_with (go_at_call 24;refine (qvu E e p f _ ?_ ?_ he).mono ?_;exact H.o.below hb3.o;exact hF.o;rintro r w' ⟨rfl,rfl⟩)
 all_goals (try go_wp2_with fail)
 all_goals (go_ret2;exact ⟨rfl,hb3.o⟩)
def DX (w:fu)(i tk mk:Nat):fu:=w.alloc (.cells #[.string (tx i),.int .i64 (lv i),.int .i64 (kk tk:Int),.int .i64 (kk mk:Int)] 335)
theorem Ck.alloc {w:fu}{c m B:Nat}{E:Nat->Addr}{K:Px.Lk}(h:Ck w c m B E K)(o:Obj):Ck (w.alloc o) c m B E K:=by
 have hf:Fr c m w (w.alloc o):=(Fr.refl c m w).alloc o;refine ⟨h.g.below (h.fr hf),h.bc,?_⟩;obtain ⟨pf,h1,h2,h3,⟨es,ck,h4,h4'⟩,h5⟩:=h.ex;refine ⟨pf,by rw[aD _ _ _ (lt_of_block h1)];exact h1,h2,h3,⟨es,ck,by rw[aD _ _ _ (lt_of_block h4)];exact h4,h4'⟩,?_⟩
 rcases h5 with h5 | ⟨h5,f,h6,h7,h8,h9,h10⟩
 ·exact ak h5
 ·refine ah ⟨h5,f,h6,h7,h8,h9,?_⟩;unfold oV at h10 |-;rw[aD _ _ _ (lt_of_block h10)];exact h10
def X5 (op:Nat):Prop:=op=42\/op=47\/op=43\/op=45\/op=60\/op=61\/op=35
theorem qja {B:Nat}(g:Gc w B E)(hop:X5 op) :
  w.cell? ⟨16,jd op * 4,none⟩=some (.string (tx (jd op)))/\w.cell? ⟨16,jd op * 4+1,none⟩=some (.int .i64 (lv (jd op))) /\
  w.cell? ⟨16,jd op * 4+2,none⟩=some (.int .i64 (kk (zM op):Int))/\w.cell? ⟨16,jd op * 4+3,none⟩=some (.int .i64 (kk (Cv op):Int)):=by
 rcases hop with rfl | rfl | rfl | rfl | rfl | rfl | rfl
 ·exact ⟨g.ops 8 (by decide),g.ops 9 (by decide),g.ops 10 (by decide),g.ops 11 (by decide)⟩
 ·exact ⟨g.ops 12 (by decide),g.ops 13 (by decide),g.ops 14 (by decide),g.ops 15 (by decide)⟩
 ·exact ⟨g.ops 0 (by decide),g.ops 1 (by decide),g.ops 2 (by decide),g.ops 3 (by decide)⟩
 ·exact ⟨g.ops 4 (by decide),g.ops 5 (by decide),g.ops 6 (by decide),g.ops 7 (by decide)⟩
 ·exact ⟨g.ops 16 (by decide),g.ops 17 (by decide),g.ops 18 (by decide),g.ops 19 (by decide)⟩
 ·exact ⟨g.ops 20 (by decide),g.ops 21 (by decide),g.ops 22 (by decide),g.ops 23 (by decide)⟩
 ·exact ⟨g.ops 24 (by decide),g.ops 25 (by decide),g.ops 26 (by decide),g.ops 27 (by decide)⟩
theorem qk2:Px.K3 (zM op):=by unfold zM;split;exact ah (ah rfl);exact ak rfl
theorem qkr (op:Nat):jd op < 7:=by
 unfold jd
 repeat' split
 all_goals omega
