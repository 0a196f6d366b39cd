import Derived.Test.YtcogbbneodihkaaGreatDoorQ19
import Derived.Test.YtcogbbneodihkaaGreatDoorP08
import Derived.Test.YtcogbbneodihkaaGreatDoorP05
namespace Go.Proofs.YtcogbbneodihkaaGreatDoor
open Go.RowKit
namespace Lg

def opW (w : World) (i : Nat) : World := w.alloc (.cells #[.string (tx i), .int .i64 (lv i), .int .i64 (tkk i), .int .i64 (mkk i)] 206)

theorem tx_op {op : Nat} (h : Op7 op) : tx (opIx op) = ⟨#[UInt8.ofNat op]⟩ := by
  rcases h with rfl | rfl | rfl | rfl | rfl | rfl | rfl <;> rfl

set_option maxRecDepth 100000 in
set_option maxHeartbeats 4000000 in
theorem pair_write (b q op tl ql tr qr : Nat) (own : Value) (l r : Px.Ex) (hop : Op7 op) (hpl : PartOk b l) (hpr : PartOk b r) (o : List UInt8) (w : World) (hq : q < b) (hc : w.heap[q]? = some (.cells #[.int .i64 (opIx op : Int), .iface tl (Ref.ptr ql), .iface tr (Ref.ptr qr), own] 200)) (hx : XAt w l (· < b) (.iface tl (Ref.ptr ql))) (hy : XAt w r (· < b) (.iface tr (Ref.ptr qr))) (h : WrAt w b o) (g : Gp w b) (hg : Px.GdE l ∧ Px.GdE r) (hl : o.length + (Px.szE l + Px.szE r + 12) ≤ 1000000000) :
    Calls Tryz.prog 187 #[.pointer (some ⟨q, 0, none⟩), .pointer (some ⟨b, 0, none⟩)] w (WPost b w (Px.brk (decide (Px.lvl r.op < Px.lvl op + 1)) (Px.wrE r) (Px.sgn (Px.brk (decide (Px.lvl l.op < Px.lft op)) (Px.wrE l) o) [UInt8.ofNat op]))) := by
  obtain ⟨o0, o1, o2, o3⟩ := ops_cells2 g.ops hop
  have hix := opIx_lt op
  have hb := h.lt
  have hlv := lv_eq hop
  have htx := tx_op hop
  have hps := lvl_pos op
  obtain ⟨L, hL⟩ : ∃ L, Px.lvl op = L + 1 := ⟨Px.lvl op - 1, by omega⟩
  rw [hL, Nat.add_sub_cancel] at hlv
  have hL3 : L ≤ 3 := by omega
  have hlf : Px.lft op = (if L = 0 then 1 else L) + 1 := by
    unfold Px.lft
    rw [hL]
    by_cases h0 : L = 0
    · rw [if_pos (by omega), if_pos h0]
    · rw [if_neg (by omega), if_neg h0]
  have s1 := Px.brk_len (b := decide (Px.lvl l.op < Px.lft op)) (Px.wrE_len l) o
  have s2 := Px.sgn_len (Px.brk (decide (Px.lvl l.op < Px.lft op)) (Px.wrE l) o) [UInt8.ofNat op]
  simp only [List.length_cons, List.length_nil] at s2
  rw [hL]
  have F0 : Hid (FrW b w (opW w (opIx op))) := (FrW.refl b w).alloc hb _
  have C1 : Hid (Calls Tryz.prog 188 #[.pointer (some ⟨b, 0, none⟩), .iface tl (.pointer (some ⟨ql, 0, none⟩)), .int .i64 ((if L = 0 then 1 else L : Nat) : Int)] (opW w (opIx op)) (WPost b (opW w (opIx op)) (Px.brk (decide (Px.lvl l.op < Px.lft op)) (Px.wrE l) o))) := by
    rw [hlf]
    exact hpl _ _ tl ql _ (hx.keep fun i hi => F0.out.low i hi) (h.alloc _) (g.fr F0.out) hg.1 (by omega)
  have C2 : Hid (∀ W, WrAt W b (Px.brk (decide (Px.lvl l.op < Px.lft op)) (Px.wrE l) o) → Calls Tryz.prog 166 #[.pointer (some ⟨b, 0, none⟩), .slice (some ⟨W.heap.size, 0, none⟩) 1 1] (W.alloc (.cells #[.string (tx (opIx op))] 9)) (WPost b W (Px.sgn (Px.brk (decide (Px.lvl l.op < Px.lft op)) (Px.wrE l) o) [UInt8.ofNat op]))) := fun W hW => by
    rw [htx]
    exact put1 b ⟨#[UInt8.ofNat op]⟩ _ W hW (by show 0 < 1; decide) (by show _ + 1 + 1 ≤ _; omega)
  obtain ⟨li, hli⟩ : ∃ li : Int, (L : Int) = li := ⟨_, rfl⟩
  have C3 : Hid (∀ W, FrW b w W → WrAt W b (Px.sgn (Px.brk (decide (Px.lvl l.op < Px.lft op)) (Px.wrE l) o) [UInt8.ofNat op]) → Calls Tryz.prog 188 #[.pointer (some ⟨b, 0, none⟩), .iface tr (.pointer (some ⟨qr, 0, none⟩)), .int .i64 (li + 1)] W (WPost b W (Px.brk (decide (Px.lvl r.op < L + 1 + 1)) (Px.wrE r) (Px.sgn (Px.brk (decide (Px.lvl l.op < Px.lft op)) (Px.wrE l) o) [UInt8.ofNat op])))) := fun W hF hW => by
    have := hpr W _ tr qr (L + 1) (hy.keep fun i hi => hF.low i hi) hW (g.fr hF) hg.2 (by omega)
    rw [show ((L + 1 : Nat) : Int) = li + 1 by omega] at this
    exact this
  have CQ : Hid (∀ W, FrW b w W → W.heap[q]? = some (.cells #[.int .i64 (opIx op : Int), .iface tl (.pointer (some ⟨ql, 0, none⟩)), .iface tr (.pointer (some ⟨qr, 0, none⟩)), own] 200)) := fun W hF => by rw [hF.low q hq]; exact hc
  rw [hli] at hlv
  have hW0 : opW w (opIx op) = (w.alloc (.cells #[.string (tx (opIx op)), .int .i64 li, .int .i64 (tkk (opIx op)), .int .i64 (mkk (opIx op))] 206)) := by unfold opW; rw [hlv]
  rw [hW0] at C1 F0
  have OB : Hid (∀ W, FrW b (w.alloc (.cells #[.string (tx (opIx op)), .int .i64 li, .int .i64 (tkk (opIx op)), .int .i64 (mkk (opIx op))] 206)) W → W.heap[w.heap.size]? = some (.cells #[.string (tx (opIx op)), .int .i64 li, .int .i64 (tkk (opIx op)), .int .i64 (mkk (opIx op))] 206)) := fun W hF => hF.block w.heap.size _ (by omega) new1 rfl
  obtain ⟨c0, c1, c2, c3, fr⟩ := cells4 (CQ.out w (FrW.refl _ _))
  rw [hlv] at o1
  obtain ⟨e0, e1, e2, e3, fe⟩ := cells4 (CQ.out _ F0.out)
  obtain ⟨p0, p1, p2, p3, fp⟩ := cells4 (OB.out _ (FrW.refl _ _))
  have l0 : 0 ≤ li := by omega
  have l3 : li ≤ 3 := by omega
  clear hpl hpr hc hx hy h g hg hl s1 s2 hlv htx hps hlf hW0 hL hL3 hop
  generalize opIx op = i at *
  have E1 : Hid (∀ lf : Int, lf = (if li = 0 then 1 else li) → Calls Tryz.prog 188 #[.pointer (some ⟨b, 0, none⟩), .iface tl (.pointer (some ⟨ql, 0, none⟩)), .int .i64 lf] (w.alloc (.cells #[.string (tx i), .int .i64 li, .int .i64 (tkk i), .int .i64 (mkk i)] 206)) (WPost b (w.alloc (.cells #[.string (tx i), .int .i64 li, .int .i64 (tkk i), .int .i64 (mkk i)] 206)) (Px.brk (decide (Px.lvl l.op < Px.lft op)) (Px.wrE l) o))) := fun lf hlf => by
    have := C1.out
    rw [show ((if L = 0 then 1 else L : Nat) : Int) = lf by rw [hlf]; split <;> split <;> omega] at this
    exact this
  have hcs : li = 0 ∨ li = 1 ∨ li = 2 ∨ li = 3 := by omega
  clear C1 l0 l3 hli
  rcases hcs with rfl | rfl | rfl | rfl
  all_goals
   go_enter Tryz.func187, Tryz.ntmps187
   go_wp2_with fail
   refine (E1.out _ rfl).mono ?_
   rintro e w1 ⟨rfl, h1, f1⟩
   obtain ⟨d0, d1, d2, d3, fd⟩ := cells4 (CQ.out w1 (F0.out.trans f1))
   obtain ⟨j0, j1, j2, j3, fj⟩ := cells4 (OB.out w1 f1)
   have L1 : Hid (_ ∧ _) := ⟨h1, f1⟩
   clear h1 f1 c0 c1 c2 c3 fr e0 e1 e2 e3 fe p0 p1 p2 p3 fp o0 o1 o2 o3
   go_wp2_with fail
   refine (C2.out _ L1.out.1).mono ?_
   rintro e w2 ⟨rfl, h2, f2⟩
   obtain ⟨k0, k1, k2, k3, fk⟩ := cells4 (CQ.out w2 ((F0.out.trans L1.out.2).trans f2))
   obtain ⟨n0, n1, n2, n3, fn⟩ := cells4 (OB.out w2 (L1.out.2.trans f2))
   have L2 : Hid (_ ∧ _) := ⟨h2, f2⟩
   clear h2 f2 d0 d1 d2 d3 fd j0 j1 j2 j3 fj
   go_wp2_with fail
   go_region_with (go_at_call 188; refine (C3.out _ ((F0.out.trans L1.out.2).trans L2.out.2).drew L2.out.1.drew).mono ?_; rintro e w3 ⟨rfl, h3, f3⟩)
   all_goals
     go_wp2_with fail
     go_end0
     exact ⟨rfl, h3, (((F0.out.trans L1.out.2).trans L2.out.2).drew).trans f3⟩
end Lg
end Go.Proofs.YtcogbbneodihkaaGreatDoor

namespace Go.Proofs.YtcogbbneodihkaaGreatDoor
open Go.RowKit
namespace Lg

/-- Every expr that the language makes. -/
theorem wr_ok (b : Nat) (x : Px.Ex) (hw : Px.WfE x) : WrOk b x := by
  match x, hw with
  | ⟨op, n, word, pl, own, none, none⟩, _ =>
    intro w o tl ql hx h g hg hl
    obtain ⟨q, hq, ⟨h2, h3, h4⟩ | ⟨h2, h3, h4⟩ | ⟨h2, h3, h4⟩⟩ := hx
    · cases h3; subst h2
      have hk : Px.wrE ⟨110, n, word, pl, own, none, none⟩ o = Px.sgn o (Px.dec n) := by rw [Px.wrE]; rfl
      rw [hk]
      exact Or.inl ⟨rfl, number_write b _ n _ o w hq h4 h g hg.2 (by rw [Px.szE] at hl; omega)⟩
    · cases h3; subst h2
      have hk : Px.wrE ⟨119, n, word, pl, own, none, none⟩ o = Px.sgn o word.data.toList := by rw [Px.wrE]; rfl
      rw [hk]
      exact Or.inr (Or.inl ⟨rfl, variable_write b _ word _ o w h4 h (hg.1 rfl) (by rw [Px.szE] at hl; omega)⟩)
    · cases h3; subst h2
      have hk : Px.wrE ⟨116, n, word, pl, own, none, none⟩ o = Px.sgn o (if decide (n = 1) then [116, 114, 117, 101] else [102, 97, 108, 115, 101]) := by rw [Px.wrE]; simp
      rw [hk]
      exact Or.inr (Or.inr (Or.inl ⟨rfl, truth_write b _ _ o w h4 h (by rw [Px.szE] at hl; omega)⟩))
  | ⟨op, n, word, pl, own, some l, none⟩, hw =>
    intro w o tl ql hx h g hg hl
    obtain ⟨_, q, tl', ql', hq, h2, h3, h4⟩ := hx
    cases h2
    rw [Px.wrE]
    exact Or.inr (Or.inr (Or.inr (Or.inl ⟨rfl, not_write b _ tl' ql' _ l (part_ok b l hw.2 (wr_ok b l hw.2)) o w hq h3 h4 h g hg (by rw [Px.szE] at hl; omega)⟩)))
  | ⟨op, n, word, pl, own, some l, some r⟩, hw =>
    intro w o tl ql hx h g hg hl
    obtain ⟨q, tl', ql', tr, qr, hq, h2, h3, h4, h5⟩ := hx
    cases h2
    rw [Px.wrE]
    exact Or.inr (Or.inr (Or.inr (Or.inr ⟨rfl, pair_write b _ op tl' ql' tr qr _ l r hw.1 (part_ok b l hw.2.1 (wr_ok b l hw.2.1)) (part_ok b r hw.2.2 (wr_ok b r hw.2.2)) o w hq h3 h4 h5 h g hg (by rw [Px.szE] at hl; omega)⟩)))
  | ⟨_, _, _, _, _, none, some _⟩, hw => exact hw.elim

/-- A call of write, whichever the statement is. -/
def WriteS (w : World) (b tl ql : Nat) (Q : Ending → World → Prop) : Prop :=
  (tl = 145 ∧ Calls Tryz.prog 164 #[.pointer (some ⟨ql, 0, none⟩), .pointer (some ⟨b, 0, none⟩)] w Q) ∨
  (tl = 147 ∧ Calls Tryz.prog 171 #[.pointer (some ⟨ql, 0, none⟩), .pointer (some ⟨b, 0, none⟩)] w Q) ∨
  (tl = 149 ∧ Calls Tryz.prog 176 #[.pointer (some ⟨ql, 0, none⟩), .pointer (some ⟨b, 0, none⟩)] w Q) ∨
  (tl = 151 ∧ Calls Tryz.prog 178 #[.pointer (some ⟨ql, 0, none⟩), .pointer (some ⟨b, 0, none⟩)] w Q) ∨
  (tl = 153 ∧ Calls Tryz.prog 180 #[.pointer (some ⟨ql, 0, none⟩), .pointer (some ⟨b, 0, none⟩)] w Q) ∨
  (tl = 158 ∧ Calls Tryz.prog 183 #[.pointer (some ⟨ql, 0, none⟩), .pointer (some ⟨b, 0, none⟩)] w Q)

def WsOk (b : Nat) (x : Px.Sm) : Prop := ∀ (w : World) (o : List UInt8) (tl ql : Nat), SAt w x (· < b) (.iface tl (Ref.ptr ql)) → WrAt w b o → Gp w b → Px.GdX x → o.length + Px.szX x ≤ 1000000000 → WriteS w b tl ql (WPost b w (Px.wrX x o))
def StmtsOk (b : Nat) (l : List Px.Sm) : Prop := ∀ (w : World) (o : List UInt8) (v : Value) (vs : List Value), SlL w v vs (· < b) → LsAt w l (· < b) vs → WrAt w b o → Gp w b → Px.GdS l → o.length + Px.szS l ≤ 1000000000 →
  Calls Tryz.prog 21 #[.pointer (some ⟨b, 0, none⟩), v] w (WPost b w (Px.wrS l o))
def WBlockOk (b : Nat) (l : List Px.Sm) : Prop := ∀ (w : World) (o : List UInt8) (v : Value) (vs : List Value), SlL w v vs (· < b) → LsAt w l (· < b) vs → WrAt w b o → Gp w b → Px.GdS l → o.length + Px.szS l + 8 ≤ 1000000000 →
  Calls Tryz.prog 148 #[.pointer (some ⟨b, 0, none⟩), v] w (WPost b w (Px.wrB l o))

theorem yLet (a : Addr) (w : World) : (method 388 145 (.pointer (some a)) "errand/lang.write").run Tryz.prog w = .ok (164, .pointer (some a)) w := by kernel_rfl
theorem yCall (a : Addr) (w : World) : (method 388 147 (.pointer (some a)) "errand/lang.write").run Tryz.prog w = .ok (171, .pointer (some a)) w := by kernel_rfl
theorem yIf (a : Addr) (w : World) : (method 388 149 (.pointer (some a)) "errand/lang.write").run Tryz.prog w = .ok (176, .pointer (some a)) w := by kernel_rfl
theorem yTry (a : Addr) (w : World) : (method 388 151 (.pointer (some a)) "errand/lang.write").run Tryz.prog w = .ok (178, .pointer (some a)) w := by kernel_rfl
theorem yRepeat (a : Addr) (w : World) : (method 388 153 (.pointer (some a)) "errand/lang.write").run Tryz.prog w = .ok (180, .pointer (some a)) w := by kernel_rfl
theorem yFail (a : Addr) (w : World) : (method 388 158 (.pointer (some a)) "errand/lang.write").run Tryz.prog w = .ok (183, .pointer (some a)) w := by kernel_rfl

set_option maxRecDepth 100000 in
set_option maxHeartbeats 4000000 in
theorem wstmts_any (b : Nat) (l : List Px.Sm) (hx : ∀ i (hi : i < l.length), WsOk b l[i]) : StmtsOk b l := by
  intro w o v vs hs hm h g hgd hl
  obtain ⟨va, vc, rfl, hml⟩ := hs.len
  unfold maxLen at hml
  have hlen := hm.len
  have H : Hid (SlL w (.slice va vs.length vc) vs (· < b) ∧ LsAt w l (· < b) vs ∧ WrAt w b o ∧ Gp w b) := ⟨hs, hm, h, g⟩
  have HX : Hid (∀ i (hi : i < l.length), WsOk b l[i]) := hx
  have HLen : Hid (vs.length = l.length) := hlen
  have HG : Hid (Px.GdS l) := hgd
  have HZ : Hid (o.length + Px.szS l ≤ 1000000000) := hl
  have m1 := yLet
  have m2 := yCall
  have m3 := yIf
  have m4 := yTry
  have m5 := yRepeat
  have m6 := yFail
  clear hs hm h hx hlen g hgd hl
  go_enter Tryz.func21, Tryz.ntmps21
  go_wp2_with fail
  go_loopw [8] (fun i wr => ∃ n : Nat, n ≤ vs.length ∧ i = .int .i64 n ∧ Hid (FrW b w wr ∧ Px.GdS (l.drop n) ∧ ∃ o', WrAt wr b o' ∧ o'.length + Px.szS (l.drop n) ≤ 1000000000 ∧ Px.wrS (l.drop n) o' = Px.wrS l o)) (fun i _ => vs.length - (intOf i).toNat)
  case atStart => exact ⟨0, by omega, rfl, FrW.refl _ _, HG.out, o, H.out.2.2.1, HZ.out, rfl⟩
  case round =>
    obtain ⟨n, hn, rfl, hr⟩ := hrel
    obtain ⟨hf, hgd, o', ho', hz', he⟩ := hr.out
    clear hr
    by_cases hlt : n < vs.length
    · have hnl : n < l.length := by have := HLen.out; omega
      have hsat := (H.out.2.1.get n hnl hlt).keep fun i hi => hf.low i hi
      obtain ⟨t, q, hform⟩ := hsat.form
      obtain ⟨g, cap, hgv, hg, hcell⟩ := H.out.1.cell hlt
      cases hgv
      have hcr : wr.cell? ⟨g, n, none⟩ = some (.iface t (.pointer (some ⟨q, 0, none⟩))) := by rw [World.cell?_of_block (w := w) (hf.low g hg), hcell, hform]; rfl
      have hdrop : l.drop n = l[n] :: l.drop (n + 1) := List.drop_eq_getElem_cons hnl
      rw [hdrop, Px.wrS_cons] at he
      rw [hdrop, Px.szS_cons] at hz'
      rw [hdrop] at hgd
      rw [hform] at hsat
      have hg2 := Px.GdS_cons.1 hgd
      have hz2 := Px.wrX_len (x := l[n]) (Px.wrS_len _) (Px.wrS_len _) o'
      have HH : Hid (FrW b w wr ∧ Px.wrS (l.drop (n + 1)) (Px.wrX l[n] o') = Px.wrS l o ∧ Px.GdS (l.drop (n + 1)) ∧ (Px.wrX l[n] o').length + Px.szS (l.drop (n + 1)) ≤ 1000000000) := ⟨hf, he, hg2.2, by omega⟩
      have hC := HX.out n hnl wr o' t q hsat ho' (H.out.2.2.2.fr hf) hg2.1 (by omega)
      clear hf he hsat hcell hform hdrop ho' hz' hgd hg2 hz2
      rcases hC with ⟨rfl, hC⟩ | ⟨rfl, hC⟩ | ⟨rfl, hC⟩ | ⟨rfl, hC⟩ | ⟨rfl, hC⟩ | ⟨rfl, hC⟩
      all_goals
        go_wp2_with fail
        refine hC.mono ?_
        rintro e w1 ⟨rfl, k1, f1⟩
        have L1 : Hid (_ ∧ _) := ⟨k1, f1⟩
        clear k1 f1
        go_wp2_with fail
        exact ⟨⟨n + 1, by omega, by go_num, HH.out.1.trans L1.out.2, HH.out.2.2.1, _, L1.out.1, HH.out.2.2.2, HH.out.2.1⟩, by simp [intOf]; omega⟩
    · have hnl : l.drop n = [] := List.drop_of_length_le (by have := HLen.out; omega)
      rw [hnl, Px.wrS_nil] at he
      have HH : Hid (FrW b w wr ∧ WrAt wr b (Px.wrS l o)) := ⟨hf, by rw [← he]; exact ho'⟩
      clear hf ho' he hnl hz' hgd
      go_wp2_with fail
      go_end0
      exact ⟨rfl, HH.out.2, HH.out.1⟩

set_option maxRecDepth 100000 in
theorem wblock_any (b : Nat) (l : List Px.Sm) (hx : StmtsOk b l) : WBlockOk b l := by
  intro w o v vs hs hm h g hgd hl
  have s1 := Px.sgn_len o [123]
  have s2 := Px.wrS_len l (Px.sgn o [123])
  simp only [List.length_cons, List.length_nil] at s1
  have C1 : Hid (Calls Tryz.prog 166 #[.pointer (some ⟨b, 0, none⟩), .slice (some ⟨w.heap.size, 0, none⟩) 1 1] (w.alloc (.cells #[.string ⟨#[123]⟩] 9)) (WPost b w (Px.sgn o [123]))) := put1 b ⟨#[123]⟩ o w h (by decide) (by show o.length + 1 + 1 ≤ _; omega)
  have C2 : Hid (∀ W, FrW b w W → WrAt W b (Px.sgn o [123]) → Calls Tryz.prog 21 #[.pointer (some ⟨b, 0, none⟩), v] W (WPost b W (Px.wrS l (Px.sgn o [123])))) := fun W hF hW => hx W _ v vs (hs.keep fun i hi => hF.low i hi) (hm.keep fun i hi => hF.low i hi) hW (g.fr hF) hgd (by omega)
  have C3 : Hid (∀ W, WrAt W b (Px.wrS l (Px.sgn o [123])) → Calls Tryz.prog 166 #[.pointer (some ⟨b, 0, none⟩), .slice (some ⟨W.heap.size, 0, none⟩) 1 1] (W.alloc (.cells #[.string ⟨#[125]⟩] 9)) (WPost b W (Px.wrB l o))) := fun W hW => put1 b ⟨#[125]⟩ _ W hW (by decide) (by show _ + 1 + 1 ≤ _; omega)
  clear hs hm h g hgd hl s1 s2 hx
  go_enter Tryz.func148, Tryz.ntmps148
  go_wp2_with fail
  refine C1.out.mono ?_
  rintro e w1 ⟨rfl, h1, f1⟩
  have L1 : Hid (_ ∧ _) := ⟨h1, f1⟩
  clear h1 f1
  go_wp2_with fail
  refine (C2.out _ L1.out.2 L1.out.1).mono ?_
  rintro e w2 ⟨rfl, h2, f2⟩
  have L2 : Hid (_ ∧ _) := ⟨h2, f2⟩
  clear h2 f2
  go_wp2_with fail
  refine (C3.out _ L2.out.1).mono ?_
  rintro e w3 ⟨rfl, h3, f3⟩
  go_wp2_with fail
  go_end0
  exact ⟨rfl, h3, (L1.out.2.trans L2.out.2).trans f3⟩

end Lg
end Go.Proofs.YtcogbbneodihkaaGreatDoor

namespace Go.Proofs.YtcogbbneodihkaaGreatDoor
open Go.RowKit
namespace Lg

/-- Two signs. -/
theorem put2 (b : Nat) (t u : ByteArray) (o : List UInt8) (w : World) (h : WrAt w b o) (ht : 0 < t.size) (hu : 0 < u.size) (hl : o.length + t.size + u.size + 2 ≤ 1000000000) :
    Calls Tryz.prog 166 #[.pointer (some ⟨b, 0, none⟩), .slice (some ⟨w.heap.size, 0, none⟩) 2 2] (w.alloc (.cells #[.string t, .string u] 9)) (WPost b w (Px.sgn (Px.sgn o t.data.toList) u.data.toList)) := by
  have hb := h.lt
  refine (put_any b w.heap.size [t, u] o (w.alloc (.cells #[.string t, .string u] 9)) (h.alloc _) (by omega) new1 (by intro x hx; simp at hx; rcases hx with rfl | rfl <;> assumption) (by simp) (by simp; omega)).mono ?_
  rintro e w' ⟨h1, h2, h3⟩
  exact ⟨h1, h2, ((FrW.refl b w).alloc hb _).trans h3⟩
/-- Three signs. -/
theorem put3 (b : Nat) (t u v : ByteArray) (o : List UInt8) (w : World) (h : WrAt w b o) (ht : 0 < t.size) (hu : 0 < u.size) (hv : 0 < v.size) (hl : o.length + t.size + u.size + v.size + 3 ≤ 1000000000) :
    Calls Tryz.prog 166 #[.pointer (some ⟨b, 0, none⟩), .slice (some ⟨w.heap.size, 0, none⟩) 3 3] (w.alloc (.cells #[.string t, .string u, .string v] 9)) (WPost b w (Px.sgn (Px.sgn (Px.sgn o t.data.toList) u.data.toList) v.data.toList)) := by
  have hb := h.lt
  refine (put_any b w.heap.size [t, u, v] o (w.alloc (.cells #[.string t, .string u, .string v] 9)) (h.alloc _) (by omega) new1 (by intro x hx; simp at hx; rcases hx with rfl | rfl | rfl <;> assumption) (by simp) (by simp; omega)).mono ?_
  rintro e w' ⟨h1, h2, h3⟩
  exact ⟨h1, h2, ((FrW.refl b w).alloc hb _).trans h3⟩

set_option maxRecDepth 100000 in
theorem fail_write (b q : Nat) (o : List UInt8) (w : World) (h : WrAt w b o) (hl : o.length + 20 ≤ 1000000000) :
    Calls Tryz.prog 183 #[.pointer (some ⟨q, 0, none⟩), .pointer (some ⟨b, 0, none⟩)] w (WPost b w (Px.sgn (Px.sgn o [102, 97, 105, 108]) [59])) := by
  have C1 : Hid (Calls Tryz.prog 166 #[.pointer (some ⟨b, 0, none⟩), .slice (some ⟨w.heap.size, 0, none⟩) 2 2] (w.alloc (.cells #[.string ⟨#[102, 97, 105, 108]⟩, .string ⟨#[59]⟩] 9)) (WPost b w (Px.sgn (Px.sgn o [102, 97, 105, 108]) [59]))) := put2 b ⟨#[102, 97, 105, 108]⟩ ⟨#[59]⟩ o w h (by decide) (by decide) (by show o.length + 4 + 1 + 2 ≤ _; omega)
  clear h hl
  go_enter Tryz.func183, Tryz.ntmps183
  go_wp2_with fail
  refine C1.out.mono ?_
  rintro e w1 ⟨rfl, h1, f1⟩
  go_wp2_with fail
  go_end0
  exact ⟨rfl, h1, f1⟩

set_option maxRecDepth 100000 in
set_option maxHeartbeats 1000000 in
theorem let_write (b q qv tl ql a : Nat) (x : ByteArray) (e : Px.Ex) (he : Px.WfE e) (o : List UInt8) (w : World) (hq : q < b) (hc : w.heap[q]? = some (.cells #[Ref.ptr qv, .iface tl (Ref.ptr ql)] 177)) (hv : VarAt w x a (· < b) qv) (hx : XAt w e (· < b) (.iface tl (Ref.ptr ql))) (h : WrAt w b o) (g : Gp w b) (hg : Px.GdE e) (hn : 0 < x.size) (hl : o.length + x.size + Px.szE e + 50 ≤ 1000000000) :
    Calls Tryz.prog 164 #[.pointer (some ⟨q, 0, none⟩), .pointer (some ⟨b, 0, none⟩)] w (WPost b w (Px.sgn (Px.wrE e (Px.sgn (Px.sgn (Px.sgn o [108, 101, 116]) x.data.toList) [61])) [59])) := by
  have m1 := xNum
  have m2 := xVar
  have m3 := xTru
  have m4 := xNot
  have m5 := xPair
  have s1 := Px.sgn_len o [108, 101, 116]
  have s2 := Px.sgn_len (Px.sgn o [108, 101, 116]) x.data.toList
  have s3 := Px.sgn_len (Px.sgn (Px.sgn o [108, 101, 116]) x.data.toList) [61]
  have s4 := Px.wrE_len e (Px.sgn (Px.sgn (Px.sgn o [108, 101, 116]) x.data.toList) [61])
  have hxs : x.data.toList.length = x.size := rfl
  simp only [List.length_cons, List.length_nil] at s1 s3
  unfold Ref.ptr at hc
  obtain ⟨c0, c1, cf⟩ := cells2 hc
  obtain ⟨v0, v1, vf⟩ := cells2 hv.2
  have C1 : Hid (Calls Tryz.prog 166 #[.pointer (some ⟨b, 0, none⟩), .slice (some ⟨w.heap.size, 0, none⟩) 3 3] (w.alloc (.cells #[.string ⟨#[108, 101, 116]⟩, .string x, .string ⟨#[61]⟩] 9)) (WPost b w (Px.sgn (Px.sgn (Px.sgn o [108, 101, 116]) x.data.toList) [61]))) := put3 b ⟨#[108, 101, 116]⟩ x ⟨#[61]⟩ o w h (by decide) hn (by decide) (by show o.length + 3 + x.size + 1 + 3 ≤ _; omega)
  have CQ : Hid (∀ W, FrW b w W → W.heap[q]? = some (.cells #[.pointer (some ⟨qv, 0, none⟩), .iface tl (.pointer (some ⟨ql, 0, none⟩))] 177)) := fun W hF => by rw [hF.low q hq]; exact hc
  have C2 : Hid (∀ W, FrW b w W → WrAt W b (Px.sgn (Px.sgn (Px.sgn o [108, 101, 116]) x.data.toList) [61]) → WriteC W b tl ql (WPost b W (Px.wrE e (Px.sgn (Px.sgn (Px.sgn o [108, 101, 116]) x.data.toList) [61])))) := fun W hF hW => wr_ok b e he W _ tl ql (hx.keep fun i hi => hF.low i hi) hW (g.fr hF) hg (by omega)
  have C3 : Hid (∀ W, WrAt W b (Px.wrE e (Px.sgn (Px.sgn (Px.sgn o [108, 101, 116]) x.data.toList) [61])) → Calls Tryz.prog 166 #[.pointer (some ⟨b, 0, none⟩), .slice (some ⟨W.heap.size, 0, none⟩) 1 1] (W.alloc (.cells #[.string ⟨#[59]⟩] 9)) (WPost b W (Px.sgn (Px.wrE e (Px.sgn (Px.sgn (Px.sgn o [108, 101, 116]) x.data.toList) [61])) [59]))) := fun W hW => put1 b ⟨#[59]⟩ _ W hW (by decide) (by show _ + 1 + 1 ≤ _; omega)
  generalize Px.wrE e (Px.sgn (Px.sgn (Px.sgn o [108, 101, 116]) x.data.toList) [61]) = o2 at *
  generalize Px.sgn (Px.sgn (Px.sgn o [108, 101, 116]) x.data.toList) [61] = o1 at *
  clear hc hv hx h g hg hl s1 s2 s3 s4 hxs he
  go_enter Tryz.func164, Tryz.ntmps164
  go_wp2_with fail
  refine C1.out.mono ?_
  rintro e w1 ⟨rfl, h1, f1⟩
  have hC := C2.out w1 f1 h1
  obtain ⟨d0, d1, df⟩ := cells2 (CQ.out w1 f1)
  have L1 : Hid (_ ∧ _) := ⟨h1, f1⟩
  clear h1 f1 c0 c1 cf v0 v1 vf
  rcases hC with ⟨rfl, hC⟩ | ⟨rfl, hC⟩ | ⟨rfl, hC⟩ | ⟨rfl, hC⟩ | ⟨rfl, hC⟩
  all_goals
    go_wp2_with fail
    refine hC.mono ?_
    rintro e w2 ⟨rfl, h2, f2⟩
    have L2 : Hid (_ ∧ _) := ⟨h2, f2⟩
    clear h2 f2 hC
    go_wp2_with fail
    refine (C3.out _ L2.out.1).mono ?_
    rintro e w3 ⟨rfl, h3, f3⟩
    go_wp2_with fail
    go_end0
    exact ⟨rfl, h3, (L1.out.2.trans L2.out.2).trans f3⟩

end Lg
end Go.Proofs.YtcogbbneodihkaaGreatDoor

namespace Go.Proofs.YtcogbbneodihkaaGreatDoor
open Go.RowKit
namespace Lg

theorem un_some {x : ByteArray} (h : 0 < x.size) : (!x.toList.isEmpty) = true := by
  rw [ByteArray.toList_eq]
  obtain ⟨⟨l⟩⟩ := x
  cases l with
  | nil => exact absurd h (by decide)
  | cons a l => rfl
theorem un_none {x : ByteArray} (h : x.size = 0) : (!x.toList.isEmpty) = false := by
  rw [ByteArray.toList_eq]
  obtain ⟨⟨l⟩⟩ := x
  cases l with
  | nil => rfl
  | cons a l => cases h

/-- A call's argument, written or not there. -/
def ArgW (b : Nat) (w : World) (pa : Option Addr) (o1 o2 : List UInt8) : Prop :=
  (pa = none ∧ o2 = o1) ∨ ∃ qa tl ql, pa = some ⟨qa, 0, none⟩ ∧ Hid (∀ W, FrW b w W → W.cell? ⟨qa, 0, none⟩ = some (.iface tl (.pointer (some ⟨ql, 0, none⟩)))) ∧ Hid (∀ W, FrW b w W → WrAt W b o1 → WriteC W b tl ql (WPost b W o2))

end Lg
end Go.Proofs.YtcogbbneodihkaaGreatDoor
