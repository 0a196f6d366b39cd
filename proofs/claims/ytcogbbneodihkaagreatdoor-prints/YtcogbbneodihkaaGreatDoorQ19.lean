import Derived.Test.YtcogbbneodihkaaGreatDoorQ18
import Derived.Test.YtcogbbneodihkaaGreatDoorP09
namespace Go.Proofs.YtcogbbneodihkaaGreatDoor
open Go.RowKit
namespace Lg

/-- The program's variables that printing reads. -/
structure Gp (w : World) (b : Nat) : Prop where
  tab : Lib.TabIs Tryz.prog w "internal/strconv.uint64pow10" .u64 Lib.pow10Tab
  ops : ∀ j (hj : j < 28), w.cell? ⟨8, j, none⟩ = some (opsC[j]'hj)
  lo : 14 ≤ b

theorem gPow : Tryz.prog.globalNamed "internal/strconv.uint64pow10" = some 11 := by kernel_rfl

theorem Gp.fr {w w' : World} {b : Nat} (g : Gp w b) (h : FrW b w w') : Gp w' b := by
  have hl := g.lo
  refine ⟨?_, fun j hj => by rw [World.cell?_of_block (w := w) (h.low _ (by show 8 < b; omega))]; exact g.ops j hj, hl⟩
  have ht := g.tab
  unfold Lib.TabIs World.var? at ht ⊢
  rw [gPow] at ht ⊢
  simp only [Option.bind_some] at ht ⊢
  rw [h.low 11 (by omega)]
  exact ht

theorem WrAt.grow {w : World} {b : Nat} {o : List UInt8} (h : WrAt w b o) (k : Nat) (os : Array Obj) : WrAt (Sort.grow (w.drewN k) os) b o ∧ FrW b w (Sort.grow (w.drewN k) os) := by
  have hold : ∀ i, i < w.heap.size → (Sort.grow (w.drewN k) os).heap[i]? = w.heap[i]? := fun i hi => by
    show (w.heap ++ os)[i]? = _
    rw [Array.getElem?_append_left hi]
  have hs : w.heap.size ≤ (Sort.grow (w.drewN k) os).heap.size := by
    show _ ≤ (w.heap ++ os).size
    simp
  have hb := h.lt
  refine ⟨?_, rfl, rfl, rfl, hs, fun i hi => hold i (by omega), fun i x hne hx _ => by rw [hold i (lt_of_block hx)]; exact hx⟩
  obtain ⟨v, h1, h2⟩ := h
  refine ⟨v, by rw [hold b hb]; exact h1, h2.1, ?_⟩
  rcases h2.2 with h3 | ⟨g, cap, cur, h3, h4, h5, h6⟩
  · exact Or.inl h3
  · exact Or.inr ⟨g, cap, cur, h3, h4, by rw [hold g (lt_of_block h5)]; exact h5, h6⟩

theorem dec_eq (n : Nat) : Lib.decDigits n = Px.dec n := by
  induction n using Nat.strongRecOn with
  | ind n ih =>
    rw [Lib.decDigits, Px.dec_rec]
    split
    · rfl
    · rw [ih (n / 10) (by omega)]; rfl

theorem itoa_any (n : Nat) (hn : n ≤ 9999) (b : Nat) (o : List UInt8) (w : World) (h : WrAt w b o) (g : Gp w b) : Calls Tryz.prog 113 #[.int .i64 (n : Int)] w fun e w' => ∃ S : ByteArray, e = .returned (.string S) ∧ S.data.toList = Px.dec n ∧ WrAt w' b o ∧ FrW b w w' := by
  refine (itoa_laid (n : Int) (by omega) (by omega) w g.tab).mono ?_
  rintro e w' ⟨rfl, k, os, rfl⟩
  obtain ⟨h1, h2⟩ := h.grow k os
  refine ⟨_, rfl, ?_, h1, h2⟩
  rw [Lib.itoa, if_neg (by omega), Int.toNat_natCast, dec_eq]

theorem fbool_any (x : Bool) (w : World) : Calls Tryz.prog 195 #[.bool x] w fun e w' => e = .returned (.string (if x then ⟨#[116, 114, 117, 101]⟩ else ⟨#[102, 97, 108, 115, 101]⟩)) ∧ w' = w := by
  cases x
  all_goals
    go_enter Tryz.func195, Tryz.ntmps195
    go_wp2
    go_ret
    exact ⟨rfl, rfl⟩

/-- How an expr's type tells its level. -/
theorem lv_eq {op : Nat} (h : Op7 op) : lv (opIx op) = ((Px.lvl op - 1 : Nat) : Int) := by
  rcases h with rfl | rfl | rfl | rfl | rfl | rfl | rfl <;> decide

theorem lvl_pos (op : Nat) : 1 ≤ Px.lvl op ∧ Px.lvl op ≤ 4 := by
  unfold Px.lvl
  repeat' split
  all_goals omega

end Lg
end Go.Proofs.YtcogbbneodihkaaGreatDoor

namespace Go.Proofs.YtcogbbneodihkaaGreatDoor
open Go.RowKit
namespace Lg

theorem ops_cells2 {w : World} (hops : ∀ j (hj : j < 28), w.cell? ⟨8, j, none⟩ = some (opsC[j]'hj)) {op : Nat} (hop : Op7 op) :
    w.cell? ⟨8, opIx op * 4, none⟩ = some (.string (tx (opIx op))) ∧ w.cell? ⟨8, opIx op * 4 + 1, none⟩ = some (.int .i64 (lv (opIx op))) ∧
    w.cell? ⟨8, opIx op * 4 + 2, none⟩ = some (.int .i64 (tkk (opIx op))) ∧ w.cell? ⟨8, opIx op * 4 + 3, none⟩ = some (.int .i64 (mkk (opIx op))) := by
  rcases hop with rfl | rfl | rfl | rfl | rfl | rfl | rfl
  · exact ⟨hops 8 (by decide), hops 9 (by decide), hops 10 (by decide), hops 11 (by decide)⟩
  · exact ⟨hops 12 (by decide), hops 13 (by decide), hops 14 (by decide), hops 15 (by decide)⟩
  · exact ⟨hops 0 (by decide), hops 1 (by decide), hops 2 (by decide), hops 3 (by decide)⟩
  · exact ⟨hops 4 (by decide), hops 5 (by decide), hops 6 (by decide), hops 7 (by decide)⟩
  · exact ⟨hops 16 (by decide), hops 17 (by decide), hops 18 (by decide), hops 19 (by decide)⟩
  · exact ⟨hops 20 (by decide), hops 21 (by decide), hops 22 (by decide), hops 23 (by decide)⟩
  · exact ⟨hops 24 (by decide), hops 25 (by decide), hops 26 (by decide), hops 27 (by decide)⟩

theorem aNum (v : Value) (w : World) : (Instr.typeAssert (.iface 154 v) 174 198 true).run Tryz.prog w = .ok (.tuple #[.pointer none, .bool false]) w := by kernel_rfl
theorem aVar (v : Value) (w : World) : (Instr.typeAssert (.iface 171 v) 174 198 true).run Tryz.prog w = .ok (.tuple #[.pointer none, .bool false]) w := by kernel_rfl
theorem aTru (v : Value) (w : World) : (Instr.typeAssert (.iface 222 v) 174 198 true).run Tryz.prog w = .ok (.tuple #[.pointer none, .bool false]) w := by kernel_rfl
theorem aNot (v : Value) (w : World) : (Instr.typeAssert (.iface 225 v) 174 198 true).run Tryz.prog w = .ok (.tuple #[.pointer none, .bool false]) w := by kernel_rfl
theorem aPair (v : Value) (w : World) : (Instr.typeAssert (.iface 198 v) 174 198 true).run Tryz.prog w = .ok (.tuple #[v, .bool true]) w := by kernel_rfl

set_option maxRecDepth 100000 in
theorem levelOf_any (x : Px.Ex) (hw : Px.WfE x) (b : Nat) (w : World) (ok : Nat → Prop) (tl ql : Nat) (hx : XAt w x ok (.iface tl (Ref.ptr ql))) (g : Gp w b) :
    Calls Tryz.prog 189 #[.iface tl (.pointer (some ⟨ql, 0, none⟩))] w fun e w' => e = .returned (.int .i64 ((Px.lvl x.op - 1 : Nat) : Int)) ∧ w' = w := by
  have f1 := aNum
  have f2 := aVar
  have f3 := aTru
  have f4 := aNot
  have f5 := aPair
  match x, hw with
  | ⟨op, n, word, pl, own, none, none⟩, hw =>
    have hl : Px.lvl op - 1 = 3 := by
      have : Px.lvl op = 4 := by rcases hw with rfl | rfl | rfl <;> decide
      omega
    show Calls _ _ _ _ (fun e w' => e = .returned (.int .i64 ((Px.lvl op - 1 : Nat) : Int)) ∧ w' = w)
    rw [hl]
    obtain ⟨q, hq, ⟨h2, h3, h4⟩ | ⟨h2, h3, h4⟩ | ⟨h2, h3, h4⟩⟩ := hx
    all_goals
      cases h3
      clear h4 g hl hw
      go_enter Tryz.func189, Tryz.ntmps189
      go_wp2_with fail
      go_ret
      exact ⟨rfl, rfl⟩
  | ⟨op, n, word, pl, own, some l, none⟩, hw =>
    obtain ⟨hop, q, tl', ql', hq, h2, h3, h4⟩ := hx
    cases h2
    subst hop
    clear h3 h4 g hw
    go_enter Tryz.func189, Tryz.ntmps189
    go_wp2_with fail
    go_ret
    exact ⟨rfl, rfl⟩
  | ⟨op, n, word, pl, own, some l, some r⟩, hw =>
    obtain ⟨q, tl', ql', tr, qr, hq, h2, h3, h4, h5⟩ := hx
    cases h2
    obtain ⟨o0, o1, o2, o3⟩ := ops_cells2 g.ops hw.1
    obtain ⟨c0, c1, c2, c3, fr⟩ := cells4 h3
    have hix := opIx_lt op
    have HL : Hid (lv (opIx op) = ((Px.lvl op - 1 : Nat) : Int)) := lv_eq hw.1
    clear h3 h4 h5 g hw
    show Calls _ _ _ _ (fun e w' => e = .returned (.int .i64 ((Px.lvl op - 1 : Nat) : Int)) ∧ w' = w)
    rw [← HL.out]
    generalize opIx op = i at *
    go_enter Tryz.func189, Tryz.ntmps189
    go_wp2_with fail
    go_ret
    exact ⟨rfl, rfl⟩

/-- A call of write, whichever the expr is. -/
def WriteC (w : World) (b tl ql : Nat) (Q : Ending → World → Prop) : Prop :=
  (tl = 154 ∧ Calls Tryz.prog 174 #[.pointer (some ⟨ql, 0, none⟩), .pointer (some ⟨b, 0, none⟩)] w Q) ∨
  (tl = 171 ∧ Calls Tryz.prog 185 #[.pointer (some ⟨ql, 0, none⟩), .pointer (some ⟨b, 0, none⟩)] w Q) ∨
  (tl = 222 ∧ Calls Tryz.prog 194 #[.pointer (some ⟨ql, 0, none⟩), .pointer (some ⟨b, 0, none⟩)] w Q) ∨
  (tl = 225 ∧ Calls Tryz.prog 198 #[.pointer (some ⟨ql, 0, none⟩), .pointer (some ⟨b, 0, none⟩)] w Q) ∨
  (tl = 198 ∧ Calls Tryz.prog 187 #[.pointer (some ⟨ql, 0, none⟩), .pointer (some ⟨b, 0, none⟩)] w Q)

theorem xNum (a : Addr) (w : World) : (method 388 154 (.pointer (some a)) "errand/lang.write").run Tryz.prog w = .ok (174, .pointer (some a)) w := by kernel_rfl
theorem xVar (a : Addr) (w : World) : (method 388 171 (.pointer (some a)) "errand/lang.write").run Tryz.prog w = .ok (185, .pointer (some a)) w := by kernel_rfl
theorem xTru (a : Addr) (w : World) : (method 388 222 (.pointer (some a)) "errand/lang.write").run Tryz.prog w = .ok (194, .pointer (some a)) w := by kernel_rfl
theorem xNot (a : Addr) (w : World) : (method 388 225 (.pointer (some a)) "errand/lang.write").run Tryz.prog w = .ok (198, .pointer (some a)) w := by kernel_rfl
theorem xPair (a : Addr) (w : World) : (method 388 198 (.pointer (some a)) "errand/lang.write").run Tryz.prog w = .ok (187, .pointer (some a)) w := by kernel_rfl

def WrOk (b : Nat) (x : Px.Ex) : Prop := ∀ (w : World) (o : List UInt8) (tl ql : Nat), XAt w x (· < b) (.iface tl (Ref.ptr ql)) → WrAt w b o → Gp w b → Px.GdE x → o.length + Px.szE x ≤ 1000000000 → WriteC w b tl ql (WPost b w (Px.wrE x o))
def PartOk (b : Nat) (x : Px.Ex) : Prop := ∀ (w : World) (o : List UInt8) (tl ql m : Nat), XAt w x (· < b) (.iface tl (Ref.ptr ql)) → WrAt w b o → Gp w b → Px.GdE x → o.length + Px.szE x + 4 ≤ 1000000000 →
  Calls Tryz.prog 188 #[.pointer (some ⟨b, 0, none⟩), .iface tl (.pointer (some ⟨ql, 0, none⟩)), .int .i64 (m : Int)] w (WPost b w (Px.brk (decide (Px.lvl x.op < m + 1)) (Px.wrE x) o))

/-- One sign. -/
theorem put1 (b : Nat) (t : ByteArray) (o : List UInt8) (w : World) (h : WrAt w b o) (ht : 0 < t.size) (hl : o.length + t.size + 1 ≤ 1000000000) :
    Calls Tryz.prog 166 #[.pointer (some ⟨b, 0, none⟩), .slice (some ⟨w.heap.size, 0, none⟩) 1 1] (w.alloc (.cells #[.string t] 9)) (WPost b w (Px.sgn o t.data.toList)) := by
  have hb := h.lt
  refine (put_any b w.heap.size [t] o (w.alloc (.cells #[.string t] 9)) (h.alloc _) (by omega) new1 (by intro x hx; simp at hx; subst hx; exact ht) (by simp) (by simp; omega)).mono ?_
  rintro e w' ⟨h1, h2, h3⟩
  exact ⟨h1, h2, ((FrW.refl b w).alloc hb _).trans h3⟩

set_option maxRecDepth 100000 in
set_option maxHeartbeats 4000000 in
theorem part_ok (b : Nat) (x : Px.Ex) (hw : Px.WfE x) (hx : WrOk b x) : PartOk b x := by
  intro w o tl ql m hX hW hG hg hl
  have HL : Hid (Calls Tryz.prog 189 #[.iface tl (.pointer (some ⟨ql, 0, none⟩))] w fun e w' => e = .returned (.int .i64 ((Px.lvl x.op - 1 : Nat) : Int)) ∧ w' = w) := levelOf_any x hw b w _ tl ql hX hG
  have hp := lvl_pos x.op
  have m1 := xNum
  have m2 := xVar
  have m3 := xTru
  have m4 := xNot
  have m5 := xPair
  by_cases hlt : Px.lvl x.op < m + 1
  · have h1 := Px.sgn_len o [40]
    have h2 := Px.wrE_len x (Px.sgn o [40])
    simp only [List.length_cons, List.length_nil] at h1
    have E : Hid (Px.brk (decide (Px.lvl x.op < m + 1)) (Px.wrE x) o = Px.sgn (Px.wrE x (Px.sgn o [40])) [41]) := by unfold Hid Px.brk; rw [if_pos (by simpa using hlt)]
    have C1 : Hid (Calls Tryz.prog 166 #[.pointer (some ⟨b, 0, none⟩), .slice (some ⟨w.heap.size, 0, none⟩) 1 1] (w.alloc (.cells #[.string ⟨#[40]⟩] 9)) (WPost b w (Px.sgn o [40]))) := put1 b ⟨#[40]⟩ o w hW (by decide) (by show o.length + 1 + 1 ≤ _; omega)
    have C2 : Hid (∀ W, FrW b w W → WrAt W b (Px.sgn o [40]) → WriteC W b tl ql (WPost b W (Px.wrE x (Px.sgn o [40])))) := fun W hF hO => hx W _ tl ql (hX.keep fun i hi => hF.low i hi) hO (hG.fr hF) hg (by omega)
    have C3 : Hid (∀ W, WrAt W b (Px.wrE x (Px.sgn o [40])) → Calls Tryz.prog 166 #[.pointer (some ⟨b, 0, none⟩), .slice (some ⟨W.heap.size, 0, none⟩) 1 1] (W.alloc (.cells #[.string ⟨#[41]⟩] 9)) (WPost b W (Px.sgn (Px.wrE x (Px.sgn o [40])) [41]))) := fun W hO => put1 b ⟨#[41]⟩ _ W hO (by decide) (by show _ + 1 + 1 ≤ _; omega)
    rw [E.out]
    have t1 : ¬ ((m : Int) ≤ ((Px.lvl x.op - 1 : Nat) : Int)) := by omega
    clear hx hX hW hG hg hl h1 h2 hlt hp hw
    go_enter Tryz.func188, Tryz.ntmps188
    go_wp2_with fail
    refine HL.out.mono ?_
    rintro e w1 ⟨rfl, rfl⟩
    generalize Px.lvl x.op - 1 = lx at *
    go_wp2_with fail
    refine C1.out.mono ?_
    rintro e w2 ⟨rfl, o2, b2⟩
    have hC := C2.out w2 b2 o2
    have L2 : Hid (FrW b w1 w2) := b2
    clear o2 b2
    rcases hC with ⟨rfl, hC⟩ | ⟨rfl, hC⟩ | ⟨rfl, hC⟩ | ⟨rfl, hC⟩ | ⟨rfl, hC⟩
    all_goals
      go_wp2_with fail
      refine hC.mono ?_
      rintro e w3 ⟨rfl, o3, b3⟩
      have L3 : Hid (_ ∧ _) := ⟨o3, b3⟩
      clear o3 b3 hC
      go_wp2_with fail
      refine (C3.out _ L3.out.1).mono ?_
      rintro e w4 ⟨rfl, o4, b4⟩
      have L4 : Hid (_ ∧ _) := ⟨o4, b4⟩
      clear o4 b4
      go_wp2_with fail
      go_end0
      exact ⟨rfl, L4.out.1, (L2.out.trans L3.out.2).trans L4.out.2⟩
  · have E : Px.brk (decide (Px.lvl x.op < m + 1)) (Px.wrE x) o = Px.wrE x o := by unfold Px.brk; rw [if_neg (by simpa using hlt)]
    rw [E]
    have hC := hx w o tl ql hX hW hG hg (by omega)
    have t1 : (m : Int) ≤ ((Px.lvl x.op - 1 : Nat) : Int) := by omega
    clear hx hX hW hG hg hl hlt hp hw E
    rcases hC with ⟨rfl, hC⟩ | ⟨rfl, hC⟩ | ⟨rfl, hC⟩ | ⟨rfl, hC⟩ | ⟨rfl, hC⟩
    all_goals
      go_enter Tryz.func188, Tryz.ntmps188
      go_wp2_with fail
      refine HL.out.mono ?_
      rintro e w1 ⟨rfl, rfl⟩
      generalize Px.lvl x.op - 1 = lx at *
      go_wp2_with fail
      refine hC.mono ?_
      rintro e w3 ⟨rfl, o3, b3⟩
      go_wp2_with fail
      refine bodyPost_ret (results_none rfl _ _ _) rfl ?_
      exact ⟨rfl, o3, b3⟩

end Lg
end Go.Proofs.YtcogbbneodihkaaGreatDoor

namespace Go.Proofs.YtcogbbneodihkaaGreatDoor
open Go.RowKit
namespace Lg

theorem cell1' {w : World} {k : Nat} {a : Value} {t : TypeId} (hh : w.heap[k]? = some (.cells #[a] t)) : w.cell? ⟨k, 0, none⟩ = some a ∧ ∀ o, w.frozen? ⟨k, o, none⟩ = false := by
  refine ⟨?_, ?_⟩ <;> simp [World.cell?, World.frozen?, hh]

theorem decPos (n : Nat) : 0 < (Px.dec n).length := by rw [Px.dec_rec]; split <;> simp

set_option maxRecDepth 100000 in
theorem number_write (b q n : Nat) (own : Value) (o : List UInt8) (w : World) (_hq : q < b) (hc : w.heap[q]? = some (.cells #[.int .i64 (n : Int), own] 180)) (h : WrAt w b o) (g : Gp w b) (hn : n ≤ 9999) (hl : o.length + n + 12 ≤ 1000000000) :
    Calls Tryz.prog 174 #[.pointer (some ⟨q, 0, none⟩), .pointer (some ⟨b, 0, none⟩)] w (WPost b w (Px.sgn o (Px.dec n))) := by
  have c0 : w.cell? ⟨q, 0, none⟩ = some (.int .i64 (n : Int)) := by simp [World.cell?, hc]
  have C1 : Hid (Calls Tryz.prog 113 #[.int .i64 (n : Int)] w fun e w' => ∃ S : ByteArray, e = .returned (.string S) ∧ S.data.toList = Px.dec n ∧ WrAt w' b o ∧ FrW b w w') := itoa_any n hn b o w h g
  have C2 : Hid (∀ W (S : ByteArray), S.data.toList = Px.dec n → WrAt W b o → Calls Tryz.prog 166 #[.pointer (some ⟨b, 0, none⟩), .slice (some ⟨W.heap.size, 0, none⟩) 1 1] (W.alloc (.cells #[.string S] 9)) (WPost b W (Px.sgn o (Px.dec n)))) := fun W S hS hW => by
    have hz : S.size = (Px.dec n).length := by rw [← hS]; rfl
    have h1 := Px.dec_len n
    have h2 := decPos n
    rw [← hS]
    exact put1 b S o W hW (by omega) (by omega)
  clear h g hc hl
  go_enter Tryz.func174, Tryz.ntmps174
  go_wp2_with fail
  refine C1.out.mono ?_
  rintro e w1 ⟨S, rfl, hS, h1, f1⟩
  have L1 : Hid (S.data.toList = Px.dec n ∧ WrAt w1 b o ∧ FrW b w w1) := ⟨hS, h1, f1⟩
  clear hS h1 f1
  go_wp2_with fail
  refine (C2.out _ S L1.out.1 L1.out.2.1).mono ?_
  rintro e w2 ⟨rfl, h2, f2⟩
  go_wp2_with fail
  go_end0
  exact ⟨rfl, h2, L1.out.2.2.trans f2⟩

set_option maxRecDepth 100000 in
theorem truth_write (b q : Nat) (x : Bool) (o : List UInt8) (w : World) (hc : w.heap[q]? = some (.cells #[.bool x] 224)) (h : WrAt w b o) (hl : o.length + 12 ≤ 1000000000) :
    Calls Tryz.prog 194 #[.pointer (some ⟨q, 0, none⟩), .pointer (some ⟨b, 0, none⟩)] w (WPost b w (Px.sgn o (if x then [116, 114, 117, 101] else [102, 97, 108, 115, 101]))) := by
  obtain ⟨c0, fr⟩ := cell1' hc
  have C2 : Hid (Calls Tryz.prog 166 #[.pointer (some ⟨b, 0, none⟩), .slice (some ⟨w.heap.size, 0, none⟩) 1 1] (w.alloc (.cells #[.string (if x then ⟨#[116, 114, 117, 101]⟩ else ⟨#[102, 97, 108, 115, 101]⟩)] 9)) (WPost b w (Px.sgn o (if x then [116, 114, 117, 101] else [102, 97, 108, 115, 101])))) := by
    cases x
    · exact put1 b ⟨#[102, 97, 108, 115, 101]⟩ o w h (by decide) (by show o.length + 5 + 1 ≤ _; omega)
    · exact put1 b ⟨#[116, 114, 117, 101]⟩ o w h (by decide) (by show o.length + 4 + 1 ≤ _; omega)
  clear h hc hl
  cases x
  all_goals
   simp only [if_true, Bool.false_eq_true, if_false] at C2 ⊢
   go_enter Tryz.func194, Tryz.ntmps194
   go_wp2_with fail
   refine (fbool_any _ _).mono ?_
   rintro e w1 ⟨rfl, rfl⟩
   simp only [if_true, Bool.false_eq_true, if_false]
   go_wp2_with fail
   refine C2.out.mono ?_
   rintro e w2 ⟨rfl, h2, f2⟩
   go_wp2_with fail
   go_end0
   exact ⟨rfl, h2, f2⟩

set_option maxRecDepth 100000 in
theorem variable_write (b q : Nat) (x : ByteArray) (own : Value) (o : List UInt8) (w : World) (hc : w.heap[q]? = some (.cells #[.string x, own] 194)) (h : WrAt w b o) (hx : 0 < x.size) (hl : o.length + x.size + 12 ≤ 1000000000) :
    Calls Tryz.prog 185 #[.pointer (some ⟨q, 0, none⟩), .pointer (some ⟨b, 0, none⟩)] w (WPost b w (Px.sgn o x.data.toList)) := by
  have c0 : w.cell? ⟨q, 0, none⟩ = some (.string x) := by simp [World.cell?, hc]
  have C2 : Hid (Calls Tryz.prog 166 #[.pointer (some ⟨b, 0, none⟩), .slice (some ⟨w.heap.size, 0, none⟩) 1 1] (w.alloc (.cells #[.string x] 9)) (WPost b w (Px.sgn o x.data.toList))) := put1 b x o w h hx (by omega)
  clear h hc hl
  go_enter Tryz.func185, Tryz.ntmps185
  go_wp2_with fail
  refine C2.out.mono ?_
  rintro e w2 ⟨rfl, h2, f2⟩
  go_wp2_with fail
  go_end0
  exact ⟨rfl, h2, f2⟩

set_option maxRecDepth 100000 in
theorem not_write (b q tl ql : Nat) (own : Value) (l : Px.Ex) (hp : PartOk b l) (o : List UInt8) (w : World) (hq : q < b) (hc : w.heap[q]? = some (.cells #[.iface tl (Ref.ptr ql), own] 227)) (hx : XAt w l (· < b) (.iface tl (Ref.ptr ql))) (h : WrAt w b o) (g : Gp w b) (hg : Px.GdE l) (hl : o.length + Px.szE l + 12 ≤ 1000000000) :
    Calls Tryz.prog 198 #[.pointer (some ⟨q, 0, none⟩), .pointer (some ⟨b, 0, none⟩)] w (WPost b w (Px.brk (decide (Px.lvl l.op < 4)) (Px.wrE l) (Px.sgn o [110, 111, 116]))) := by
  have s1 := Px.sgn_len o [110, 111, 116]
  simp only [List.length_cons, List.length_nil] at s1
  have C1 : Hid (Calls Tryz.prog 166 #[.pointer (some ⟨b, 0, none⟩), .slice (some ⟨w.heap.size, 0, none⟩) 1 1] (w.alloc (.cells #[.string ⟨#[110, 111, 116]⟩] 9)) (WPost b w (Px.sgn o [110, 111, 116]))) := put1 b ⟨#[110, 111, 116]⟩ o w h (by decide) (by show o.length + 3 + 1 ≤ _; omega)
  have C2 : Hid (∀ W, FrW b w W → WrAt W b (Px.sgn o [110, 111, 116]) → Calls Tryz.prog 188 #[.pointer (some ⟨b, 0, none⟩), .iface tl (.pointer (some ⟨ql, 0, none⟩)), .int .i64 3] W (WPost b W (Px.brk (decide (Px.lvl l.op < 4)) (Px.wrE l) (Px.sgn o [110, 111, 116])))) := fun W hF hW => hp W _ tl ql 3 (hx.keep fun i hi => hF.low i hi) hW (g.fr hF) hg (by omega)
  have CQ : Hid (∀ W, FrW b w W → W.cell? ⟨q, 0, none⟩ = some (.iface tl (.pointer (some ⟨ql, 0, none⟩)))) := fun W hF => by
    rw [World.cell?_of_block (w := w) (hF.low q hq)]
    simp [World.cell?, hc]
    rfl
  clear hp hc hx h g hg hl s1
  go_enter Tryz.func198, Tryz.ntmps198
  go_wp2_with fail
  refine C1.out.mono ?_
  rintro e w1 ⟨rfl, h1, f1⟩
  have c0 := CQ.out w1 f1
  have L1 : Hid (_ ∧ _) := ⟨h1, f1⟩
  clear h1 f1
  go_wp2_with fail
  refine (C2.out _ L1.out.2 L1.out.1).mono ?_
  rintro e w2 ⟨rfl, h2, f2⟩
  go_wp2_with fail
  go_end0
  exact ⟨rfl, h2, L1.out.2.trans f2⟩

end Lg
end Go.Proofs.YtcogbbneodihkaaGreatDoor
