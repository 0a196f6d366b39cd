import Derived.Test.YtcogbbneodihkaaGreatDoorQ29
namespace Go.Proofs.YtcogbbneodihkaaGreatDoor
open Go.RowKit
namespace Ref

def OPost (b : Nat) (w : World) (o : List UInt8) (e : Ending) (w' : World) : Prop := e = .returned (.tuple #[]) ∧ OutAt w' b o ∧ Below b w w'

theorem OutAt.lt {w : World} {b : Nat} {o : List UInt8} (h : OutAt w b o) : b < w.heap.size := by
  obtain ⟨S, _, h1⟩ := h
  rcases Nat.lt_or_ge b w.heap.size with hb | hb
  · exact hb
  · rw [Array.getElem?_eq_none hb] at h1; cases h1
theorem OutAt.old {w w' : World} {b : Nat} {o : List UInt8} (h : OutAt w b o) (k : Below w.heap.size w w') : OutAt w' b o := by
  obtain ⟨S, h1, h2⟩ := h
  have := OutAt.lt ⟨S, h1, h2⟩
  exact ⟨S, h1, by rw [k.block _ this]; exact h2⟩
theorem OutAt.drew {w : World} {b : Nat} {o : List UInt8} (h : OutAt w b o) : OutAt w.drew b o := h

/-- One sign, framed. -/
theorem outSign (b : Nat) (o : List UInt8) (t : ByteArray) (w : World) (h : OutAt w b o) (ht : 0 < t.size) (hl : o.length + t.size ≤ 1000000000) :
    Calls Tryz.prog 36 #[.pointer (some ⟨b, 0, none⟩), .string t] w (OPost b w (Px.sgn o t.data.toList)) := by
  have hb := h.lt
  refine (outSign_any b o t w h ht hl).mono ?_
  rintro e w' ⟨h1, h2, h3⟩
  exact ⟨h1, h2, h3.toBelow (Nat.le_refl _) (Nat.le_of_lt hb)⟩

/-- An expr that needs no brackets where it stands. -/
def OutD (b : Nat) (x : Px.Ex) : Prop := ∀ (w : World) (o : List UInt8) (ok : Nat → Prop) (q : Nat) (least : Nat), ExAt w x ok q → (∀ i, ok i → i < b) → OutAt w b o → Px.GdE x → o.length + Px.szE x ≤ 1000000000 → least ≤ Px.lvl x.op →
  Calls Tryz.prog 37 #[.pointer (some ⟨b, 0, none⟩), .pointer (some ⟨q, 0, none⟩), .int .i64 (least : Int)] w (OPost b w (Px.wrE x o))
def OutE (b : Nat) (x : Px.Ex) : Prop := ∀ (w : World) (o : List UInt8) (ok : Nat → Prop) (q : Nat) (least : Nat), ExAt w x ok q → (∀ i, ok i → i < b) → OutAt w b o → Px.GdE x → o.length + Px.szE x + 4 ≤ 1000000000 →
  Calls Tryz.prog 37 #[.pointer (some ⟨b, 0, none⟩), .pointer (some ⟨q, 0, none⟩), .int .i64 (least : Int)] w (OPost b w (Px.brk (decide (Px.lvl x.op < least)) (Px.wrE x) o))

set_option maxRecDepth 100000 in
theorem out_brk (b : Nat) (x : Px.Ex) (hd : OutD b x) : OutE b x := by
  intro w o ok q least hx hok h hg hl
  by_cases hlt : Px.lvl x.op < least
  · have h1 := Px.sgn_len o [40]
    have h2 := Px.wrE_len x (Px.sgn o [40])
    simp at h1
    have E : Hid (Px.brk (decide (Px.lvl x.op < least)) (Px.wrE x) o = Px.sgn (Px.wrE x (Px.sgn o [40])) [41]) := by unfold Hid Px.brk; rw [if_pos (by simpa using hlt)]
    have HL : Hid (_) := level_any q x ok w hx
    have C1 : Hid (Calls Tryz.prog 36 #[.pointer (some ⟨b, 0, none⟩), .string ⟨#[40]⟩] w (OPost b w (Px.sgn o [40]))) := outSign b o ⟨#[40]⟩ w h (by decide) (by show o.length + 1 ≤ _; omega)
    have C2 : Hid (∀ W, Below b w W → OutAt W b (Px.sgn o [40]) → Calls Tryz.prog 37 #[.pointer (some ⟨b, 0, none⟩), .pointer (some ⟨q, 0, none⟩), .int .i64 0] W (OPost b W (Px.wrE x (Px.sgn o [40])))) := fun W hW hO =>
      hd W _ ok q 0 (hx.keep fun i hi => hW.block i (hok i hi)) hok hO hg (by omega) (Nat.zero_le _)
    have C3 : Hid (∀ W, OutAt W b (Px.wrE x (Px.sgn o [40])) → Calls Tryz.prog 36 #[.pointer (some ⟨b, 0, none⟩), .string ⟨#[41]⟩] W (OPost b W (Px.sgn (Px.wrE x (Px.sgn o [40])) [41]))) := fun W hO => outSign b _ ⟨#[41]⟩ W hO (by decide) (by show _ + 1 ≤ _; omega)
    rw [E.out]
    have t1 : (Px.lvl x.op : Int) < least := by omega
    clear hd hx hok h hg hl h1 h2 hlt
    go_enter Tryz.func37, Tryz.ntmps37
    go_wp2_with fail
    refine (Calls.mono HL.out ?_)
    rintro e w1 ⟨rfl, rfl⟩
    go_wp2_with fail
    refine C1.out.mono ?_
    rintro e w1 ⟨rfl, o1, b1⟩
    have L1 : Hid (_ ∧ _) := ⟨o1, b1⟩
    clear o1 b1
    go_wp2_with fail
    refine (C2.out _ L1.out.2 L1.out.1).mono ?_
    rintro e w2 ⟨rfl, o2, b2⟩
    have L2 : Hid (_ ∧ _) := ⟨o2, b2⟩
    clear o2 b2
    go_wp2_with fail
    refine (C3.out _ L2.out.1).mono ?_
    rintro e w3 ⟨rfl, o3, b3⟩
    have L3 : Hid (_ ∧ _) := ⟨o3, b3⟩
    clear o3 b3
    go_wp2_with fail
    refine bodyPost_ret (results_none rfl _ _ _) rfl ?_
    exact ⟨rfl, L3.out.1, (L1.out.2.trans L2.out.2).trans L3.out.2⟩
  · have E : Px.brk (decide (Px.lvl x.op < least)) (Px.wrE x) o = Px.wrE x o := by unfold Px.brk; rw [if_neg (by simpa using hlt)]
    rw [E]
    exact hd w o ok q least hx hok h hg (by omega) (by omega)

theorem cells6' {w : World} {k : Nat} {a b c d e f : Value} {t : TypeId} (hh : w.heap[k]? = some (.cells #[a, b, c, d, e, f] t)) :
    w.cell? ⟨k, 0, none⟩ = some a ∧ w.cell? ⟨k, 1, none⟩ = some b ∧ w.cell? ⟨k, 2, none⟩ = some c ∧ w.cell? ⟨k, 5, none⟩ = some f ∧ ∀ o, w.frozen? ⟨k, o, none⟩ = false := by
  refine ⟨?_, ?_, ?_, ?_, ?_⟩ <;> simp [World.cell?, World.frozen?, hh]

theorem lvl_leaf {op : Nat} (h : op = 110 ∨ op = 116 ∨ op = 119 ∨ op = 33) : Px.lvl op = 4 := by
  rcases h with rfl | rfl | rfl | rfl <;> decide

set_option maxRecDepth 100000 in
set_option maxHeartbeats 4000000 in
theorem out_leaf (b op n : Nat) (word : ByteArray) (pl own : Nat) (hop : op = 110 ∨ op = 116 ∨ op = 119) : OutD b ⟨op, n, word, pl, own, none, none⟩ := by
  intro w o ok q least hx hok h hg hl hle
  have HL : Hid (Calls Tryz.prog 62 #[.pointer (some ⟨q, 0, none⟩)] w fun e w' => e = .returned (.int .i64 4) ∧ w' = w) := by
    have := level_any q _ ok w hx
    rw [lvl_leaf (by show op = 110 ∨ op = 116 ∨ op = 119 ∨ op = 33; omega)] at this
    exact this
  have hl4 : Px.lvl op = 4 := lvl_leaf (by omega)
  have hle' : least ≤ 4 := by have : least ≤ Px.lvl op := hle; omega
  obtain ⟨hq, hv⟩ := hx
  obtain ⟨c0, c1, c2, c5, fr⟩ := cells6' hv
  have t1 : ¬ (4 : Int) < least := by omega
  simp only [Px.szE] at hl
  obtain ⟨hg1, hg2⟩ := hg
  have HO : Hid (OutAt w b o) := h
  have hbs := h.lt
  clear hok h hv hle
  rcases hop with rfl | rfl | rfl
  · have hd := Px.dec_len n
    have hne : 0 < (Px.dec n).length := by rw [Px.dec_rec]; split <;> simp
    have C1 : Hid (∀ W, Calls Tryz.prog 40 #[.int .i64 (n : Int)] W (DecPost n W)) := dec_any n hg2
    go_enter Tryz.func37, Tryz.ntmps37
    go_wp2_with fail
    refine HL.out.mono ?_
    rintro e w1 ⟨rfl, rfl⟩
    go_wp2_with fail
    refine (C1.out _).mono ?_
    rintro e w2 ⟨S, rfl, hS, b2⟩
    have hz : S.size = (Px.dec n).length := by rw [← hS]; rfl
    have C2 : Hid (Calls Tryz.prog 36 #[.pointer (some ⟨b, 0, none⟩), .string S] w2 (OPost b w2 (Px.sgn o S.data.toList))) := outSign b o S w2 (HO.out.old b2) (by omega) (by omega)
    have B2 : Hid (Below b w1 w2) := b2.mono (Nat.le_of_lt hbs)
    have EQ : Hid (Px.wrE ⟨110, n, word, pl, own, none, none⟩ o = Px.sgn o S.data.toList) := by unfold Hid; simp only [Px.wrE, if_true, hS]
    clear b2 hS hd hne hz
    go_wp2_with fail
    refine C2.out.mono ?_
    rintro e w3 ⟨rfl, o3, b3⟩
    go_wp2_with fail
    go_end0
    rw [EQ.out]
    exact ⟨rfl, o3, B2.out.trans b3⟩
  · by_cases h1 : n = 1
    · subst h1
      have C2 : Hid (Calls Tryz.prog 36 #[.pointer (some ⟨b, 0, none⟩), .string ⟨#[116, 114, 117, 101]⟩] w (OPost b w (Px.sgn o [116, 114, 117, 101]))) := outSign b o ⟨#[116, 114, 117, 101]⟩ w HO.out (by decide) (by show o.length + 4 ≤ _; omega)
      have EQ : Hid (Px.wrE ⟨116, 1, word, pl, own, none, none⟩ o = Px.sgn o [116, 114, 117, 101]) := by unfold Hid; simp only [Px.wrE, if_neg (by decide : ¬(116 : Nat) = 110), if_true]
      go_enter Tryz.func37, Tryz.ntmps37
      go_wp2_with fail
      refine HL.out.mono ?_
      rintro e w1 ⟨rfl, rfl⟩
      go_wp2_with fail
      refine C2.out.mono ?_
      rintro e w3 ⟨rfl, o3, b3⟩
      go_wp2_with fail
      go_end0
      rw [EQ.out]
      exact ⟨rfl, o3, b3⟩
    · have C2 : Hid (Calls Tryz.prog 36 #[.pointer (some ⟨b, 0, none⟩), .string ⟨#[102, 97, 108, 115, 101]⟩] w (OPost b w (Px.sgn o [102, 97, 108, 115, 101]))) := outSign b o ⟨#[102, 97, 108, 115, 101]⟩ w HO.out (by decide) (by show o.length + 5 ≤ _; omega)
      have EQ : Hid (Px.wrE ⟨116, n, word, pl, own, none, none⟩ o = Px.sgn o [102, 97, 108, 115, 101]) := by unfold Hid; simp only [Px.wrE, if_neg (by decide : ¬(116 : Nat) = 110), if_true, if_neg h1]
      have t2 : ((n : Int) == 1) = false := by rw [beq_eq_false_iff_ne]; omega
      go_enter Tryz.func37, Tryz.ntmps37
      go_wp2_with fail
      refine HL.out.mono ?_
      rintro e w1 ⟨rfl, rfl⟩
      go_wp2_with fail
      refine C2.out.mono ?_
      rintro e w3 ⟨rfl, o3, b3⟩
      go_wp2_with fail
      go_end0
      rw [EQ.out]
      exact ⟨rfl, o3, b3⟩
  · have C2 : Hid (Calls Tryz.prog 36 #[.pointer (some ⟨b, 0, none⟩), .string word] w (OPost b w (Px.sgn o word.data.toList))) := outSign b o word w HO.out (hg1 rfl) (by omega)
    have EQ : Hid (Px.wrE ⟨119, n, word, pl, own, none, none⟩ o = Px.sgn o word.data.toList) := by unfold Hid; simp only [Px.wrE, if_neg (by decide : ¬(119 : Nat) = 110), if_neg (by decide : ¬(119 : Nat) = 116)]
    go_enter Tryz.func37, Tryz.ntmps37
    go_wp2_with fail
    refine HL.out.mono ?_
    rintro e w1 ⟨rfl, rfl⟩
    go_wp2_with fail
    refine C2.out.mono ?_
    rintro e w3 ⟨rfl, o3, b3⟩
    go_wp2_with fail
    go_end0
    rw [EQ.out]
    exact ⟨rfl, o3, b3⟩

end Ref
end Go.Proofs.YtcogbbneodihkaaGreatDoor

namespace Go.Proofs.YtcogbbneodihkaaGreatDoor
open Go.RowKit
namespace Ref

set_option maxRecDepth 100000 in
set_option maxHeartbeats 4000000 in
theorem out_not (b n : Nat) (word : ByteArray) (pl own : Nat) (l : Px.Ex) (ih : OutE b l) : OutD b ⟨33, n, word, pl, own, some l, none⟩ := by
  intro w o ok q least hx hok h hg hl hle
  have HL : Hid (Calls Tryz.prog 62 #[.pointer (some ⟨q, 0, none⟩)] w fun e w' => e = .returned (.int .i64 4) ∧ w' = w) := level_any q _ ok w hx
  have hle' : least ≤ 4 := hle
  obtain ⟨hq, kb, lq, hkb, hne, hv, hkc, hxl⟩ := hx
  have hqb := hok q hq
  have hkbb := hok kb hkb
  obtain ⟨c0, c1, c2, c5, fr⟩ := cells6' hv
  have t1 : ¬ (4 : Int) < least := by omega
  have hs := Px.sgn_len o [110, 111, 116]
  simp only [Px.szE] at hl
  simp at hs
  have C1 : Hid (Calls Tryz.prog 36 #[.pointer (some ⟨b, 0, none⟩), .string ⟨#[110, 111, 116]⟩] w (OPost b w (Px.sgn o [110, 111, 116]))) := outSign b o ⟨#[110, 111, 116]⟩ w h (by decide) (by show o.length + 3 ≤ _; omega)
  have C2 : Hid (∀ W, Below b w W → OutAt W b (Px.sgn o [110, 111, 116]) → Calls Tryz.prog 37 #[.pointer (some ⟨b, 0, none⟩), .pointer (some ⟨lq, 0, none⟩), .int .i64 4] W (OPost b W (Px.brk (decide (Px.lvl l.op < 4)) (Px.wrE l) (Px.sgn o [110, 111, 116])))) := fun W hW hO =>
    ih W _ _ lq 4 (hxl.keep fun i hi => hW.block i (hok i hi.1)) (fun i hi => hok i hi.1) hO hg (by omega)
  have CQ : Hid (∀ W, Below b w W → W.cell? ⟨q, 5, none⟩ = some (.slice (some ⟨kb, 0, none⟩) 1 1) ∧ W.cell? ⟨kb, 0, none⟩ = some (.pointer (some ⟨lq, 0, none⟩))) := fun W hW => by
    constructor
    · rw [World.cell?_of_block (w := w) (hW.block q hqb)]; exact c5
    · rw [World.cell?_of_block (w := w) (hW.block kb hkbb)]; simp [World.cell?, hkc]
  have EQ : Hid (Px.wrE ⟨33, n, word, pl, own, some l, none⟩ o = Px.brk (decide (Px.lvl l.op < 4)) (Px.wrE l) (Px.sgn o [110, 111, 116])) := by unfold Hid; rw [Px.wrE]
  clear hok h hv hkc hxl hle ih hg hl hs
  go_enter Tryz.func37, Tryz.ntmps37
  go_wp2_with fail
  refine HL.out.mono ?_
  rintro e w1 ⟨rfl, rfl⟩
  go_wp2_with fail
  refine C1.out.mono ?_
  rintro e w2 ⟨rfl, o2, b2⟩
  obtain ⟨d5, dk⟩ := CQ.out w2 b2
  have L2 : Hid (_ ∧ _) := ⟨o2, b2⟩
  clear o2 b2
  go_wp2_with fail
  refine (C2.out _ L2.out.2 L2.out.1).mono ?_
  rintro e w3 ⟨rfl, o3, b3⟩
  have L3 : Hid (_ ∧ _) := ⟨o3, b3⟩
  clear o3 b3
  go_wp2_with fail
  go_end0
  rw [EQ.out]
  exact ⟨rfl, L3.out.1, L2.out.2.trans L3.out.2⟩

set_option maxRecDepth 100000 in
set_option maxHeartbeats 8000000 in
theorem out_pair (b op n : Nat) (word : ByteArray) (pl own : Nat) (l r : Px.Ex) (hop : op = 42 ∨ op = 47 ∨ op = 43 ∨ op = 45 ∨ op = 60 ∨ op = 61 ∨ op = 35) (ihl : OutE b l) (ihr : OutE b r) : OutD b ⟨op, n, word, pl, own, some l, some r⟩ := by
  intro w o ok q least hx hok h hg hl hle
  have HL : Hid (Calls Tryz.prog 62 #[.pointer (some ⟨q, 0, none⟩)] w fun e w' => e = .returned (.int .i64 (Px.lvl op : Int)) ∧ w' = w) := level_any q _ ok w hx
  have hle' : least ≤ Px.lvl op := hle
  obtain ⟨hq, kb, lq, rq, hkb, hne, hv, hkc, hxl, hxr⟩ := hx
  have hqb := hok q hq
  have hkbb := hok kb hkb
  obtain ⟨c0, c1, c2, c5, fr⟩ := cells6' hv
  have kc0 : w.cell? ⟨kb, 0, none⟩ = some (.pointer (some ⟨lq, 0, none⟩)) := by simp [World.cell?, hkc]
  have kc1 : w.cell? ⟨kb, 1, none⟩ = some (.pointer (some ⟨rq, 0, none⟩)) := by simp [World.cell?, hkc]
  have t1 : ¬ (Px.lvl op : Int) < least := by omega
  simp only [Px.szE] at hl
  have s1 := Px.brk_len (b := decide (Px.lvl l.op < Px.lft op)) (Px.wrE_len l) o
  have s2 := Px.sgn_len (Px.brk (decide (Px.lvl l.op < Px.lft op)) (Px.wrE l) o) [UInt8.ofNat op]
  simp at s2
  have C1 : Hid (Calls Tryz.prog 37 #[.pointer (some ⟨b, 0, none⟩), .pointer (some ⟨lq, 0, none⟩), .int .i64 (Px.lft op : Int)] w (OPost b w (Px.brk (decide (Px.lvl l.op < Px.lft op)) (Px.wrE l) o))) :=
    ihl w o _ lq (Px.lft op) hxl (fun i hi => hok i hi.1) h hg.1 (by omega)
  have C2 : Hid (∀ W, OutAt W b (Px.brk (decide (Px.lvl l.op < Px.lft op)) (Px.wrE l) o) → Calls Tryz.prog 36 #[.pointer (some ⟨b, 0, none⟩), .string ⟨#[UInt8.ofNat op]⟩] W (OPost b W (Px.sgn (Px.brk (decide (Px.lvl l.op < Px.lft op)) (Px.wrE l) o) [UInt8.ofNat op]))) := fun W hO => outSign b _ ⟨#[UInt8.ofNat op]⟩ W hO (by show 0 < 1; decide) (by show _ + 1 ≤ _; omega)
  have C3 : Hid (∀ W, Below b w W → OutAt W b (Px.sgn (Px.brk (decide (Px.lvl l.op < Px.lft op)) (Px.wrE l) o) [UInt8.ofNat op]) → Calls Tryz.prog 37 #[.pointer (some ⟨b, 0, none⟩), .pointer (some ⟨rq, 0, none⟩), .int .i64 ((Px.lvl op + 1 : Nat) : Int)] W (OPost b W (Px.wrE ⟨op, n, word, pl, own, some l, some r⟩ o))) := fun W hW hO => by
    rw [Px.wrE]
    exact ihr W _ _ rq (Px.lvl op + 1) (hxr.keep fun i hi => hW.block i (hok i hi.1)) (fun i hi => hok i hi.1) hO hg.2 (by omega)
  have CQ : Hid (∀ W, Below b w W → W.cell? ⟨q, 0, none⟩ = some (.int .u8 (op : Int)) ∧ W.cell? ⟨q, 5, none⟩ = some (.slice (some ⟨kb, 0, none⟩) 2 2) ∧ W.cell? ⟨kb, 1, none⟩ = some (.pointer (some ⟨rq, 0, none⟩)) ∧ b < W.heap.size + 1) := fun W hW => by
    refine ⟨?_, ?_, ?_, ?_⟩
    · rw [World.cell?_of_block (w := w) (hW.block q hqb)]; exact c0
    · rw [World.cell?_of_block (w := w) (hW.block q hqb)]; exact c5
    · rw [World.cell?_of_block (w := w) (hW.block kb hkbb)]; exact kc1
    · have := h.lt; have := hW.size; omega
  have hcv : ∀ W : World, (convert 62 9 (.slice (some ⟨W.heap.size, 0, none⟩) 1 1)).run Tryz.prog (W.alloc (.cells #[.int .u8 (op : Int)] 5)) = .ok (.string ⟨#[UInt8.ofNat op]⟩) (W.alloc (.cells #[.int .u8 (op : Int)] 5)) := fun W =>
    run_convert_bytes_back (P := Tryz.prog) _ 62 9 5 ⟨W.heap.size, 0, none⟩ 1 [UInt8.ofNat op] Tryz.underlying62 Tryz.underlying5 Tryz.underlying9 (by
      intro j hj
      have : j = 0 := by simpa using hj
      subst this
      simp [Addr.add]
      omega)
  clear hok h hv hkc hxl hxr hle ihl ihr hg hl s1 s2 hle'
  have OP : Hid (op = 42 ∨ op = 47 ∨ op = 43 ∨ op = 45 ∨ op = 60 ∨ op = 61 ∨ op = 35) := hop
  have o1 : ((op : Int) == 110) = false := by rw [beq_eq_false_iff_ne]; omega
  have o2 : ((op : Int) == 116) = false := by rw [beq_eq_false_iff_ne]; omega
  have o3 : ((op : Int) == 119) = false := by rw [beq_eq_false_iff_ne]; omega
  have o4 : ((op : Int) == 33) = false := by rw [beq_eq_false_iff_ne]; omega
  clear hop
  by_cases h1 : Px.lvl op = 1
  · have hlf : Px.lft op = 2 := by unfold Px.lft; rw [if_pos h1]
    rw [h1] at HL C3 t1
    have E3 : Hid (∀ W, Below b w W → OutAt W b (Px.sgn (Px.brk (decide (Px.lvl l.op < Px.lft op)) (Px.wrE l) o) [UInt8.ofNat op]) → Calls Tryz.prog 37 #[.pointer (some ⟨b, 0, none⟩), .pointer (some ⟨rq, 0, none⟩), .int .i64 2] W (OPost b W (Px.wrE ⟨op, n, word, pl, own, some l, some r⟩ o))) := C3.out
    have E1 : Hid (Calls Tryz.prog 37 #[.pointer (some ⟨b, 0, none⟩), .pointer (some ⟨lq, 0, none⟩), .int .i64 2] w (OPost b w (Px.brk (decide (Px.lvl l.op < Px.lft op)) (Px.wrE l) o))) := by
      have := C1.out
      rw [show (Px.lft op : Int) = 2 by rw [hlf]; rfl] at this
      exact this
    go_enter Tryz.func37, Tryz.ntmps37
    go_wp2_with fail
    refine HL.out.mono ?_
    rintro e w1 ⟨rfl, rfl⟩
    go_wp2_with fail
    refine E1.out.mono ?_
    rintro e w2 ⟨rfl, o2, b2⟩
    obtain ⟨d0, d5, dk, db⟩ := CQ.out w2 b2
    have L2 : Hid (OutAt (w2.alloc (.cells #[.int .u8 (op : Int)] 5)) b (Px.brk (decide (Px.lvl l.op < Px.lft op)) (Px.wrE l) o) ∧ Below b w1 (w2.alloc (.cells #[.int .u8 (op : Int)] 5))) := ⟨o2.old ((Below.refl _ _).alloc (Nat.le_refl _) _), b2.alloc (by omega) _⟩
    clear o2 b2 c0 c1 c2 c5 fr kc0 kc1
    go_wp2_with fail
    refine (C2.out _ L2.out.1).mono ?_
    rintro e w3 ⟨rfl, o3, b3⟩
    obtain ⟨j0, j5, jk, jb⟩ := CQ.out w3 (L2.out.2.trans b3)
    have L3 : Hid (_ ∧ _) := ⟨o3, L2.out.2.trans b3⟩
    clear o3 b3 d0 d5 dk
    go_wp2_with fail
    refine (E3.out _ L3.out.2 L3.out.1).mono ?_
    rintro e w4 ⟨rfl, o4, b4⟩
    have L4 : Hid (_ ∧ _) := ⟨o4, b4⟩
    clear o4 b4
    go_wp2_with fail
    go_end0
    exact ⟨rfl, L4.out.1, L3.out.2.trans L4.out.2⟩
  · have hlf : Px.lft op = Px.lvl op := by unfold Px.lft; rw [if_neg h1]
    have hL4 : Px.lvl op ≤ 4 := by
      unfold Px.lvl
      repeat' split
      all_goals omega
    have t2 : ((Px.lvl op : Int) == 1) = false := by rw [beq_eq_false_iff_ne]; omega
    have E3 : Hid (∀ W, Below b w W → OutAt W b (Px.sgn (Px.brk (decide (Px.lvl l.op < Px.lft op)) (Px.wrE l) o) [UInt8.ofNat op]) → Calls Tryz.prog 37 #[.pointer (some ⟨b, 0, none⟩), .pointer (some ⟨rq, 0, none⟩), .int .i64 ((Px.lvl op : Int) + 1)] W (OPost b W (Px.wrE ⟨op, n, word, pl, own, some l, some r⟩ o))) := C3.out
    have E1 : Hid (Calls Tryz.prog 37 #[.pointer (some ⟨b, 0, none⟩), .pointer (some ⟨lq, 0, none⟩), .int .i64 (Px.lvl op : Int)] w (OPost b w (Px.brk (decide (Px.lvl l.op < Px.lft op)) (Px.wrE l) o))) := by
      have := C1.out
      rw [show (Px.lft op : Int) = Px.lvl op by rw [hlf]] at this
      exact this
    clear C1 C3 h1 hlf
    generalize Px.lvl op = L at *
    go_enter Tryz.func37, Tryz.ntmps37
    go_wp2_with fail
    refine HL.out.mono ?_
    rintro e w1 ⟨rfl, rfl⟩
    go_wp2_with fail
    refine E1.out.mono ?_
    rintro e w2 ⟨rfl, o2, b2⟩
    obtain ⟨d0, d5, dk, db⟩ := CQ.out w2 b2
    have L2 : Hid (OutAt (w2.alloc (.cells #[.int .u8 (op : Int)] 5)) b (Px.brk (decide (Px.lvl l.op < Px.lft op)) (Px.wrE l) o) ∧ Below b w1 (w2.alloc (.cells #[.int .u8 (op : Int)] 5))) := ⟨o2.old ((Below.refl _ _).alloc (Nat.le_refl _) _), b2.alloc (by omega) _⟩
    clear o2 b2 c0 c1 c2 c5 fr kc0 kc1
    go_wp2_with fail
    refine (C2.out _ L2.out.1).mono ?_
    rintro e w3 ⟨rfl, o3, b3⟩
    obtain ⟨j0, j5, jk, jb⟩ := CQ.out w3 (L2.out.2.trans b3)
    have L3 : Hid (_ ∧ _) := ⟨o3, L2.out.2.trans b3⟩
    clear o3 b3 d0 d5 dk
    go_wp2_with fail
    refine (E3.out _ L3.out.2 L3.out.1).mono ?_
    rintro e w4 ⟨rfl, o4, b4⟩
    have L4 : Hid (_ ∧ _) := ⟨o4, b4⟩
    clear o4 b4
    go_wp2_with fail
    go_end0
    exact ⟨rfl, L4.out.1, L3.out.2.trans L4.out.2⟩

end Ref
end Go.Proofs.YtcogbbneodihkaaGreatDoor
