import Derived.Test.YtcogbbneodihkaaGreatDoorQ20
import Derived.Test.YtcogbbneodihkaaGreatDoorP08
import Derived.Test.YtcogbbneodihkaaGreatDoorQ18
import Derived.Test.YtcogbbneodihkaaGreatDoorP16
import Derived.Deep.RegionWith
import Derived.Laws.IdiomStrings
namespace Go.Proofs.YtcogbbneodihkaaGreatDoor
open Go.RowKit
namespace Lg

theorem wB_len (l : List Px.Sm) (o : List UInt8) : (Px.wrB l o).length ≤ o.length + Px.szS l + 4 := Px.wrB_len (Px.wrS_len l) o

set_option maxRecDepth 100000 in
theorem try_write (b q : Nat) (one two : List Px.Sm) (i1 : WBlockOk b one) (i2 : WBlockOk b two) (o : List UInt8) (w : World) (v1 v2 : Value) (u1 u2 : List Value) (hq : q < b) (hc : w.heap[q]? = some (.cells #[v1, v2] 188)) (s1 : SlL w v1 u1 (· < b)) (l1 : LsAt w one (· < b) u1) (s2 : SlL w v2 u2 (· < b)) (l2 : LsAt w two (· < b) u2) (h : WrAt w b o) (g : Gp w b) (g1 : Px.GdS one) (g2 : Px.GdS two) (hl : o.length + Px.szS one + Px.szS two + 50 ≤ 1000000000) :
    Calls Tryz.prog 178 #[.pointer (some ⟨q, 0, none⟩), .pointer (some ⟨b, 0, none⟩)] w (WPost b w (Px.wrB two (Px.sgn (Px.wrB one (Px.sgn o [116, 114, 121])) [101, 108, 115, 101]))) := by
  obtain ⟨a1, n1, k1, rfl⟩ := s1.form
  obtain ⟨a2, n2, k2, rfl⟩ := s2.form
  obtain ⟨c0, c1, fr⟩ := cells2 hc
  have z1 := Px.sgn_len o [116, 114, 121]
  have z2 := wB_len one (Px.sgn o [116, 114, 121])
  have z3 := Px.sgn_len (Px.wrB one (Px.sgn o [116, 114, 121])) [101, 108, 115, 101]
  simp only [List.length_cons, List.length_nil] at z1 z3
  have CQ : Hid (∀ W, FrW b w W → W.heap[q]? = some (.cells #[.slice a1 n1 k1, .slice a2 n2 k2] 188)) := fun W hF => by rw [hF.low q hq]; exact hc
  have C0 : Hid (Calls Tryz.prog 166 #[.pointer (some ⟨b, 0, none⟩), .slice (some ⟨w.heap.size, 0, none⟩) 1 1] (w.alloc (.cells #[.string ⟨#[116, 114, 121]⟩] 9)) (WPost b w (Px.sgn o [116, 114, 121]))) := put1 b ⟨#[116, 114, 121]⟩ o w h (by decide) (by show o.length + 3 + 1 ≤ _; omega)
  generalize Px.sgn o [116, 114, 121] = o1 at *
  have C1 : Hid (∀ W, FrW b w W → WrAt W b o1 → Calls Tryz.prog 148 #[.pointer (some ⟨b, 0, none⟩), .slice a1 n1 k1] W (WPost b W (Px.wrB one o1))) := fun W hF hW => i1 W _ _ u1 (s1.keep fun i hi => hF.low i hi) (l1.keep fun i hi => hF.low i hi) hW (g.fr hF) g1 (by omega)
  generalize Px.wrB one o1 = o2 at *
  have C2 : Hid (∀ W, WrAt W b o2 → Calls Tryz.prog 166 #[.pointer (some ⟨b, 0, none⟩), .slice (some ⟨W.heap.size, 0, none⟩) 1 1] (W.alloc (.cells #[.string ⟨#[101, 108, 115, 101]⟩] 9)) (WPost b W (Px.sgn o2 [101, 108, 115, 101]))) := fun W hW => put1 b ⟨#[101, 108, 115, 101]⟩ o2 W hW (by decide) (by show o2.length + 4 + 1 ≤ _; omega)
  generalize Px.sgn o2 [101, 108, 115, 101] = o3 at *
  have C3 : Hid (∀ W, FrW b w W → WrAt W b o3 → Calls Tryz.prog 148 #[.pointer (some ⟨b, 0, none⟩), .slice a2 n2 k2] W (WPost b W (Px.wrB two o3))) := fun W hF hW => i2 W _ _ u2 (s2.keep fun i hi => hF.low i hi) (l2.keep fun i hi => hF.low i hi) hW (g.fr hF) g2 (by omega)
  clear hc s1 l1 s2 l2 h g g1 g2 hl z1 z2 z3 i1 i2
  go_enter Tryz.func178, Tryz.ntmps178
  go_wp2_with fail
  refine C0.out.mono ?_
  rintro r w1 ⟨rfl, h1, f1⟩
  obtain ⟨d0, d1, fd⟩ := cells2 (CQ.out w1 f1)
  have L1 : Hid (_ ∧ _) := ⟨h1, f1⟩
  clear c0 c1 fr h1 f1
  go_wp2_with fail
  refine (C1.out _ L1.out.2 L1.out.1).mono ?_
  rintro r w2 ⟨rfl, h2, f2⟩
  have L2 : Hid (WrAt w2 b o2 ∧ FrW b w w2) := ⟨h2, L1.out.2.trans f2⟩
  clear h2 f2 d0 d1 fd
  go_wp2_with fail
  refine (C2.out _ L2.out.1).mono ?_
  rintro r w3 ⟨rfl, h3, f3⟩
  obtain ⟨j0, j1, fj⟩ := cells2 (CQ.out w3 (L2.out.2.trans f3))
  have L3 : Hid (WrAt w3 b o3 ∧ FrW b w w3) := ⟨h3, L2.out.2.trans f3⟩
  clear h3 f3
  go_wp2_with fail
  refine (C3.out _ L3.out.2 L3.out.1).mono ?_
  rintro r w4 ⟨rfl, h4, f4⟩
  go_wp2_with fail
  go_end0
  exact ⟨rfl, h4, L3.out.2.trans f4⟩

set_option maxRecDepth 100000 in
theorem repeat_write (b q qn n a : Nat) (one : List Px.Sm) (i1 : WBlockOk b one) (o : List UInt8) (w : World) (v1 : Value) (u1 : List Value) (hq : q < b) (hc : w.heap[q]? = some (.cells #[Ref.ptr qn, v1] 157)) (hn : NumAt w n a (· < b) qn) (s1 : SlL w v1 u1 (· < b)) (l1 : LsAt w one (· < b) u1) (h : WrAt w b o) (g : Gp w b) (hn9 : n ≤ 9999) (g1 : Px.GdS one) (hl : o.length + n + Px.szS one + 50 ≤ 1000000000) :
    Calls Tryz.prog 180 #[.pointer (some ⟨q, 0, none⟩), .pointer (some ⟨b, 0, none⟩)] w (WPost b w (Px.wrB one (Px.sgn (Px.sgn o [114, 101, 112, 101, 97, 116]) (Px.dec n)))) := by
  obtain ⟨a1, n1, k1, rfl⟩ := s1.form
  unfold Ref.ptr at hc
  obtain ⟨c0, c1, fr⟩ := cells2 hc
  have z1 := Px.sgn_len o [114, 101, 112, 101, 97, 116]
  have z2 := Px.sgn_len (Px.sgn o [114, 101, 112, 101, 97, 116]) (Px.dec n)
  have z3 := Px.dec_len n
  simp only [List.length_cons, List.length_nil] at z1
  have CQ : Hid (∀ W, FrW b w W → W.heap[q]? = some (.cells #[.pointer (some ⟨qn, 0, none⟩), .slice a1 n1 k1] 157)) := fun W hF => by rw [hF.low q hq]; exact hc
  have C0 : Hid (Calls Tryz.prog 166 #[.pointer (some ⟨b, 0, none⟩), .slice (some ⟨w.heap.size, 0, none⟩) 1 1] (w.alloc (.cells #[.string ⟨#[114, 101, 112, 101, 97, 116]⟩] 9)) (WPost b w (Px.sgn o [114, 101, 112, 101, 97, 116]))) := put1 b ⟨#[114, 101, 112, 101, 97, 116]⟩ o w h (by decide) (by show o.length + 6 + 1 ≤ _; omega)
  generalize Px.sgn o [114, 101, 112, 101, 97, 116] = o1 at *
  have C1 : Hid (∀ W, FrW b w W → WrAt W b o1 → Calls Tryz.prog 174 #[.pointer (some ⟨qn, 0, none⟩), .pointer (some ⟨b, 0, none⟩)] W (WPost b W (Px.sgn o1 (Px.dec n)))) := fun W hF hW => number_write b qn n _ o1 W hn.1 ((hn.keep fun i hi => hF.low i hi).2) hW (g.fr hF) hn9 (by omega)
  generalize Px.sgn o1 (Px.dec n) = o2 at *
  have C2 : Hid (∀ W, FrW b w W → WrAt W b o2 → Calls Tryz.prog 148 #[.pointer (some ⟨b, 0, none⟩), .slice a1 n1 k1] W (WPost b W (Px.wrB one o2))) := fun W hF hW => i1 W _ _ u1 (s1.keep fun i hi => hF.low i hi) (l1.keep fun i hi => hF.low i hi) hW (g.fr hF) g1 (by omega)
  clear hc s1 l1 h g g1 hl z1 z2 z3 i1 hn
  go_enter Tryz.func180, Tryz.ntmps180
  go_wp2_with fail
  refine C0.out.mono ?_
  rintro r w1 ⟨rfl, h1, f1⟩
  obtain ⟨d0, d1, fd⟩ := cells2 (CQ.out w1 f1)
  have L1 : Hid (_ ∧ _) := ⟨h1, f1⟩
  clear c0 c1 fr h1 f1
  go_wp2_with fail
  refine (C1.out _ L1.out.2 L1.out.1).mono ?_
  rintro r w2 ⟨rfl, h2, f2⟩
  obtain ⟨j0, j1, fj⟩ := cells2 (CQ.out w2 (L1.out.2.trans f2))
  have L2 : Hid (WrAt w2 b o2 ∧ FrW b w w2) := ⟨h2, L1.out.2.trans f2⟩
  clear h2 f2 d0 d1 fd
  go_wp2_with fail
  refine (C2.out _ L2.out.2 L2.out.1).mono ?_
  rintro r w3 ⟨rfl, h3, f3⟩
  go_wp2_with fail
  go_end0
  exact ⟨rfl, h3, L2.out.2.trans f3⟩

set_option maxRecDepth 100000 in
set_option maxHeartbeats 2000000 in
theorem if_write (b q qr : Nat) (e : Px.Ex) (he : Px.WfE e) (one two : List Px.Sm) (i1 : WBlockOk b one) (i2 : WBlockOk b two) (o : List UInt8) (w : World) (v1 v2 : Value) (u1 u2 : List Value) (hq : q < b) (hc : w.heap[q]? = some (.cells #[Ref.ptr qr, v1, v2] 186)) (hr : RootAt w e (· < b) qr) (s1 : SlL w v1 u1 (· < b)) (l1 : LsAt w one (· < b) u1) (s2 : SlL w v2 u2 (· < b)) (l2 : LsAt w two (· < b) u2) (h : WrAt w b o) (g : Gp w b) (hg : Px.GdE e) (g1 : Px.GdS one) (g2 : Px.GdS two) (hl : o.length + Px.szE e + Px.szS one + Px.szS two + 50 ≤ 1000000000) :
    Calls Tryz.prog 176 #[.pointer (some ⟨q, 0, none⟩), .pointer (some ⟨b, 0, none⟩)] w (WPost b w (if two.isEmpty then Px.wrB one (Px.wrE e (Px.sgn o [105, 102])) else Px.wrB two (Px.sgn (Px.wrB one (Px.wrE e (Px.sgn o [105, 102]))) [101, 108, 115, 101]))) := by
  have m1 := xNum
  have m2 := xVar
  have m3 := xTru
  have m4 := xNot
  have m5 := xPair
  obtain ⟨a1, n1, k1, rfl⟩ := s1.form
  obtain ⟨a2, k2, rfl, hml⟩ := s2.len
  unfold maxLen at hml
  have hlen := l2.len
  unfold Ref.ptr at hc
  obtain ⟨c0, c1, c2, fr⟩ := cells3' hc
  obtain ⟨hqr, tl, ql, hr1, hr2⟩ := hr
  have z1 := Px.sgn_len o [105, 102]
  have z2 := Px.wrE_len e (Px.sgn o [105, 102])
  have z3 := wB_len one (Px.wrE e (Px.sgn o [105, 102]))
  have z4 := Px.sgn_len (Px.wrB one (Px.wrE e (Px.sgn o [105, 102]))) [101, 108, 115, 101]
  simp only [List.length_cons, List.length_nil] at z1 z4
  have CQ : Hid (∀ W, FrW b w W → W.heap[q]? = some (.cells #[.pointer (some ⟨qr, 0, none⟩), .slice a1 n1 k1, .slice a2 u2.length k2] 186)) := fun W hF => by rw [hF.low q hq]; exact hc
  have CR : Hid (∀ W, FrW b w W → W.cell? ⟨qr, 0, none⟩ = some (.iface tl (.pointer (some ⟨ql, 0, none⟩)))) := fun W hF => by
    rw [World.cell?_of_block (w := w) (hF.low qr hqr)]
    simp [World.cell?, hr1]
    rfl
  have C0 : Hid (Calls Tryz.prog 166 #[.pointer (some ⟨b, 0, none⟩), .slice (some ⟨w.heap.size, 0, none⟩) 1 1] (w.alloc (.cells #[.string ⟨#[105, 102]⟩] 9)) (WPost b w (Px.sgn o [105, 102]))) := put1 b ⟨#[105, 102]⟩ o w h (by decide) (by show o.length + 2 + 1 ≤ _; omega)
  generalize Px.sgn o [105, 102] = o1 at *
  have C1 : Hid (∀ W, FrW b w W → WrAt W b o1 → WriteC W b tl ql (WPost b W (Px.wrE e o1))) := fun W hF hW => wr_ok b e he W _ tl ql (hr2.keep fun i hi => hF.low i hi) hW (g.fr hF) hg (by omega)
  generalize Px.wrE e o1 = o2 at *
  have C2 : Hid (∀ W, FrW b w W → WrAt W b o2 → Calls Tryz.prog 148 #[.pointer (some ⟨b, 0, none⟩), .slice a1 n1 k1] W (WPost b W (Px.wrB one o2))) := fun W hF hW => i1 W _ _ u1 (s1.keep fun i hi => hF.low i hi) (l1.keep fun i hi => hF.low i hi) hW (g.fr hF) g1 (by omega)
  generalize Px.wrB one o2 = o3 at *
  have C3 : Hid (∀ W, WrAt W b o3 → Calls Tryz.prog 166 #[.pointer (some ⟨b, 0, none⟩), .slice (some ⟨W.heap.size, 0, none⟩) 1 1] (W.alloc (.cells #[.string ⟨#[101, 108, 115, 101]⟩] 9)) (WPost b W (Px.sgn o3 [101, 108, 115, 101]))) := fun W hW => put1 b ⟨#[101, 108, 115, 101]⟩ o3 W hW (by decide) (by show o3.length + 4 + 1 ≤ _; omega)
  generalize Px.sgn o3 [101, 108, 115, 101] = o4 at *
  have C4 : Hid (∀ W, FrW b w W → WrAt W b o4 → Calls Tryz.prog 148 #[.pointer (some ⟨b, 0, none⟩), .slice a2 u2.length k2] W (WPost b W (Px.wrB two o4))) := fun W hF hW => i2 W _ _ u2 (s2.keep fun i hi => hF.low i hi) (l2.keep fun i hi => hF.low i hi) hW (g.fr hF) g2 (by omega)
  generalize Px.wrB two o4 = o5 at *
  have HE : Hid (two.isEmpty = true ↔ u2.length = 0) := by
    unfold Hid
    rw [List.isEmpty_iff, hlen, List.length_eq_zero_iff]
  clear hc s1 l1 s2 l2 h g hg g1 g2 hl z1 z2 z3 z4 i1 i2 hr1 hr2 he hlen
  generalize u2.length = k at *
  by_cases hk : k = 0
  · rw [if_pos (HE.out.2 hk)]
    subst hk
    go_enter Tryz.func176, Tryz.ntmps176
    go_wp2_with fail
    refine C0.out.mono ?_
    rintro r w1 ⟨rfl, h1, f1⟩
    obtain ⟨d0, d1, d2, fd⟩ := cells3' (CQ.out w1 f1)
    have hR := CR.out w1 f1
    have hC := C1.out w1 f1 h1
    have L1 : Hid (_ ∧ _) := ⟨h1, f1⟩
    clear c0 c1 c2 fr h1 f1
    rcases hC with ⟨rfl, hC⟩ | ⟨rfl, hC⟩ | ⟨rfl, hC⟩ | ⟨rfl, hC⟩ | ⟨rfl, hC⟩
    all_goals
      go_wp2_with fail
      refine hC.mono ?_
      rintro r w2 ⟨rfl, h2, f2⟩
      obtain ⟨j0, j1, j2, fj⟩ := cells3' (CQ.out w2 (L1.out.2.trans f2))
      have L2 : Hid (WrAt w2 b o2 ∧ FrW b w w2) := ⟨h2, L1.out.2.trans f2⟩
      clear h2 f2 d0 d1 d2 fd hR hC
      go_wp2_with fail
      refine (C2.out _ L2.out.2 L2.out.1).mono ?_
      rintro r w3 ⟨rfl, h3, f3⟩
      obtain ⟨y0, y1, y2, fy⟩ := cells3' (CQ.out w3 (L2.out.2.trans f3))
      have L3 : Hid (WrAt w3 b o3 ∧ FrW b w w3) := ⟨h3, L2.out.2.trans f3⟩
      clear h3 f3 j0 j1 j2 fj
      go_wp2_with fail
      go_end0
      exact ⟨rfl, L3.out.1, L3.out.2⟩
  · rw [if_neg (fun x => hk (HE.out.1 x))]
    have hk0 : ¬ ((k : Int) ≤ 0) := by omega
    go_enter Tryz.func176, Tryz.ntmps176
    go_wp2_with fail
    refine C0.out.mono ?_
    rintro r w1 ⟨rfl, h1, f1⟩
    obtain ⟨d0, d1, d2, fd⟩ := cells3' (CQ.out w1 f1)
    have hR := CR.out w1 f1
    have hC := C1.out w1 f1 h1
    have L1 : Hid (_ ∧ _) := ⟨h1, f1⟩
    clear c0 c1 c2 fr h1 f1
    rcases hC with ⟨rfl, hC⟩ | ⟨rfl, hC⟩ | ⟨rfl, hC⟩ | ⟨rfl, hC⟩ | ⟨rfl, hC⟩
    all_goals
      go_wp2_with fail
      refine hC.mono ?_
      rintro r w2 ⟨rfl, h2, f2⟩
      obtain ⟨j0, j1, j2, fj⟩ := cells3' (CQ.out w2 (L1.out.2.trans f2))
      have L2 : Hid (WrAt w2 b o2 ∧ FrW b w w2) := ⟨h2, L1.out.2.trans f2⟩
      clear h2 f2 d0 d1 d2 fd hR hC
      go_wp2_with fail
      refine (C2.out _ L2.out.2 L2.out.1).mono ?_
      rintro r w3 ⟨rfl, h3, f3⟩
      obtain ⟨y0, y1, y2, fy⟩ := cells3' (CQ.out w3 (L2.out.2.trans f3))
      have L3 : Hid (WrAt w3 b o3 ∧ FrW b w w3) := ⟨h3, L2.out.2.trans f3⟩
      clear h3 f3 j0 j1 j2 fj
      go_wp2_with fail
      refine (C3.out _ L3.out.1).mono ?_
      rintro r w4 ⟨rfl, h4, f4⟩
      obtain ⟨x0, x1, x2, fx⟩ := cells3' (CQ.out w4 (L3.out.2.trans f4))
      have L4 : Hid (WrAt w4 b o4 ∧ FrW b w w4) := ⟨h4, L3.out.2.trans f4⟩
      clear h4 f4 y0 y1 y2 fy
      go_wp2_with fail
      refine (C4.out _ L4.out.2 L4.out.1).mono ?_
      rintro r w5 ⟨rfl, h5, f5⟩
      go_wp2_with fail
      go_end0
      exact ⟨rfl, h5, L4.out.2.trans f5⟩

end Lg
end Go.Proofs.YtcogbbneodihkaaGreatDoor

namespace Go.Proofs.YtcogbbneodihkaaGreatDoor
open Go.RowKit
namespace Ref

/-- What is printed so far, at block b. -/
def OutAt (w : World) (b : Nat) (o : List UInt8) : Prop := ∃ S : ByteArray, S.data.toList = o ∧ w.heap[b]? = some (.cells #[.string S] 47)

theorem gap_eq (S t : ByteArray) (hS : 0 < S.size) (ht : 0 < t.size) : Px.gap S.data.toList t.data.toList = (Px.inRow S[S.size - 1] && Px.inRow t[0]) := by
  have h1 : S.data.toList.getLast? = some S[S.size - 1] := by
    rw [List.getLast?_eq_getElem?]
    show S.data.toList[S.data.toList.length - 1]? = _
    rw [List.getElem?_eq_getElem (by show S.size - 1 < S.size; omega)]
    rfl
  have h2 : t.data.toList.head? = some t[0] := by
    rw [List.head?_eq_getElem?, List.getElem?_eq_getElem (by show 0 < t.size; exact ht)]
    rfl
  unfold Px.gap
  rw [h1, h2]
theorem gap_nil (S t : ByteArray) (hS : S.size = 0) : Px.gap S.data.toList t.data.toList = false := by
  have h1 : S.data.toList = [] := List.length_eq_zero_iff.1 hS
  unfold Px.gap
  rw [h1]
  rfl

theorem cell1 {w : World} {k : Nat} {a : Value} {t : TypeId} (hh : w.heap[k]? = some (.cells #[a] t)) : w.cell? ⟨k, 0, none⟩ = some a ∧ ∀ o, w.frozen? ⟨k, o, none⟩ = false := by
  refine ⟨?_, ?_⟩ <;> simp [World.cell?, World.frozen?, hh]

theorem out_set {w : World} {b : Nat} {S : ByteArray} {x : Value} (h : w.heap[b]? = some (.cells #[x] 47)) : OutAt (w.setCell ⟨b, 0, none⟩ (.string S)) b S.data.toList :=
  ⟨S, rfl, by rw [heap_set _ h]; simp⟩

set_option maxRecDepth 100000 in
set_option maxHeartbeats 4000000 in
theorem outSign_any (b : Nat) (o : List UInt8) (t : ByteArray) (w : World) (h : OutAt w b o) (ht : 0 < t.size) (hl : o.length + t.size ≤ 1000000000) :
    Calls Tryz.prog 36 #[.pointer (some ⟨b, 0, none⟩), .string t] w fun e w' => e = .returned (.tuple #[]) ∧ OutAt w' b (Px.sgn o t.data.toList) ∧ Kp b w w' := by
  obtain ⟨S, rfl, hb⟩ := h
  obtain ⟨c0, fr⟩ := cell1 hb
  have hsz : S.data.toList.length = S.size := rfl
  rw [hsz] at hl
  have YES : Hid (Px.gap S.data.toList t.data.toList = true → OutAt ((w.setCell ⟨b, 0, none⟩ (.string (S ++ ⟨#[32]⟩))).setCell ⟨b, 0, none⟩ (.string (S ++ ⟨#[32]⟩ ++ t))) b (Px.sgn S.data.toList t.data.toList)) := fun hg => by
    have := out_set (S := S ++ ⟨#[32]⟩ ++ t) (heap_set (o := 0) (.string (S ++ ⟨#[32]⟩)) hb)
    have e1 : (S ++ ⟨#[32]⟩ ++ t).data.toList = Px.sgn S.data.toList t.data.toList := by unfold Px.sgn; rw [if_pos hg]; simp
    rw [e1] at this
    exact this
  have NO : Hid (Px.gap S.data.toList t.data.toList = false → OutAt (w.setCell ⟨b, 0, none⟩ (.string (S ++ t))) b (Px.sgn S.data.toList t.data.toList)) := fun hg => by
    have := out_set (S := S ++ t) hb
    have e1 : (S ++ t).data.toList = Px.sgn S.data.toList t.data.toList := by unfold Px.sgn; rw [if_neg (by simp [hg])]; simp
    rw [e1] at this
    exact this
  clear hb
  by_cases h0 : S.size = 0
  · have hg := gap_nil S t h0
    have t0 : ¬ (0 : Int) < S.size := by omega
    go_enter Tryz.func36, Tryz.ntmps36
    go_wp2_with fail
    go_end0
    exact ⟨rfl, NO.out hg, (Kp.refl b _).setB _⟩
  · have hpos : 0 < S.size := by omega
    have hg := gap_eq S t hpos ht
    have t0 : (0 : Int) < S.size := by omega
    obtain ⟨k, hk⟩ : ∃ k, S.size = k + 1 := ⟨S.size - 1, by omega⟩
    have hk1 : k < S.size := by omega
    have hk2 : S.size - 1 = k := by omega
    simp only [hk2] at hg
    have t1 : (S.size : Int) - 1 = k := by omega
    go_enter Tryz.func36, Tryz.ntmps36
    cases a1 : Px.isSmall S[k]
    · go_wp2_with fail
      refine (small_any S[k] _).mono ?_
      rintro e w1 ⟨rfl, rfl⟩
      rw [a1]
      cases a2 : Px.isDig S[k]
      · go_wp2_with fail
        refine (digit_any S[k] _).mono ?_
        rintro e w1 ⟨rfl, rfl⟩
        rw [a2]
        go_wp2_with fail
        go_end0
        exact ⟨rfl, NO.out (by rw [hg]; unfold Px.inRow; simp [a1, a2]), (Kp.refl b _).setB _⟩
      · go_wp2_with fail
        refine (digit_any S[k] _).mono ?_
        rintro e w1 ⟨rfl, rfl⟩
        rw [a2]
        cases b1 : Px.isSmall t[0]
        · go_wp2_with fail
          refine (small_any t[0] _).mono ?_
          rintro e w1 ⟨rfl, rfl⟩
          rw [b1]
          cases b2 : Px.isDig t[0]
          · go_wp2_with fail
            refine (digit_any t[0] _).mono ?_
            rintro e w1 ⟨rfl, rfl⟩
            rw [b2]
            go_wp2_with fail
            go_end0
            exact ⟨rfl, NO.out (by rw [hg]; unfold Px.inRow; simp [a1, a2, b1, b2]), (Kp.refl b _).setB _⟩
          · go_wp2_with fail
            refine (digit_any t[0] _).mono ?_
            rintro e w1 ⟨rfl, rfl⟩
            rw [b2]
            go_wp2_with fail
            go_end0
            exact ⟨rfl, YES.out (by rw [hg]; unfold Px.inRow; simp [a1, a2, b1, b2]), ((Kp.refl b _).setB _).setB _⟩
        · go_wp2_with fail
          refine (small_any t[0] _).mono ?_
          rintro e w1 ⟨rfl, rfl⟩
          rw [b1]
          go_wp2_with fail
          go_end0
          exact ⟨rfl, YES.out (by rw [hg]; unfold Px.inRow; simp [a1, a2, b1]), ((Kp.refl b _).setB _).setB _⟩
    · go_wp2_with fail
      refine (small_any S[k] _).mono ?_
      rintro e w1 ⟨rfl, rfl⟩
      rw [a1]
      cases b1 : Px.isSmall t[0]
      · go_wp2_with fail
        refine (small_any t[0] _).mono ?_
        rintro e w1 ⟨rfl, rfl⟩
        rw [b1]
        cases b2 : Px.isDig t[0]
        · go_wp2_with fail
          refine (digit_any t[0] _).mono ?_
          rintro e w1 ⟨rfl, rfl⟩
          rw [b2]
          go_wp2_with fail
          go_end0
          exact ⟨rfl, NO.out (by rw [hg]; unfold Px.inRow; simp [a1, b1, b2]), (Kp.refl b _).setB _⟩
        · go_wp2_with fail
          refine (digit_any t[0] _).mono ?_
          rintro e w1 ⟨rfl, rfl⟩
          rw [b2]
          go_wp2_with fail
          go_end0
          exact ⟨rfl, YES.out (by rw [hg]; unfold Px.inRow; simp [a1, b1, b2]), ((Kp.refl b _).setB _).setB _⟩
      · go_wp2_with fail
        refine (small_any t[0] _).mono ?_
        rintro e w1 ⟨rfl, rfl⟩
        rw [b1]
        go_wp2_with fail
        go_end0
        exact ⟨rfl, YES.out (by rw [hg]; unfold Px.inRow; simp [a1, b1]), ((Kp.refl b _).setB _).setB _⟩

end Ref
end Go.Proofs.YtcogbbneodihkaaGreatDoor

namespace Go.Proofs.YtcogbbneodihkaaGreatDoor
open Go.RowKit
namespace Ref

def DecPost (n : Nat) (w : World) (e : Ending) (w' : World) : Prop := ∃ S : ByteArray, e = .returned (.string S) ∧ S.data.toList = Px.dec n ∧ Below w.heap.size w w'

set_option maxRecDepth 100000 in
theorem dec_small (n : Nat) (hn : n < 10) (w : World) : Calls Tryz.prog 40 #[.int .i64 (n : Int)] w (DecPost n w) := by
  have t1 : (n : Int) < 10 := by omega
  have hd : ((Px.digit n).toNat : Int) = 48 + n := by
    unfold Px.digit
    rw [UInt8.toNat_ofNat_of_lt' (by show 48 + n < 256; omega)]
    omega
  have hcv : (convert 62 9 (.slice (some ⟨w.heap.size, 0, none⟩) 1 1)).run Tryz.prog (w.alloc (.cells #[.int .u8 (48 + (n : Int))] 5)) = .ok (.string ⟨#[Px.digit n]⟩) (w.alloc (.cells #[.int .u8 (48 + (n : Int))] 5)) := run_convert_bytes_back (P := Tryz.prog) (w.alloc (.cells #[.int .u8 (48 + (n : Int))] 5)) 62 9 5 ⟨w.heap.size, 0, none⟩ 1 [Px.digit n] Tryz.underlying62 Tryz.underlying5 Tryz.underlying9 (by
    intro j hj
    have : j = 0 := by simpa using hj
    subst this
    simp [Addr.add, hd])
  have hdec : Px.dec n = [Px.digit n] := by rw [Px.dec_rec, if_pos hn]
  go_enter Tryz.func40, Tryz.ntmps40
  go_wp2_with fail
  go_ret
  exact ⟨_, rfl, by rw [hdec], (Below.refl _ _).alloc (Nat.le_refl _) _⟩

set_option maxRecDepth 100000 in
theorem dec_any (n : Nat) (hn : n ≤ 9999) : ∀ w : World, Calls Tryz.prog 40 #[.int .i64 (n : Int)] w (DecPost n w) := by
  induction n using Nat.strongRecOn with
  | ind n ih =>
    intro w
    by_cases h : n < 10
    · exact dec_small n h w
    · have t1 : ¬ (n : Int) < 10 := by omega
      have HI : Hid (∀ W, Calls Tryz.prog 40 #[.int .i64 ((n / 10 : Nat) : Int)] W (DecPost (n / 10) W)) := ih (n / 10) (by omega) (by omega)
      have HR : Hid (∀ W, Calls Tryz.prog 40 #[.int .i64 ((n % 10 : Nat) : Int)] W (DecPost (n % 10) W)) := dec_small (n % 10) (by omega)
      clear ih
      go_enter Tryz.func40, Tryz.ntmps40
      have e1 : Hid ((n : Int) / 10 = ((n / 10 : Nat) : Int)) := by unfold Hid; omega
      have e2 : Hid ((n : Int) % 10 = ((n % 10 : Nat) : Int)) := by unfold Hid; omega
      have hdec : Px.dec n = Px.dec (n / 10) ++ [Px.digit (n % 10)] := by rw [Px.dec_rec, if_neg h]
      have hd1 : Px.dec (n % 10) = [Px.digit (n % 10)] := by rw [Px.dec_rec, if_pos (by omega)]
      have hlen := Px.dec_len (n / 10)
      go_wp2_with fail
      rw [e1.out]
      refine (HI.out _).mono ?_
      rintro e w1 ⟨S, rfl, hS, b1⟩
      go_wp2_with fail
      rw [e2.out]
      refine (HR.out _).mono ?_
      rintro e w2 ⟨T, rfl, hT, b2⟩
      have z1 : S.size = (Px.dec (n / 10)).length := by rw [← hS]; rfl
      have z2 : T.size = 1 := by
        have : T.data.toList.length = 1 := by rw [hT, hd1]; rfl
        exact this
      have z3 : (S.size : Int) + T.size ≤ 20000 := by omega
      have hF : Hid ((S ++ T).data.toList = Px.dec n) := by unfold Hid; rw [ByteArray.data_append, Array.toList_append, hS, hT, hdec, hd1]
      have hB : Hid (Below w.heap.size w w2) := b1.trans (b2.mono b1.size)
      clear b1 b2 hS hT
      go_wp2_with fail
      go_ret
      exact ⟨_, rfl, hF.out, hB.out⟩

set_option maxRecDepth 100000 in
theorem level_any (q : Nat) (x : Px.Ex) (ok : Nat → Prop) (w : World) (h : ExAt w x ok q) : Calls Tryz.prog 62 #[.pointer (some ⟨q, 0, none⟩)] w fun e w' => e = .returned (.int .i64 (Px.lvl x.op : Int)) ∧ w' = w := by
  obtain ⟨hq, v, hv⟩ := h.root
  have c0 : w.cell? ⟨q, 0, none⟩ = some (.int .u8 (x.op : Int)) := by simp [World.cell?, hv]
  clear h hv
  generalize x.op = op at *
  by_cases h1 : op = 60 ∨ op = 61 ∨ op = 35 ∨ op = 43 ∨ op = 45 ∨ op = 42 ∨ op = 47
  · rcases h1 with rfl | rfl | rfl | rfl | rfl | rfl | rfl
    all_goals
      go_enter Tryz.func62, Tryz.ntmps62
      go_wp2_with fail
      go_ret
      exact ⟨rfl, rfl⟩
  · have hl : Px.lvl op = 4 := by unfold Px.lvl; rw [if_neg (by omega), if_neg (by omega), if_neg (by omega)]
    have o1 : ((op : Int) == 60) = false := by rw [beq_eq_false_iff_ne]; omega
    have o2 : ((op : Int) == 61) = false := by rw [beq_eq_false_iff_ne]; omega
    have o3 : ((op : Int) == 35) = false := by rw [beq_eq_false_iff_ne]; omega
    have o4 : ((op : Int) == 43) = false := by rw [beq_eq_false_iff_ne]; omega
    have o5 : ((op : Int) == 45) = false := by rw [beq_eq_false_iff_ne]; omega
    have o6 : ((op : Int) == 42) = false := by rw [beq_eq_false_iff_ne]; omega
    have o7 : ((op : Int) == 47) = false := by rw [beq_eq_false_iff_ne]; omega
    rw [hl]
    go_enter Tryz.func62, Tryz.ntmps62
    go_wp2_with fail
    go_ret
    exact ⟨rfl, rfl⟩

end Ref
end Go.Proofs.YtcogbbneodihkaaGreatDoor
