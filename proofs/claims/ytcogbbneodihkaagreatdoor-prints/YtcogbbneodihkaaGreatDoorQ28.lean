import Derived.Test.YtcogbbneodihkaaGreatDoorQ20
import Derived.Test.YtcogbbneodihkaaGreatDoorQ21
import Derived.Test.YtcogbbneodihkaaGreatDoorQ22
import Derived.Test.YtcogbbneodihkaaGreatDoorQ23
import Derived.Test.YtcogbbneodihkaaGreatDoorQ24
import Derived.Test.YtcogbbneodihkaaGreatDoorQ25
import Derived.Test.YtcogbbneodihkaaGreatDoorQ26
import Derived.Test.YtcogbbneodihkaaGreatDoorQ27
namespace Go.Proofs.YtcogbbneodihkaaGreatDoor
open Go.RowKit
namespace Lg

set_option maxRecDepth 100000 in
set_option maxHeartbeats 4000000 in
theorem call_write111 (b q qn n qs : Nat) (word undo asw : ByteArray) (pa : Option Addr) (o o1 o2 o3 o4 o5 o6 o7 o8 : List UInt8) (w : World) (h : WrAt w b o) (CQ : Hid (∀ W, FrW b w W → W.heap[q]? = some (.cells #[.string word, .pointer pa, .pointer (some ⟨qs, 0, none⟩), .string undo, .pointer (some ⟨qn, 0, none⟩)] 183))) (CN : Hid (∀ W, FrW b w W → W.cell? ⟨qn, 0, none⟩ = some (.int .i64 (n : Int)))) (C0 : Hid (∀ W, WrAt W b o → Calls Tryz.prog 166 #[.pointer (some ⟨b, 0, none⟩), .slice (some ⟨W.heap.size, 0, none⟩) 3 3] (W.alloc (.cells #[.string ⟨#[99, 97, 108, 108]⟩, .string word, .string ⟨#[40]⟩] 9)) (WPost b W o1))) (CA : ArgW b w pa o1 o2) (C3 : Hid (∀ W, WrAt W b o2 → Calls Tryz.prog 166 #[.pointer (some ⟨b, 0, none⟩), .slice (some ⟨W.heap.size, 0, none⟩) 1 1] (W.alloc (.cells #[.string ⟨#[41]⟩] 9)) (WPost b W o3))) (CS : Hid (∀ W, FrW b w W → W.cell? ⟨qs, 0, none⟩ = some (.string asw))) (C4 : Hid (∀ W, WrAt W b o3 → Calls Tryz.prog 166 #[.pointer (some ⟨b, 0, none⟩), .slice (some ⟨W.heap.size, 0, none⟩) 2 2] (W.alloc (.cells #[.string ⟨#[97, 115]⟩, .string asw] 9)) (WPost b W o4))) (hu : (!undo.toList.isEmpty) = true) (C5 : Hid (∀ W, WrAt W b o4 → Calls Tryz.prog 166 #[.pointer (some ⟨b, 0, none⟩), .slice (some ⟨W.heap.size, 0, none⟩) 2 2] (W.alloc (.cells #[.string ⟨#[117, 110, 100, 111]⟩, .string undo] 9)) (WPost b W o5))) (hn : n ≠ 1) (C6 : Hid (∀ W, WrAt W b o5 → Calls Tryz.prog 166 #[.pointer (some ⟨b, 0, none⟩), .slice (some ⟨W.heap.size, 0, none⟩) 1 1] (W.alloc (.cells #[.string ⟨#[116, 114, 105, 101, 115]⟩] 9)) (WPost b W o6))) (C7 : Hid (∀ W, FrW b w W → WrAt W b o6 → Calls Tryz.prog 174 #[.pointer (some ⟨qn, 0, none⟩), .pointer (some ⟨b, 0, none⟩)] W (WPost b W o7))) (C8 : Hid (∀ W, WrAt W b o7 → Calls Tryz.prog 166 #[.pointer (some ⟨b, 0, none⟩), .slice (some ⟨W.heap.size, 0, none⟩) 1 1] (W.alloc (.cells #[.string ⟨#[59]⟩] 9)) (WPost b W o8))) :
    Calls Tryz.prog 171 #[.pointer (some ⟨q, 0, none⟩), .pointer (some ⟨b, 0, none⟩)] w (WPost b w o8) := by
  have m1 := xNum
  have m2 := xVar
  have m3 := xTru
  have m4 := xNot
  have m5 := xPair
  have hn1 : ((n : Int) != 1) = true := by rw [bne_iff_ne]; omega
  have E0 : Hid (_) := C0.out w h
  clear h
  rcases CA with ⟨rfl, rfl⟩ | ⟨qa, tl, ql, rfl, CR, CW⟩
  · obtain ⟨c1_0, c1_1, c1_2, c1_3, c1_4, c1_f⟩ := cells5 (CQ.out w (FrW.refl _ _))
    have n1 := CN.out w (FrW.refl _ _)
    have s1 := CS.out w (FrW.refl _ _)
    go_enter Tryz.func171, Tryz.ntmps171
    go_wp2_with fail
    refine Calls.mono E0.out ?_
    rintro r w2 ⟨rfl, h1, f1⟩
    have L2 : Hid (WrAt w2 b o2 ∧ FrW b w w2) := ⟨h1, f1⟩
    clear h1 f1 c1_0 c1_1 c1_2 c1_3 c1_4 c1_f n1 s1
    obtain ⟨c2_0, c2_1, c2_2, c2_3, c2_4, c2_f⟩ := cells5 (CQ.out w2 L2.out.2)
    have n2 := CN.out w2 L2.out.2
    have s2 := CS.out w2 L2.out.2
    go_wp2_with fail
    refine (C3.out _ L2.out.1).mono ?_
    rintro r w3 ⟨rfl, h9, f9⟩
    have L3 : Hid (WrAt w3 b o3 ∧ FrW b w w3) := ⟨h9, L2.out.2.trans f9⟩
    clear h9 f9
    obtain ⟨c3_0, c3_1, c3_2, c3_3, c3_4, c3_f⟩ := cells5 (CQ.out w3 L3.out.2)
    have n3 := CN.out w3 L3.out.2
    have s3 := CS.out w3 L3.out.2
    go_wp2_with fail
    refine (C4.out _ L3.out.1).mono ?_
    rintro r w4 ⟨rfl, h9, f9⟩
    have L4 : Hid (WrAt w4 b o4 ∧ FrW b w w4) := ⟨h9, L3.out.2.trans f9⟩
    clear h9 f9
    clear c3_0 c3_1 c3_2 c3_3 c3_4 c3_f n3 s3
    obtain ⟨c4_0, c4_1, c4_2, c4_3, c4_4, c4_f⟩ := cells5 (CQ.out w4 L4.out.2)
    have n4 := CN.out w4 L4.out.2
    have s4 := CS.out w4 L4.out.2
    go_wp2_with fail
    refine (C5.out _ L4.out.1).mono ?_
    rintro r w5 ⟨rfl, h9, f9⟩
    have L5 : Hid (WrAt w5 b o5 ∧ FrW b w w5) := ⟨h9, L4.out.2.trans f9⟩
    clear h9 f9
    clear c4_0 c4_1 c4_2 c4_3 c4_4 c4_f n4 s4
    obtain ⟨c5_0, c5_1, c5_2, c5_3, c5_4, c5_f⟩ := cells5 (CQ.out w5 L5.out.2)
    have n5 := CN.out w5 L5.out.2
    have s5 := CS.out w5 L5.out.2
    go_wp2_with fail
    refine (C6.out _ L5.out.1).mono ?_
    rintro r w6 ⟨rfl, h9, f9⟩
    have L6 : Hid (WrAt w6 b o6 ∧ FrW b w w6) := ⟨h9, L5.out.2.trans f9⟩
    clear h9 f9
    clear c5_0 c5_1 c5_2 c5_3 c5_4 c5_f n5 s5
    obtain ⟨c6_0, c6_1, c6_2, c6_3, c6_4, c6_f⟩ := cells5 (CQ.out w6 L6.out.2)
    have n6 := CN.out w6 L6.out.2
    have s6 := CS.out w6 L6.out.2
    go_wp2_with fail
    refine (C7.out _ L6.out.2 L6.out.1).mono ?_
    rintro r w7 ⟨rfl, h9, f9⟩
    have L7 : Hid (WrAt w7 b o7 ∧ FrW b w w7) := ⟨h9, L6.out.2.trans f9⟩
    clear h9 f9
    clear c6_0 c6_1 c6_2 c6_3 c6_4 c6_f n6 s6
    obtain ⟨c7_0, c7_1, c7_2, c7_3, c7_4, c7_f⟩ := cells5 (CQ.out w7 L7.out.2)
    have n7 := CN.out w7 L7.out.2
    have s7 := CS.out w7 L7.out.2
    go_wp2_with fail
    refine (C8.out _ L7.out.1).mono ?_
    rintro r w8 ⟨rfl, h9, f9⟩
    have L8 : Hid (WrAt w8 b o8 ∧ FrW b w w8) := ⟨h9, L7.out.2.trans f9⟩
    clear h9 f9
    clear c7_0 c7_1 c7_2 c7_3 c7_4 c7_f n7 s7
    go_wp2_with fail
    go_end0
    exact ⟨rfl, L8.out.1, L8.out.2⟩
  · obtain ⟨c8_0, c8_1, c8_2, c8_3, c8_4, c8_f⟩ := cells5 (CQ.out w (FrW.refl _ _))
    have n8 := CN.out w (FrW.refl _ _)
    have s8 := CS.out w (FrW.refl _ _)
    go_enter Tryz.func171, Tryz.ntmps171
    go_wp2_with fail
    refine Calls.mono E0.out ?_
    rintro r w1 ⟨rfl, h1, f1⟩
    have L1 : Hid (WrAt w1 b o1 ∧ FrW b w w1) := ⟨h1, f1⟩
    have hC := CW.out w1 f1 h1
    have hR := CR.out w1 f1
    clear h1 f1 c8_0 c8_1 c8_2 c8_3 c8_4 c8_f n8 s8
    obtain ⟨c9_0, c9_1, c9_2, c9_3, c9_4, c9_f⟩ := cells5 (CQ.out w1 L1.out.2)
    have n9 := CN.out w1 L1.out.2
    have s9 := CS.out w1 L1.out.2
    rcases hC with ⟨rfl, hC⟩ | ⟨rfl, hC⟩ | ⟨rfl, hC⟩ | ⟨rfl, hC⟩ | ⟨rfl, hC⟩
    all_goals
      go_wp2_with fail
      refine hC.mono ?_
      rintro r w2 ⟨rfl, h2, f2⟩
      have L2 : Hid (WrAt w2 b o2 ∧ FrW b w w2) := ⟨h2, L1.out.2.trans f2⟩
      clear h2 f2 hC hR c9_0 c9_1 c9_2 c9_3 c9_4 c9_f n9 s9
      obtain ⟨c10_0, c10_1, c10_2, c10_3, c10_4, c10_f⟩ := cells5 (CQ.out w2 L2.out.2)
      have n10 := CN.out w2 L2.out.2
      have s10 := CS.out w2 L2.out.2
      go_wp2_with fail
      refine (C3.out _ L2.out.1).mono ?_
      rintro r w3 ⟨rfl, h9, f9⟩
      have L3 : Hid (WrAt w3 b o3 ∧ FrW b w w3) := ⟨h9, L2.out.2.trans f9⟩
      clear h9 f9
      obtain ⟨c11_0, c11_1, c11_2, c11_3, c11_4, c11_f⟩ := cells5 (CQ.out w3 L3.out.2)
      have n11 := CN.out w3 L3.out.2
      have s11 := CS.out w3 L3.out.2
      go_wp2_with fail
      refine (C4.out _ L3.out.1).mono ?_
      rintro r w4 ⟨rfl, h9, f9⟩
      have L4 : Hid (WrAt w4 b o4 ∧ FrW b w w4) := ⟨h9, L3.out.2.trans f9⟩
      clear h9 f9
      clear c11_0 c11_1 c11_2 c11_3 c11_4 c11_f n11 s11
      obtain ⟨c12_0, c12_1, c12_2, c12_3, c12_4, c12_f⟩ := cells5 (CQ.out w4 L4.out.2)
      have n12 := CN.out w4 L4.out.2
      have s12 := CS.out w4 L4.out.2
      go_wp2_with fail
      refine (C5.out _ L4.out.1).mono ?_
      rintro r w5 ⟨rfl, h9, f9⟩
      have L5 : Hid (WrAt w5 b o5 ∧ FrW b w w5) := ⟨h9, L4.out.2.trans f9⟩
      clear h9 f9
      clear c12_0 c12_1 c12_2 c12_3 c12_4 c12_f n12 s12
      obtain ⟨c13_0, c13_1, c13_2, c13_3, c13_4, c13_f⟩ := cells5 (CQ.out w5 L5.out.2)
      have n13 := CN.out w5 L5.out.2
      have s13 := CS.out w5 L5.out.2
      go_wp2_with fail
      refine (C6.out _ L5.out.1).mono ?_
      rintro r w6 ⟨rfl, h9, f9⟩
      have L6 : Hid (WrAt w6 b o6 ∧ FrW b w w6) := ⟨h9, L5.out.2.trans f9⟩
      clear h9 f9
      clear c13_0 c13_1 c13_2 c13_3 c13_4 c13_f n13 s13
      obtain ⟨c14_0, c14_1, c14_2, c14_3, c14_4, c14_f⟩ := cells5 (CQ.out w6 L6.out.2)
      have n14 := CN.out w6 L6.out.2
      have s14 := CS.out w6 L6.out.2
      go_wp2_with fail
      refine (C7.out _ L6.out.2 L6.out.1).mono ?_
      rintro r w7 ⟨rfl, h9, f9⟩
      have L7 : Hid (WrAt w7 b o7 ∧ FrW b w w7) := ⟨h9, L6.out.2.trans f9⟩
      clear h9 f9
      clear c14_0 c14_1 c14_2 c14_3 c14_4 c14_f n14 s14
      obtain ⟨c15_0, c15_1, c15_2, c15_3, c15_4, c15_f⟩ := cells5 (CQ.out w7 L7.out.2)
      have n15 := CN.out w7 L7.out.2
      have s15 := CS.out w7 L7.out.2
      go_wp2_with fail
      refine (C8.out _ L7.out.1).mono ?_
      rintro r w8 ⟨rfl, h9, f9⟩
      have L8 : Hid (WrAt w8 b o8 ∧ FrW b w w8) := ⟨h9, L7.out.2.trans f9⟩
      clear h9 f9
      clear c15_0 c15_1 c15_2 c15_3 c15_4 c15_f n15 s15
      go_wp2_with fail
      go_end0
      exact ⟨rfl, L8.out.1, L8.out.2⟩

end Lg
end Go.Proofs.YtcogbbneodihkaaGreatDoor

namespace Go.Proofs.YtcogbbneodihkaaGreatDoor
open Go.RowKit
namespace Lg

theorem call_write (b q qn n nPl asPl : Nat) (word undo asw : ByteArray) (pa ps : Option Addr) (ex : Option Px.Ex) (he : ∀ e, ex = some e → Px.WfE e) (o : List UInt8) (w : World) (hq : q < b) (hc : w.heap[q]? = some (.cells #[.string word, .pointer pa, .pointer ps, .string undo, Ref.ptr qn] 183)) (ha : ArgAt w ex (· < b) (.pointer pa)) (hs : AsAt w asw asPl (· < b) (.pointer ps)) (hn : NumAt w n nPl (· < b) qn) (h : WrAt w b o) (g : Gp w b) (hge : Px.GdO ex) (hw : 0 < word.size) (hn9 : n ≤ 9999) (hl : o.length + word.size + Px.szO ex + asw.size + undo.size + n + 100 ≤ 1000000000) :
    Calls Tryz.prog 171 #[.pointer (some ⟨q, 0, none⟩), .pointer (some ⟨b, 0, none⟩)] w (WPost b w (Px.sgn (Px.wrTries n (Px.wrUndo undo (Px.wrAs asw (Px.sgn (Px.wrArg ex (Px.sgn (Px.sgn (Px.sgn o [99, 97, 108, 108]) word.data.toList) [40])) [41])))) [59])) := by
  have CQ : Hid (∀ W, FrW b w W → W.heap[q]? = some (.cells #[.string word, .pointer pa, .pointer ps, .string undo, .pointer (some ⟨qn, 0, none⟩)] 183)) := fun W hF => by rw [hF.low q hq]; exact hc
  have CN : ∀ W, FrW b w W → W.cell? ⟨qn, 0, none⟩ = some (.int .i64 (n : Int)) := fun W hF => by
    have := (hn.keep fun i hi => hF.low i hi).2
    simp [World.cell?, this]
  have zw : word.data.toList.length = word.size := rfl
  have za : asw.data.toList.length = asw.size := rfl
  have zu : undo.data.toList.length = undo.size := rfl
  have z1 := Px.sgn_len o [99, 97, 108, 108]
  have z2 := Px.sgn_len (Px.sgn o [99, 97, 108, 108]) word.data.toList
  have z3 := Px.sgn_len (Px.sgn (Px.sgn o [99, 97, 108, 108]) word.data.toList) [40]
  simp only [List.length_cons, List.length_nil] at z1 z3
  have C0 : Hid (∀ W, WrAt W b o → Calls Tryz.prog 166 #[.pointer (some ⟨b, 0, none⟩), .slice (some ⟨W.heap.size, 0, none⟩) 3 3] (W.alloc (.cells #[.string ⟨#[99, 97, 108, 108]⟩, .string word, .string ⟨#[40]⟩] 9)) (WPost b W (Px.sgn (Px.sgn (Px.sgn o [99, 97, 108, 108]) word.data.toList) [40]))) := fun W hW => put3 b ⟨#[99, 97, 108, 108]⟩ word ⟨#[40]⟩ o W hW (by decide) hw (by decide) (by show o.length + 4 + word.size + 1 + 3 ≤ _; omega)
  generalize Px.sgn (Px.sgn (Px.sgn o [99, 97, 108, 108]) word.data.toList) [40] = o1 at *
  have z4 := Px.wrArg_len ex o1
  have CA : ArgW b w pa o1 (Px.wrArg ex o1) := by
    cases ex with
    | none =>
      have : Value.pointer pa = .pointer none := ha
      cases this
      exact Or.inl ⟨rfl, rfl⟩
    | some e =>
      obtain ⟨qa, h1, hqa, tl, ql, h2, h3⟩ := ha
      cases h1
      refine Or.inr ⟨qa, tl, ql, rfl, fun W hF => ?_, fun W hF hW => wr_ok b e (he e rfl) W _ tl ql (h3.keep fun i hi => hF.low i hi) hW (g.fr hF) (hge e rfl) (by rw [Px.szO] at hl; omega)⟩
      rw [World.cell?_of_block (w := w) (hF.low qa hqa)]
      simp [World.cell?, h2]
      rfl
  generalize Px.wrArg ex o1 = o2 at *
  have z5 := Px.sgn_len o2 [41]
  simp only [List.length_cons, List.length_nil] at z5
  have C3 : Hid (∀ W, WrAt W b o2 → Calls Tryz.prog 166 #[.pointer (some ⟨b, 0, none⟩), .slice (some ⟨W.heap.size, 0, none⟩) 1 1] (W.alloc (.cells #[.string ⟨#[41]⟩] 9)) (WPost b W (Px.sgn o2 [41]))) := fun W hW => put1 b ⟨#[41]⟩ o2 W hW (by decide) (by show o2.length + 1 + 1 ≤ _; omega)
  generalize Px.sgn o2 [41] = o3 at *
  have z6 := Px.wrAs_len asw o3
  have CB : (ps = none ∧ Px.wrAs asw o3 = o3) ∨ ∃ qs, ps = some ⟨qs, 0, none⟩ ∧ Hid (∀ W, FrW b w W → W.cell? ⟨qs, 0, none⟩ = some (.string asw)) ∧ Hid (∀ W, WrAt W b o3 → Calls Tryz.prog 166 #[.pointer (some ⟨b, 0, none⟩), .slice (some ⟨W.heap.size, 0, none⟩) 2 2] (W.alloc (.cells #[.string ⟨#[97, 115]⟩, .string asw] 9)) (WPost b W (Px.wrAs asw o3))) := by
    rcases hs with ⟨h1, h2⟩ | ⟨h1, qs, h2, h3⟩
    · cases h2
      exact Or.inl ⟨rfl, by unfold Px.wrAs; rw [if_pos h1]⟩
    · cases h2
      refine Or.inr ⟨qs, rfl, fun W hF => ?_, fun W hW => ?_⟩
      · have := (h3.keep fun i hi => hF.low i hi).2
        simp [World.cell?, this]
      · unfold Px.wrAs
        rw [if_neg (by omega)]
        exact put2 b ⟨#[97, 115]⟩ asw o3 W hW (by decide) h1 (by show o3.length + 2 + asw.size + 2 ≤ _; omega)
  generalize Px.wrAs asw o3 = o4 at *
  have z7 := Px.wrUndo_len undo o4
  have CU : ((!undo.toList.isEmpty) = false ∧ Px.wrUndo undo o4 = o4) ∨ ((!undo.toList.isEmpty) = true ∧ Hid (∀ W, WrAt W b o4 → Calls Tryz.prog 166 #[.pointer (some ⟨b, 0, none⟩), .slice (some ⟨W.heap.size, 0, none⟩) 2 2] (W.alloc (.cells #[.string ⟨#[117, 110, 100, 111]⟩, .string undo] 9)) (WPost b W (Px.wrUndo undo o4)))) := by
    by_cases h0 : undo.size = 0
    · exact Or.inl ⟨un_none h0, by unfold Px.wrUndo; rw [if_pos h0]⟩
    · refine Or.inr ⟨un_some (by omega), fun W hW => ?_⟩
      unfold Px.wrUndo
      rw [if_neg h0]
      exact put2 b ⟨#[117, 110, 100, 111]⟩ undo o4 W hW (by decide) (by omega) (by show o4.length + 4 + undo.size + 2 ≤ _; omega)
  generalize Px.wrUndo undo o4 = o5 at *
  have z8 := Px.wrTries_len n o5
  have z9 := Px.sgn_len o5 [116, 114, 105, 101, 115]
  simp only [List.length_cons, List.length_nil] at z9
  have CT : (n = 1 ∧ Px.wrTries n o5 = o5) ∨ (n ≠ 1 ∧ ∃ o6, Hid (∀ W, WrAt W b o5 → Calls Tryz.prog 166 #[.pointer (some ⟨b, 0, none⟩), .slice (some ⟨W.heap.size, 0, none⟩) 1 1] (W.alloc (.cells #[.string ⟨#[116, 114, 105, 101, 115]⟩] 9)) (WPost b W o6)) ∧ Hid (∀ W, FrW b w W → WrAt W b o6 → Calls Tryz.prog 174 #[.pointer (some ⟨qn, 0, none⟩), .pointer (some ⟨b, 0, none⟩)] W (WPost b W (Px.wrTries n o5)))) := by
    by_cases h1 : n = 1
    · exact Or.inl ⟨h1, by unfold Px.wrTries; rw [if_pos h1]⟩
    · refine Or.inr ⟨h1, Px.sgn o5 [116, 114, 105, 101, 115], fun W hW => put1 b ⟨#[116, 114, 105, 101, 115]⟩ o5 W hW (by decide) (by show o5.length + 5 + 1 ≤ _; omega), fun W hF hW => ?_⟩
      unfold Px.wrTries
      rw [if_neg h1]
      exact number_write b qn n _ _ W hn.1 ((hn.keep fun i hi => hF.low i hi).2) hW (g.fr hF) hn9 (by omega)
  generalize Px.wrTries n o5 = o7 at *
  have C8 : Hid (∀ W, WrAt W b o7 → Calls Tryz.prog 166 #[.pointer (some ⟨b, 0, none⟩), .slice (some ⟨W.heap.size, 0, none⟩) 1 1] (W.alloc (.cells #[.string ⟨#[59]⟩] 9)) (WPost b W (Px.sgn o7 [59]))) := fun W hW => put1 b ⟨#[59]⟩ o7 W hW (by decide) (by show o7.length + 1 + 1 ≤ _; omega)
  generalize Px.sgn o7 [59] = o8 at *
  rcases CT with ⟨rfl, rfl⟩ | ⟨hn1, o6, C6, C7⟩
  · have CN1 : Hid (∀ W, FrW b w W → W.cell? ⟨qn, 0, none⟩ = some (.int .i64 1)) := fun W hF => CN W hF
    rcases CU with ⟨hu, rfl⟩ | ⟨hu, C5⟩
    · rcases CB with ⟨rfl, rfl⟩ | ⟨qs, rfl, CS, C4⟩
      · exact call_write000 b q qn word undo pa o o1 o2 _ o8 w h CQ CN1 C0 CA C3 hu C8
      · exact call_write100 b q qn qs word undo asw pa o o1 o2 o3 _ o8 w h CQ CN1 C0 CA C3 CS C4 hu C8
    · rcases CB with ⟨rfl, rfl⟩ | ⟨qs, rfl, CS, C4⟩
      · exact call_write010 b q qn word undo pa o o1 o2 _ _ o8 w h CQ CN1 C0 CA C3 hu C5 C8
      · exact call_write110 b q qn qs word undo asw pa o o1 o2 o3 o4 _ o8 w h CQ CN1 C0 CA C3 CS C4 hu C5 C8
  · rcases CU with ⟨hu, rfl⟩ | ⟨hu, C5⟩
    · rcases CB with ⟨rfl, rfl⟩ | ⟨qs, rfl, CS, C4⟩
      · exact call_write001 b q qn n word undo pa o o1 o2 _ o6 o7 o8 w h CQ CN C0 CA C3 hu hn1 C6 C7 C8
      · exact call_write101 b q qn n qs word undo asw pa o o1 o2 o3 _ o6 o7 o8 w h CQ CN C0 CA C3 CS C4 hu hn1 C6 C7 C8
    · rcases CB with ⟨rfl, rfl⟩ | ⟨qs, rfl, CS, C4⟩
      · exact call_write011 b q qn n word undo pa o o1 o2 _ o5 o6 o7 o8 w h CQ CN C0 CA C3 hu C5 hn1 C6 C7 C8
      · exact call_write111 b q qn n qs word undo asw pa o o1 o2 o3 o4 o5 o6 o7 o8 w h CQ CN C0 CA C3 CS C4 hu C5 hn1 C6 C7 C8

end Lg
end Go.Proofs.YtcogbbneodihkaaGreatDoor
