import Derived.Test.YtcogbbneodihkaaGreatDoorQ20
namespace Go.Proofs.YtcogbbneodihkaaGreatDoor
open Go.RowKit
namespace Lg

set_option maxRecDepth 100000 in
set_option maxHeartbeats 4000000 in
theorem call_write010 (b q qn : Nat) (word undo : ByteArray) (pa : Option Addr) (o o1 o2 o3 o5 o8 : List UInt8) (w : World) (h : WrAt w b o) (CQ : Hid (∀ W, FrW b w W → W.heap[q]? = some (.cells #[.string word, .pointer pa, .pointer none, .string undo, .pointer (some ⟨qn, 0, none⟩)] 183))) (CN : Hid (∀ W, FrW b w W → W.cell? ⟨qn, 0, none⟩ = some (.int .i64 1))) (C0 : Hid (∀ W, WrAt W b o → Calls Tryz.prog 166 #[.pointer (some ⟨b, 0, none⟩), .slice (some ⟨W.heap.size, 0, none⟩) 3 3] (W.alloc (.cells #[.string ⟨#[99, 97, 108, 108]⟩, .string word, .string ⟨#[40]⟩] 9)) (WPost b W o1))) (CA : ArgW b w pa o1 o2) (C3 : Hid (∀ W, WrAt W b o2 → Calls Tryz.prog 166 #[.pointer (some ⟨b, 0, none⟩), .slice (some ⟨W.heap.size, 0, none⟩) 1 1] (W.alloc (.cells #[.string ⟨#[41]⟩] 9)) (WPost b W o3))) (hu : (!undo.toList.isEmpty) = true) (C5 : Hid (∀ W, WrAt W b o3 → Calls Tryz.prog 166 #[.pointer (some ⟨b, 0, none⟩), .slice (some ⟨W.heap.size, 0, none⟩) 2 2] (W.alloc (.cells #[.string ⟨#[117, 110, 100, 111]⟩, .string undo] 9)) (WPost b W o5))) (C8 : Hid (∀ W, WrAt W b o5 → Calls Tryz.prog 166 #[.pointer (some ⟨b, 0, none⟩), .slice (some ⟨W.heap.size, 0, none⟩) 1 1] (W.alloc (.cells #[.string ⟨#[59]⟩] 9)) (WPost b W o8))) :
    Calls Tryz.prog 171 #[.pointer (some ⟨q, 0, none⟩), .pointer (some ⟨b, 0, none⟩)] w (WPost b w o8) := by
  have m1 := xNum
  have m2 := xVar
  have m3 := xTru
  have m4 := xNot
  have m5 := xPair
  have E0 : Hid (_) := C0.out w h
  clear h
  rcases CA with ⟨rfl, rfl⟩ | ⟨qa, tl, ql, rfl, CR, CW⟩
  · obtain ⟨c1_0, c1_1, c1_2, c1_3, c1_4, c1_f⟩ := cells5 (CQ.out w (FrW.refl _ _))
    have n1 := CN.out w (FrW.refl _ _)
    go_enter Tryz.func171, Tryz.ntmps171
    go_wp2_with fail
    refine Calls.mono E0.out ?_
    rintro r w2 ⟨rfl, h1, f1⟩
    have L2 : Hid (WrAt w2 b o2 ∧ FrW b w w2) := ⟨h1, f1⟩
    clear h1 f1 c1_0 c1_1 c1_2 c1_3 c1_4 c1_f n1
    obtain ⟨c2_0, c2_1, c2_2, c2_3, c2_4, c2_f⟩ := cells5 (CQ.out w2 L2.out.2)
    have n2 := CN.out w2 L2.out.2
    go_wp2_with fail
    refine (C3.out _ L2.out.1).mono ?_
    rintro r w3 ⟨rfl, h9, f9⟩
    have L3 : Hid (WrAt w3 b o3 ∧ FrW b w w3) := ⟨h9, L2.out.2.trans f9⟩
    clear h9 f9
    obtain ⟨c3_0, c3_1, c3_2, c3_3, c3_4, c3_f⟩ := cells5 (CQ.out w3 L3.out.2)
    have n3 := CN.out w3 L3.out.2
    go_wp2_with fail
    refine (C5.out _ L3.out.1).mono ?_
    rintro r w4 ⟨rfl, h9, f9⟩
    have L4 : Hid (WrAt w4 b o5 ∧ FrW b w w4) := ⟨h9, L3.out.2.trans f9⟩
    clear h9 f9
    clear c3_0 c3_1 c3_2 c3_3 c3_4 c3_f n3
    obtain ⟨c4_0, c4_1, c4_2, c4_3, c4_4, c4_f⟩ := cells5 (CQ.out w4 L4.out.2)
    have n4 := CN.out w4 L4.out.2
    go_wp2_with fail
    refine (C8.out _ L4.out.1).mono ?_
    rintro r w5 ⟨rfl, h9, f9⟩
    have L5 : Hid (WrAt w5 b o8 ∧ FrW b w w5) := ⟨h9, L4.out.2.trans f9⟩
    clear h9 f9
    clear c4_0 c4_1 c4_2 c4_3 c4_4 c4_f n4
    go_wp2_with fail
    go_end0
    exact ⟨rfl, L5.out.1, L5.out.2⟩
  · obtain ⟨c5_0, c5_1, c5_2, c5_3, c5_4, c5_f⟩ := cells5 (CQ.out w (FrW.refl _ _))
    have n5 := CN.out w (FrW.refl _ _)
    go_enter Tryz.func171, Tryz.ntmps171
    go_wp2_with fail
    refine Calls.mono E0.out ?_
    rintro r w1 ⟨rfl, h1, f1⟩
    have L1 : Hid (WrAt w1 b o1 ∧ FrW b w w1) := ⟨h1, f1⟩
    have hC := CW.out w1 f1 h1
    have hR := CR.out w1 f1
    clear h1 f1 c5_0 c5_1 c5_2 c5_3 c5_4 c5_f n5
    obtain ⟨c6_0, c6_1, c6_2, c6_3, c6_4, c6_f⟩ := cells5 (CQ.out w1 L1.out.2)
    have n6 := CN.out w1 L1.out.2
    rcases hC with ⟨rfl, hC⟩ | ⟨rfl, hC⟩ | ⟨rfl, hC⟩ | ⟨rfl, hC⟩ | ⟨rfl, hC⟩
    all_goals
      go_wp2_with fail
      refine hC.mono ?_
      rintro r w2 ⟨rfl, h2, f2⟩
      have L2 : Hid (WrAt w2 b o2 ∧ FrW b w w2) := ⟨h2, L1.out.2.trans f2⟩
      clear h2 f2 hC hR c6_0 c6_1 c6_2 c6_3 c6_4 c6_f n6
      obtain ⟨c7_0, c7_1, c7_2, c7_3, c7_4, c7_f⟩ := cells5 (CQ.out w2 L2.out.2)
      have n7 := CN.out w2 L2.out.2
      go_wp2_with fail
      refine (C3.out _ L2.out.1).mono ?_
      rintro r w3 ⟨rfl, h9, f9⟩
      have L3 : Hid (WrAt w3 b o3 ∧ FrW b w w3) := ⟨h9, L2.out.2.trans f9⟩
      clear h9 f9
      obtain ⟨c8_0, c8_1, c8_2, c8_3, c8_4, c8_f⟩ := cells5 (CQ.out w3 L3.out.2)
      have n8 := CN.out w3 L3.out.2
      go_wp2_with fail
      refine (C5.out _ L3.out.1).mono ?_
      rintro r w4 ⟨rfl, h9, f9⟩
      have L4 : Hid (WrAt w4 b o5 ∧ FrW b w w4) := ⟨h9, L3.out.2.trans f9⟩
      clear h9 f9
      clear c8_0 c8_1 c8_2 c8_3 c8_4 c8_f n8
      obtain ⟨c9_0, c9_1, c9_2, c9_3, c9_4, c9_f⟩ := cells5 (CQ.out w4 L4.out.2)
      have n9 := CN.out w4 L4.out.2
      go_wp2_with fail
      refine (C8.out _ L4.out.1).mono ?_
      rintro r w5 ⟨rfl, h9, f9⟩
      have L5 : Hid (WrAt w5 b o8 ∧ FrW b w w5) := ⟨h9, L4.out.2.trans f9⟩
      clear h9 f9
      clear c9_0 c9_1 c9_2 c9_3 c9_4 c9_f n9
      go_wp2_with fail
      go_end0
      exact ⟨rfl, L5.out.1, L5.out.2⟩

end Lg
end Go.Proofs.YtcogbbneodihkaaGreatDoor
