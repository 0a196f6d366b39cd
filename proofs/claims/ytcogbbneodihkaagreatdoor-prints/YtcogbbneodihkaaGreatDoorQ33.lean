import Derived.Test.YtcogbbneodihkaaGreatDoorQ32
namespace Go.Proofs.YtcogbbneodihkaaGreatDoor
open Go.RowKit
namespace Ref

def OutC (b : Nat) (x : Px.Sm) : Prop := ∀ (w : World) (o : List UInt8) (ok : Nat → Prop) (q : Nat), SmAt w x ok q → (∀ i, ok i → i < b) → OutAt w b o → Px.WfH x → Px.GdX x → o.length + Px.szX x ≤ 1000000000 →
  Calls Tryz.prog 38 #[.pointer (some ⟨b, 0, none⟩), .pointer (some ⟨q, 0, none⟩)] w (OPost b w (Px.wrX x o))
theorem empty_size {w : ByteArray} (h : w.size = 0) : w.toList.isEmpty = true := by
  rw [ByteArray.toList_eq, List.isEmpty_iff, ← List.length_eq_zero_iff]; exact h
theorem empty_not {w : ByteArray} (h : 0 < w.size) : w.toList.isEmpty = false := by
  cases he : w.toList.isEmpty
  · rfl
  · rw [ByteArray.toList_eq, List.isEmpty_iff, ← List.length_eq_zero_iff] at he
    have : w.size = 0 := he
    omega

set_option maxRecDepth 100000 in
set_option maxHeartbeats 8000000 in
theorem outC_0000 (b : Nat) (x : Px.Sm) (hop : x.op = 99) (hE : x.ex = none) (ha : x.asw.size = 0) (hu : x.undo.size = 0) (hT : x.n = 1) : OutC b x := by
  intro w o ok q hx hok h hw hg hl
  obtain ⟨hq, ve, v1, v2, q1, q2, hv, e3, e4, e5, e6, e7⟩ := hx
  have hqb := hok q hq
  unfold Px.szX at hl
  rw [hE] at e3
  have e3' : ve = .pointer none := e3
  subst e3'
  obtain ⟨d0_0, d0_1, d0_2, d0_3, d0_4, d0_5, d0_6, d0_7, d0_8, d0_9, d0_10, d0_f⟩ := cells11 hv
  have CQ : Hid (∀ W, Below b w W → W.heap[q]? = some (.cells (smCells x (.pointer none) v1 v2) 106)) := fun W hW => by rw [hW.block q hqb]; exact hv
  have hwl : x.word.data.toList.length = x.word.size := rfl
  have ha' : x.asw.toList.isEmpty = true := empty_size ha
  have hu' : x.undo.toList.isEmpty = true := empty_size hu
  have hT' : ((x.n : Int) == 1) = true := by rw [hT]; rfl
  have hal : x.asw.data.toList.length = x.asw.size := rfl
  have hul : x.undo.data.toList.length = x.undo.size := rfl
  have s1 := Px.sgn_len o [99, 97, 108, 108]
  have s2 := Px.sgn_len (Px.sgn o [99, 97, 108, 108]) x.word.data.toList
  have s3 := Px.sgn_len (Px.sgn (Px.sgn o [99, 97, 108, 108]) x.word.data.toList) [40]
  have s4 := Px.sgn_len (Px.sgn (Px.sgn (Px.sgn o [99, 97, 108, 108]) x.word.data.toList) [40]) [41]
  have s5 := Px.sgn_len (Px.sgn (Px.sgn (Px.sgn (Px.sgn o [99, 97, 108, 108]) x.word.data.toList) [40]) [41]) [59]
  simp only [List.length_cons, List.length_nil] at *
  have C1 : Hid (∀ W, OutAt W b o → Calls Tryz.prog 36 #[.pointer (some ⟨b, 0, none⟩), .string ⟨#[99, 97, 108, 108]⟩] W (OPost b W (Px.sgn o [99, 97, 108, 108]))) := fun W hO => outSign b _ ⟨#[99, 97, 108, 108]⟩ W hO (by decide) (by show _ + 4 ≤ _; omega)
  have C2 : Hid (∀ W, OutAt W b (Px.sgn o [99, 97, 108, 108]) → Calls Tryz.prog 36 #[.pointer (some ⟨b, 0, none⟩), .string x.word] W (OPost b W (Px.sgn (Px.sgn o [99, 97, 108, 108]) x.word.data.toList))) := fun W hO => outSign b _ x.word W hO (hg.1 (Or.inr hop)) (by show _ + x.word.size ≤ _; omega)
  have C3 : Hid (∀ W, OutAt W b (Px.sgn (Px.sgn o [99, 97, 108, 108]) x.word.data.toList) → Calls Tryz.prog 36 #[.pointer (some ⟨b, 0, none⟩), .string ⟨#[40]⟩] W (OPost b W (Px.sgn (Px.sgn (Px.sgn o [99, 97, 108, 108]) x.word.data.toList) [40]))) := fun W hO => outSign b _ ⟨#[40]⟩ W hO (by decide) (by show _ + 1 ≤ _; omega)
  have C4 : Hid (∀ W, OutAt W b (Px.sgn (Px.sgn (Px.sgn o [99, 97, 108, 108]) x.word.data.toList) [40]) → Calls Tryz.prog 36 #[.pointer (some ⟨b, 0, none⟩), .string ⟨#[41]⟩] W (OPost b W (Px.sgn (Px.sgn (Px.sgn (Px.sgn o [99, 97, 108, 108]) x.word.data.toList) [40]) [41]))) := fun W hO => outSign b _ ⟨#[41]⟩ W hO (by decide) (by show _ + 1 ≤ _; omega)
  have C5 : Hid (∀ W, OutAt W b (Px.sgn (Px.sgn (Px.sgn (Px.sgn o [99, 97, 108, 108]) x.word.data.toList) [40]) [41]) → Calls Tryz.prog 36 #[.pointer (some ⟨b, 0, none⟩), .string ⟨#[59]⟩] W (OPost b W (Px.sgn (Px.sgn (Px.sgn (Px.sgn (Px.sgn o [99, 97, 108, 108]) x.word.data.toList) [40]) [41]) [59]))) := fun W hO => outSign b _ ⟨#[59]⟩ W hO (by decide) (by show _ + 1 ≤ _; omega)
  have L0 : Hid (OutAt w b o ∧ Below b w w) := ⟨h, Below.refl _ _⟩
  have EQ : Hid (Px.wrX x o = Px.sgn (Px.sgn (Px.sgn (Px.sgn (Px.sgn o [99, 97, 108, 108]) x.word.data.toList) [40]) [41]) [59]) := by unfold Hid; rw [Px.wrX_eq, if_neg (by omega), if_pos hop, Px.wrTries, if_pos hT, Px.wrUndo, if_pos hu, Px.wrAs, if_pos ha, hE]; rfl
  clear h hok hg hw hl hv e4 e5 e6 e7 e3 s1 s2 s3 s4 s5
  go_enter Tryz.func38, Tryz.ntmps38
  go_wp2_with fail
  refine (C1.out _ L0.out.1).mono ?_
  rintro e w1 ⟨rfl, o1, b1⟩
  have L1 : Hid (OutAt w1 b (Px.sgn o [99, 97, 108, 108]) ∧ Below b w w1) := ⟨o1, L0.out.2.trans b1⟩
  obtain ⟨d1_0, d1_1, d1_2, d1_3, d1_4, d1_5, d1_6, d1_7, d1_8, d1_9, d1_10, d1_f⟩ := cells11 (CQ.out w1 L1.out.2)
  clear d0_0 d0_1 d0_2 d0_3 d0_4 d0_5 d0_6 d0_7 d0_8 d0_9 d0_10 d0_f o1 b1
  go_wp2_with fail
  refine (C2.out _ L1.out.1).mono ?_
  rintro e w2 ⟨rfl, o2, b2⟩
  have L2 : Hid (OutAt w2 b (Px.sgn (Px.sgn o [99, 97, 108, 108]) x.word.data.toList) ∧ Below b w w2) := ⟨o2, L1.out.2.trans b2⟩
  obtain ⟨d2_0, d2_1, d2_2, d2_3, d2_4, d2_5, d2_6, d2_7, d2_8, d2_9, d2_10, d2_f⟩ := cells11 (CQ.out w2 L2.out.2)
  clear d1_0 d1_1 d1_2 d1_3 d1_4 d1_5 d1_6 d1_7 d1_8 d1_9 d1_10 d1_f o2 b2
  go_wp2_with fail
  refine (C3.out _ L2.out.1).mono ?_
  rintro e w3 ⟨rfl, o3, b3⟩
  have L3 : Hid (OutAt w3 b (Px.sgn (Px.sgn (Px.sgn o [99, 97, 108, 108]) x.word.data.toList) [40]) ∧ Below b w w3) := ⟨o3, L2.out.2.trans b3⟩
  obtain ⟨d3_0, d3_1, d3_2, d3_3, d3_4, d3_5, d3_6, d3_7, d3_8, d3_9, d3_10, d3_f⟩ := cells11 (CQ.out w3 L3.out.2)
  clear d2_0 d2_1 d2_2 d2_3 d2_4 d2_5 d2_6 d2_7 d2_8 d2_9 d2_10 d2_f o3 b3
  go_wp2_with fail
  refine (C4.out _ L3.out.1).mono ?_
  rintro e w4 ⟨rfl, o4, b4⟩
  have L4 : Hid (OutAt w4 b (Px.sgn (Px.sgn (Px.sgn (Px.sgn o [99, 97, 108, 108]) x.word.data.toList) [40]) [41]) ∧ Below b w w4) := ⟨o4, L3.out.2.trans b4⟩
  obtain ⟨d4_0, d4_1, d4_2, d4_3, d4_4, d4_5, d4_6, d4_7, d4_8, d4_9, d4_10, d4_f⟩ := cells11 (CQ.out w4 L4.out.2)
  clear d3_0 d3_1 d3_2 d3_3 d3_4 d3_5 d3_6 d3_7 d3_8 d3_9 d3_10 d3_f o4 b4
  go_wp2_with fail
  refine (C5.out _ L4.out.1).mono ?_
  rintro e w5 ⟨rfl, o5, b5⟩
  have L5 : Hid (OutAt w5 b (Px.sgn (Px.sgn (Px.sgn (Px.sgn (Px.sgn o [99, 97, 108, 108]) x.word.data.toList) [40]) [41]) [59]) ∧ Below b w w5) := ⟨o5, L4.out.2.trans b5⟩
  obtain ⟨d5_0, d5_1, d5_2, d5_3, d5_4, d5_5, d5_6, d5_7, d5_8, d5_9, d5_10, d5_f⟩ := cells11 (CQ.out w5 L5.out.2)
  clear d4_0 d4_1 d4_2 d4_3 d4_4 d4_5 d4_6 d4_7 d4_8 d4_9 d4_10 d4_f o5 b5
  go_wp2_with fail
  go_end0
  rw [EQ.out]
  exact ⟨rfl, L5.out.1, L5.out.2⟩

set_option maxRecDepth 100000 in
set_option maxHeartbeats 8000000 in
theorem outC_0001 (b : Nat) (x : Px.Sm) (hop : x.op = 99) (hE : x.ex = none) (ha : x.asw.size = 0) (hu : x.undo.size = 0) (hT : x.n ≠ 1) : OutC b x := by
  intro w o ok q hx hok h hw hg hl
  obtain ⟨hq, ve, v1, v2, q1, q2, hv, e3, e4, e5, e6, e7⟩ := hx
  have hqb := hok q hq
  unfold Px.szX at hl
  rw [hE] at e3
  have e3' : ve = .pointer none := e3
  subst e3'
  obtain ⟨d0_0, d0_1, d0_2, d0_3, d0_4, d0_5, d0_6, d0_7, d0_8, d0_9, d0_10, d0_f⟩ := cells11 hv
  have CQ : Hid (∀ W, Below b w W → W.heap[q]? = some (.cells (smCells x (.pointer none) v1 v2) 106)) := fun W hW => by rw [hW.block q hqb]; exact hv
  have hwl : x.word.data.toList.length = x.word.size := rfl
  have ha' : x.asw.toList.isEmpty = true := empty_size ha
  have hu' : x.undo.toList.isEmpty = true := empty_size hu
  have hT' : ((x.n : Int) == 1) = false := by rw [beq_eq_false_iff_ne]; omega
  have hal : x.asw.data.toList.length = x.asw.size := rfl
  have hul : x.undo.data.toList.length = x.undo.size := rfl
  have s1 := Px.sgn_len o [99, 97, 108, 108]
  have s2 := Px.sgn_len (Px.sgn o [99, 97, 108, 108]) x.word.data.toList
  have s3 := Px.sgn_len (Px.sgn (Px.sgn o [99, 97, 108, 108]) x.word.data.toList) [40]
  have s4 := Px.sgn_len (Px.sgn (Px.sgn (Px.sgn o [99, 97, 108, 108]) x.word.data.toList) [40]) [41]
  have s5 := Px.sgn_len (Px.sgn (Px.sgn (Px.sgn (Px.sgn o [99, 97, 108, 108]) x.word.data.toList) [40]) [41]) [116, 114, 105, 101, 115]
  have s6 := Px.sgn_len (Px.sgn (Px.sgn (Px.sgn (Px.sgn (Px.sgn o [99, 97, 108, 108]) x.word.data.toList) [40]) [41]) [116, 114, 105, 101, 115]) (Px.dec x.n)
  have s7 := Px.dec_len x.n
  have s8 := dec_pos x.n
  have s9 := Px.sgn_len (Px.sgn (Px.sgn (Px.sgn (Px.sgn (Px.sgn (Px.sgn o [99, 97, 108, 108]) x.word.data.toList) [40]) [41]) [116, 114, 105, 101, 115]) (Px.dec x.n)) [59]
  simp only [List.length_cons, List.length_nil] at *
  have C1 : Hid (∀ W, OutAt W b o → Calls Tryz.prog 36 #[.pointer (some ⟨b, 0, none⟩), .string ⟨#[99, 97, 108, 108]⟩] W (OPost b W (Px.sgn o [99, 97, 108, 108]))) := fun W hO => outSign b _ ⟨#[99, 97, 108, 108]⟩ W hO (by decide) (by show _ + 4 ≤ _; omega)
  have C2 : Hid (∀ W, OutAt W b (Px.sgn o [99, 97, 108, 108]) → Calls Tryz.prog 36 #[.pointer (some ⟨b, 0, none⟩), .string x.word] W (OPost b W (Px.sgn (Px.sgn o [99, 97, 108, 108]) x.word.data.toList))) := fun W hO => outSign b _ x.word W hO (hg.1 (Or.inr hop)) (by show _ + x.word.size ≤ _; omega)
  have C3 : Hid (∀ W, OutAt W b (Px.sgn (Px.sgn o [99, 97, 108, 108]) x.word.data.toList) → Calls Tryz.prog 36 #[.pointer (some ⟨b, 0, none⟩), .string ⟨#[40]⟩] W (OPost b W (Px.sgn (Px.sgn (Px.sgn o [99, 97, 108, 108]) x.word.data.toList) [40]))) := fun W hO => outSign b _ ⟨#[40]⟩ W hO (by decide) (by show _ + 1 ≤ _; omega)
  have C4 : Hid (∀ W, OutAt W b (Px.sgn (Px.sgn (Px.sgn o [99, 97, 108, 108]) x.word.data.toList) [40]) → Calls Tryz.prog 36 #[.pointer (some ⟨b, 0, none⟩), .string ⟨#[41]⟩] W (OPost b W (Px.sgn (Px.sgn (Px.sgn (Px.sgn o [99, 97, 108, 108]) x.word.data.toList) [40]) [41]))) := fun W hO => outSign b _ ⟨#[41]⟩ W hO (by decide) (by show _ + 1 ≤ _; omega)
  have C5 : Hid (∀ W, OutAt W b (Px.sgn (Px.sgn (Px.sgn (Px.sgn o [99, 97, 108, 108]) x.word.data.toList) [40]) [41]) → Calls Tryz.prog 36 #[.pointer (some ⟨b, 0, none⟩), .string ⟨#[116, 114, 105, 101, 115]⟩] W (OPost b W (Px.sgn (Px.sgn (Px.sgn (Px.sgn (Px.sgn o [99, 97, 108, 108]) x.word.data.toList) [40]) [41]) [116, 114, 105, 101, 115]))) := fun W hO => outSign b _ ⟨#[116, 114, 105, 101, 115]⟩ W hO (by decide) (by show _ + 5 ≤ _; omega)
  have C6 : Hid (∀ W, Calls Tryz.prog 40 #[.int .i64 (x.n : Int)] W (DecPost x.n W)) := dec_any x.n hg.2.1
  have C7 : Hid (∀ W (S : ByteArray), S.data.toList = Px.dec x.n → OutAt W b (Px.sgn (Px.sgn (Px.sgn (Px.sgn (Px.sgn o [99, 97, 108, 108]) x.word.data.toList) [40]) [41]) [116, 114, 105, 101, 115]) → Calls Tryz.prog 36 #[.pointer (some ⟨b, 0, none⟩), .string S] W (OPost b W (Px.sgn (Px.sgn (Px.sgn (Px.sgn (Px.sgn (Px.sgn o [99, 97, 108, 108]) x.word.data.toList) [40]) [41]) [116, 114, 105, 101, 115]) (Px.dec x.n)))) := fun W S hS hO => by
    have hz : S.size = (Px.dec x.n).length := by rw [← hS]; rfl
    rw [← hS]
    exact outSign b _ S W hO (by omega) (by omega)
  have C8 : Hid (∀ W, OutAt W b (Px.sgn (Px.sgn (Px.sgn (Px.sgn (Px.sgn (Px.sgn o [99, 97, 108, 108]) x.word.data.toList) [40]) [41]) [116, 114, 105, 101, 115]) (Px.dec x.n)) → Calls Tryz.prog 36 #[.pointer (some ⟨b, 0, none⟩), .string ⟨#[59]⟩] W (OPost b W (Px.sgn (Px.sgn (Px.sgn (Px.sgn (Px.sgn (Px.sgn (Px.sgn o [99, 97, 108, 108]) x.word.data.toList) [40]) [41]) [116, 114, 105, 101, 115]) (Px.dec x.n)) [59]))) := fun W hO => outSign b _ ⟨#[59]⟩ W hO (by decide) (by show _ + 1 ≤ _; omega)
  have L0 : Hid (OutAt w b o ∧ Below b w w) := ⟨h, Below.refl _ _⟩
  have EQ : Hid (Px.wrX x o = Px.sgn (Px.sgn (Px.sgn (Px.sgn (Px.sgn (Px.sgn (Px.sgn o [99, 97, 108, 108]) x.word.data.toList) [40]) [41]) [116, 114, 105, 101, 115]) (Px.dec x.n)) [59]) := by unfold Hid; rw [Px.wrX_eq, if_neg (by omega), if_pos hop, Px.wrTries, if_neg hT, Px.wrUndo, if_pos hu, Px.wrAs, if_pos ha, hE]; rfl
  clear h hok hg hw hl hv e4 e5 e6 e7 e3 s1 s2 s3 s4 s5 s6 s7 s8 s9
  go_enter Tryz.func38, Tryz.ntmps38
  go_wp2_with fail
  refine (C1.out _ L0.out.1).mono ?_
  rintro e w1 ⟨rfl, o1, b1⟩
  have L1 : Hid (OutAt w1 b (Px.sgn o [99, 97, 108, 108]) ∧ Below b w w1) := ⟨o1, L0.out.2.trans b1⟩
  obtain ⟨d1_0, d1_1, d1_2, d1_3, d1_4, d1_5, d1_6, d1_7, d1_8, d1_9, d1_10, d1_f⟩ := cells11 (CQ.out w1 L1.out.2)
  clear d0_0 d0_1 d0_2 d0_3 d0_4 d0_5 d0_6 d0_7 d0_8 d0_9 d0_10 d0_f o1 b1
  go_wp2_with fail
  refine (C2.out _ L1.out.1).mono ?_
  rintro e w2 ⟨rfl, o2, b2⟩
  have L2 : Hid (OutAt w2 b (Px.sgn (Px.sgn o [99, 97, 108, 108]) x.word.data.toList) ∧ Below b w w2) := ⟨o2, L1.out.2.trans b2⟩
  obtain ⟨d2_0, d2_1, d2_2, d2_3, d2_4, d2_5, d2_6, d2_7, d2_8, d2_9, d2_10, d2_f⟩ := cells11 (CQ.out w2 L2.out.2)
  clear d1_0 d1_1 d1_2 d1_3 d1_4 d1_5 d1_6 d1_7 d1_8 d1_9 d1_10 d1_f o2 b2
  go_wp2_with fail
  refine (C3.out _ L2.out.1).mono ?_
  rintro e w3 ⟨rfl, o3, b3⟩
  have L3 : Hid (OutAt w3 b (Px.sgn (Px.sgn (Px.sgn o [99, 97, 108, 108]) x.word.data.toList) [40]) ∧ Below b w w3) := ⟨o3, L2.out.2.trans b3⟩
  obtain ⟨d3_0, d3_1, d3_2, d3_3, d3_4, d3_5, d3_6, d3_7, d3_8, d3_9, d3_10, d3_f⟩ := cells11 (CQ.out w3 L3.out.2)
  clear d2_0 d2_1 d2_2 d2_3 d2_4 d2_5 d2_6 d2_7 d2_8 d2_9 d2_10 d2_f o3 b3
  go_wp2_with fail
  refine (C4.out _ L3.out.1).mono ?_
  rintro e w4 ⟨rfl, o4, b4⟩
  have L4 : Hid (OutAt w4 b (Px.sgn (Px.sgn (Px.sgn (Px.sgn o [99, 97, 108, 108]) x.word.data.toList) [40]) [41]) ∧ Below b w w4) := ⟨o4, L3.out.2.trans b4⟩
  obtain ⟨d4_0, d4_1, d4_2, d4_3, d4_4, d4_5, d4_6, d4_7, d4_8, d4_9, d4_10, d4_f⟩ := cells11 (CQ.out w4 L4.out.2)
  clear d3_0 d3_1 d3_2 d3_3 d3_4 d3_5 d3_6 d3_7 d3_8 d3_9 d3_10 d3_f o4 b4
  go_wp2_with fail
  refine (C5.out _ L4.out.1).mono ?_
  rintro e w5 ⟨rfl, o5, b5⟩
  have L5 : Hid (OutAt w5 b (Px.sgn (Px.sgn (Px.sgn (Px.sgn (Px.sgn o [99, 97, 108, 108]) x.word.data.toList) [40]) [41]) [116, 114, 105, 101, 115]) ∧ Below b w w5) := ⟨o5, L4.out.2.trans b5⟩
  obtain ⟨d5_0, d5_1, d5_2, d5_3, d5_4, d5_5, d5_6, d5_7, d5_8, d5_9, d5_10, d5_f⟩ := cells11 (CQ.out w5 L5.out.2)
  clear d4_0 d4_1 d4_2 d4_3 d4_4 d4_5 d4_6 d4_7 d4_8 d4_9 d4_10 d4_f o5 b5
  go_wp2_with fail
  refine (C6.out _).mono ?_
  rintro e w7 ⟨S7, rfl, hS7, b7⟩
  have L7 : Hid (OutAt w7 b (Px.sgn (Px.sgn (Px.sgn (Px.sgn (Px.sgn o [99, 97, 108, 108]) x.word.data.toList) [40]) [41]) [116, 114, 105, 101, 115]) ∧ Below b w w7) := ⟨L5.out.1.old b7, L5.out.2.trans (b7.mono (Nat.le_of_lt L5.out.1.lt))⟩
  have T7 : Hid (S7.data.toList = Px.dec x.n) := hS7
  obtain ⟨d7_0, d7_1, d7_2, d7_3, d7_4, d7_5, d7_6, d7_7, d7_8, d7_9, d7_10, d7_f⟩ := cells11 (CQ.out w7 L7.out.2)
  clear d5_0 d5_1 d5_2 d5_3 d5_4 d5_5 d5_6 d5_7 d5_8 d5_9 d5_10 d5_f hS7 b7
  go_wp2_with fail
  refine (C7.out _ S7 T7.out L7.out.1).mono ?_
  rintro e w6 ⟨rfl, o6, b6⟩
  have L6 : Hid (OutAt w6 b (Px.sgn (Px.sgn (Px.sgn (Px.sgn (Px.sgn (Px.sgn o [99, 97, 108, 108]) x.word.data.toList) [40]) [41]) [116, 114, 105, 101, 115]) (Px.dec x.n)) ∧ Below b w w6) := ⟨o6, L7.out.2.trans b6⟩
  obtain ⟨d6_0, d6_1, d6_2, d6_3, d6_4, d6_5, d6_6, d6_7, d6_8, d6_9, d6_10, d6_f⟩ := cells11 (CQ.out w6 L6.out.2)
  clear d7_0 d7_1 d7_2 d7_3 d7_4 d7_5 d7_6 d7_7 d7_8 d7_9 d7_10 d7_f o6 b6
  go_wp2_with fail
  refine (C8.out _ L6.out.1).mono ?_
  rintro e w8 ⟨rfl, o8, b8⟩
  have L8 : Hid (OutAt w8 b (Px.sgn (Px.sgn (Px.sgn (Px.sgn (Px.sgn (Px.sgn (Px.sgn o [99, 97, 108, 108]) x.word.data.toList) [40]) [41]) [116, 114, 105, 101, 115]) (Px.dec x.n)) [59]) ∧ Below b w w8) := ⟨o8, L6.out.2.trans b8⟩
  obtain ⟨d8_0, d8_1, d8_2, d8_3, d8_4, d8_5, d8_6, d8_7, d8_8, d8_9, d8_10, d8_f⟩ := cells11 (CQ.out w8 L8.out.2)
  clear d6_0 d6_1 d6_2 d6_3 d6_4 d6_5 d6_6 d6_7 d6_8 d6_9 d6_10 d6_f o8 b8
  go_wp2_with fail
  go_end0
  rw [EQ.out]
  exact ⟨rfl, L8.out.1, L8.out.2⟩

set_option maxRecDepth 100000 in
set_option maxHeartbeats 8000000 in
theorem outC_0010 (b : Nat) (x : Px.Sm) (hop : x.op = 99) (hE : x.ex = none) (ha : x.asw.size = 0) (hu : 0 < x.undo.size) (hT : x.n = 1) : OutC b x := by
  intro w o ok q hx hok h hw hg hl
  obtain ⟨hq, ve, v1, v2, q1, q2, hv, e3, e4, e5, e6, e7⟩ := hx
  have hqb := hok q hq
  unfold Px.szX at hl
  rw [hE] at e3
  have e3' : ve = .pointer none := e3
  subst e3'
  obtain ⟨d0_0, d0_1, d0_2, d0_3, d0_4, d0_5, d0_6, d0_7, d0_8, d0_9, d0_10, d0_f⟩ := cells11 hv
  have CQ : Hid (∀ W, Below b w W → W.heap[q]? = some (.cells (smCells x (.pointer none) v1 v2) 106)) := fun W hW => by rw [hW.block q hqb]; exact hv
  have hwl : x.word.data.toList.length = x.word.size := rfl
  have ha' : x.asw.toList.isEmpty = true := empty_size ha
  have hu' : x.undo.toList.isEmpty = false := empty_not hu
  have hT' : ((x.n : Int) == 1) = true := by rw [hT]; rfl
  have hal : x.asw.data.toList.length = x.asw.size := rfl
  have hul : x.undo.data.toList.length = x.undo.size := rfl
  have s1 := Px.sgn_len o [99, 97, 108, 108]
  have s2 := Px.sgn_len (Px.sgn o [99, 97, 108, 108]) x.word.data.toList
  have s3 := Px.sgn_len (Px.sgn (Px.sgn o [99, 97, 108, 108]) x.word.data.toList) [40]
  have s4 := Px.sgn_len (Px.sgn (Px.sgn (Px.sgn o [99, 97, 108, 108]) x.word.data.toList) [40]) [41]
  have s5 := Px.sgn_len (Px.sgn (Px.sgn (Px.sgn (Px.sgn o [99, 97, 108, 108]) x.word.data.toList) [40]) [41]) [117, 110, 100, 111]
  have s6 := Px.sgn_len (Px.sgn (Px.sgn (Px.sgn (Px.sgn (Px.sgn o [99, 97, 108, 108]) x.word.data.toList) [40]) [41]) [117, 110, 100, 111]) x.undo.data.toList
  have s7 := Px.sgn_len (Px.sgn (Px.sgn (Px.sgn (Px.sgn (Px.sgn (Px.sgn o [99, 97, 108, 108]) x.word.data.toList) [40]) [41]) [117, 110, 100, 111]) x.undo.data.toList) [59]
  simp only [List.length_cons, List.length_nil] at *
  have C1 : Hid (∀ W, OutAt W b o → Calls Tryz.prog 36 #[.pointer (some ⟨b, 0, none⟩), .string ⟨#[99, 97, 108, 108]⟩] W (OPost b W (Px.sgn o [99, 97, 108, 108]))) := fun W hO => outSign b _ ⟨#[99, 97, 108, 108]⟩ W hO (by decide) (by show _ + 4 ≤ _; omega)
  have C2 : Hid (∀ W, OutAt W b (Px.sgn o [99, 97, 108, 108]) → Calls Tryz.prog 36 #[.pointer (some ⟨b, 0, none⟩), .string x.word] W (OPost b W (Px.sgn (Px.sgn o [99, 97, 108, 108]) x.word.data.toList))) := fun W hO => outSign b _ x.word W hO (hg.1 (Or.inr hop)) (by show _ + x.word.size ≤ _; omega)
  have C3 : Hid (∀ W, OutAt W b (Px.sgn (Px.sgn o [99, 97, 108, 108]) x.word.data.toList) → Calls Tryz.prog 36 #[.pointer (some ⟨b, 0, none⟩), .string ⟨#[40]⟩] W (OPost b W (Px.sgn (Px.sgn (Px.sgn o [99, 97, 108, 108]) x.word.data.toList) [40]))) := fun W hO => outSign b _ ⟨#[40]⟩ W hO (by decide) (by show _ + 1 ≤ _; omega)
  have C4 : Hid (∀ W, OutAt W b (Px.sgn (Px.sgn (Px.sgn o [99, 97, 108, 108]) x.word.data.toList) [40]) → Calls Tryz.prog 36 #[.pointer (some ⟨b, 0, none⟩), .string ⟨#[41]⟩] W (OPost b W (Px.sgn (Px.sgn (Px.sgn (Px.sgn o [99, 97, 108, 108]) x.word.data.toList) [40]) [41]))) := fun W hO => outSign b _ ⟨#[41]⟩ W hO (by decide) (by show _ + 1 ≤ _; omega)
  have C5 : Hid (∀ W, OutAt W b (Px.sgn (Px.sgn (Px.sgn (Px.sgn o [99, 97, 108, 108]) x.word.data.toList) [40]) [41]) → Calls Tryz.prog 36 #[.pointer (some ⟨b, 0, none⟩), .string ⟨#[117, 110, 100, 111]⟩] W (OPost b W (Px.sgn (Px.sgn (Px.sgn (Px.sgn (Px.sgn o [99, 97, 108, 108]) x.word.data.toList) [40]) [41]) [117, 110, 100, 111]))) := fun W hO => outSign b _ ⟨#[117, 110, 100, 111]⟩ W hO (by decide) (by show _ + 4 ≤ _; omega)
  have C6 : Hid (∀ W, OutAt W b (Px.sgn (Px.sgn (Px.sgn (Px.sgn (Px.sgn o [99, 97, 108, 108]) x.word.data.toList) [40]) [41]) [117, 110, 100, 111]) → Calls Tryz.prog 36 #[.pointer (some ⟨b, 0, none⟩), .string x.undo] W (OPost b W (Px.sgn (Px.sgn (Px.sgn (Px.sgn (Px.sgn (Px.sgn o [99, 97, 108, 108]) x.word.data.toList) [40]) [41]) [117, 110, 100, 111]) x.undo.data.toList))) := fun W hO => outSign b _ x.undo W hO hu (by show _ + x.undo.size ≤ _; omega)
  have C7 : Hid (∀ W, OutAt W b (Px.sgn (Px.sgn (Px.sgn (Px.sgn (Px.sgn (Px.sgn o [99, 97, 108, 108]) x.word.data.toList) [40]) [41]) [117, 110, 100, 111]) x.undo.data.toList) → Calls Tryz.prog 36 #[.pointer (some ⟨b, 0, none⟩), .string ⟨#[59]⟩] W (OPost b W (Px.sgn (Px.sgn (Px.sgn (Px.sgn (Px.sgn (Px.sgn (Px.sgn o [99, 97, 108, 108]) x.word.data.toList) [40]) [41]) [117, 110, 100, 111]) x.undo.data.toList) [59]))) := fun W hO => outSign b _ ⟨#[59]⟩ W hO (by decide) (by show _ + 1 ≤ _; omega)
  have L0 : Hid (OutAt w b o ∧ Below b w w) := ⟨h, Below.refl _ _⟩
  have EQ : Hid (Px.wrX x o = Px.sgn (Px.sgn (Px.sgn (Px.sgn (Px.sgn (Px.sgn (Px.sgn o [99, 97, 108, 108]) x.word.data.toList) [40]) [41]) [117, 110, 100, 111]) x.undo.data.toList) [59]) := by unfold Hid; rw [Px.wrX_eq, if_neg (by omega), if_pos hop, Px.wrTries, if_pos hT, Px.wrUndo, if_neg (by omega), Px.wrAs, if_pos ha, hE]; rfl
  clear h hok hg hw hl hv e4 e5 e6 e7 e3 s1 s2 s3 s4 s5 s6 s7
  go_enter Tryz.func38, Tryz.ntmps38
  go_wp2_with fail
  refine (C1.out _ L0.out.1).mono ?_
  rintro e w1 ⟨rfl, o1, b1⟩
  have L1 : Hid (OutAt w1 b (Px.sgn o [99, 97, 108, 108]) ∧ Below b w w1) := ⟨o1, L0.out.2.trans b1⟩
  obtain ⟨d1_0, d1_1, d1_2, d1_3, d1_4, d1_5, d1_6, d1_7, d1_8, d1_9, d1_10, d1_f⟩ := cells11 (CQ.out w1 L1.out.2)
  clear d0_0 d0_1 d0_2 d0_3 d0_4 d0_5 d0_6 d0_7 d0_8 d0_9 d0_10 d0_f o1 b1
  go_wp2_with fail
  refine (C2.out _ L1.out.1).mono ?_
  rintro e w2 ⟨rfl, o2, b2⟩
  have L2 : Hid (OutAt w2 b (Px.sgn (Px.sgn o [99, 97, 108, 108]) x.word.data.toList) ∧ Below b w w2) := ⟨o2, L1.out.2.trans b2⟩
  obtain ⟨d2_0, d2_1, d2_2, d2_3, d2_4, d2_5, d2_6, d2_7, d2_8, d2_9, d2_10, d2_f⟩ := cells11 (CQ.out w2 L2.out.2)
  clear d1_0 d1_1 d1_2 d1_3 d1_4 d1_5 d1_6 d1_7 d1_8 d1_9 d1_10 d1_f o2 b2
  go_wp2_with fail
  refine (C3.out _ L2.out.1).mono ?_
  rintro e w3 ⟨rfl, o3, b3⟩
  have L3 : Hid (OutAt w3 b (Px.sgn (Px.sgn (Px.sgn o [99, 97, 108, 108]) x.word.data.toList) [40]) ∧ Below b w w3) := ⟨o3, L2.out.2.trans b3⟩
  obtain ⟨d3_0, d3_1, d3_2, d3_3, d3_4, d3_5, d3_6, d3_7, d3_8, d3_9, d3_10, d3_f⟩ := cells11 (CQ.out w3 L3.out.2)
  clear d2_0 d2_1 d2_2 d2_3 d2_4 d2_5 d2_6 d2_7 d2_8 d2_9 d2_10 d2_f o3 b3
  go_wp2_with fail
  refine (C4.out _ L3.out.1).mono ?_
  rintro e w4 ⟨rfl, o4, b4⟩
  have L4 : Hid (OutAt w4 b (Px.sgn (Px.sgn (Px.sgn (Px.sgn o [99, 97, 108, 108]) x.word.data.toList) [40]) [41]) ∧ Below b w w4) := ⟨o4, L3.out.2.trans b4⟩
  obtain ⟨d4_0, d4_1, d4_2, d4_3, d4_4, d4_5, d4_6, d4_7, d4_8, d4_9, d4_10, d4_f⟩ := cells11 (CQ.out w4 L4.out.2)
  clear d3_0 d3_1 d3_2 d3_3 d3_4 d3_5 d3_6 d3_7 d3_8 d3_9 d3_10 d3_f o4 b4
  go_wp2_with fail
  refine (C5.out _ L4.out.1).mono ?_
  rintro e w5 ⟨rfl, o5, b5⟩
  have L5 : Hid (OutAt w5 b (Px.sgn (Px.sgn (Px.sgn (Px.sgn (Px.sgn o [99, 97, 108, 108]) x.word.data.toList) [40]) [41]) [117, 110, 100, 111]) ∧ Below b w w5) := ⟨o5, L4.out.2.trans b5⟩
  obtain ⟨d5_0, d5_1, d5_2, d5_3, d5_4, d5_5, d5_6, d5_7, d5_8, d5_9, d5_10, d5_f⟩ := cells11 (CQ.out w5 L5.out.2)
  clear d4_0 d4_1 d4_2 d4_3 d4_4 d4_5 d4_6 d4_7 d4_8 d4_9 d4_10 d4_f o5 b5
  go_wp2_with fail
  refine (C6.out _ L5.out.1).mono ?_
  rintro e w6 ⟨rfl, o6, b6⟩
  have L6 : Hid (OutAt w6 b (Px.sgn (Px.sgn (Px.sgn (Px.sgn (Px.sgn (Px.sgn o [99, 97, 108, 108]) x.word.data.toList) [40]) [41]) [117, 110, 100, 111]) x.undo.data.toList) ∧ Below b w w6) := ⟨o6, L5.out.2.trans b6⟩
  obtain ⟨d6_0, d6_1, d6_2, d6_3, d6_4, d6_5, d6_6, d6_7, d6_8, d6_9, d6_10, d6_f⟩ := cells11 (CQ.out w6 L6.out.2)
  clear d5_0 d5_1 d5_2 d5_3 d5_4 d5_5 d5_6 d5_7 d5_8 d5_9 d5_10 d5_f o6 b6
  go_wp2_with fail
  refine (C7.out _ L6.out.1).mono ?_
  rintro e w7 ⟨rfl, o7, b7⟩
  have L7 : Hid (OutAt w7 b (Px.sgn (Px.sgn (Px.sgn (Px.sgn (Px.sgn (Px.sgn (Px.sgn o [99, 97, 108, 108]) x.word.data.toList) [40]) [41]) [117, 110, 100, 111]) x.undo.data.toList) [59]) ∧ Below b w w7) := ⟨o7, L6.out.2.trans b7⟩
  obtain ⟨d7_0, d7_1, d7_2, d7_3, d7_4, d7_5, d7_6, d7_7, d7_8, d7_9, d7_10, d7_f⟩ := cells11 (CQ.out w7 L7.out.2)
  clear d6_0 d6_1 d6_2 d6_3 d6_4 d6_5 d6_6 d6_7 d6_8 d6_9 d6_10 d6_f o7 b7
  go_wp2_with fail
  go_end0
  rw [EQ.out]
  exact ⟨rfl, L7.out.1, L7.out.2⟩

set_option maxRecDepth 100000 in
set_option maxHeartbeats 8000000 in
theorem outC_0011 (b : Nat) (x : Px.Sm) (hop : x.op = 99) (hE : x.ex = none) (ha : x.asw.size = 0) (hu : 0 < x.undo.size) (hT : x.n ≠ 1) : OutC b x := by
  intro w o ok q hx hok h hw hg hl
  obtain ⟨hq, ve, v1, v2, q1, q2, hv, e3, e4, e5, e6, e7⟩ := hx
  have hqb := hok q hq
  unfold Px.szX at hl
  rw [hE] at e3
  have e3' : ve = .pointer none := e3
  subst e3'
  obtain ⟨d0_0, d0_1, d0_2, d0_3, d0_4, d0_5, d0_6, d0_7, d0_8, d0_9, d0_10, d0_f⟩ := cells11 hv
  have CQ : Hid (∀ W, Below b w W → W.heap[q]? = some (.cells (smCells x (.pointer none) v1 v2) 106)) := fun W hW => by rw [hW.block q hqb]; exact hv
  have hwl : x.word.data.toList.length = x.word.size := rfl
  have ha' : x.asw.toList.isEmpty = true := empty_size ha
  have hu' : x.undo.toList.isEmpty = false := empty_not hu
  have hT' : ((x.n : Int) == 1) = false := by rw [beq_eq_false_iff_ne]; omega
  have hal : x.asw.data.toList.length = x.asw.size := rfl
  have hul : x.undo.data.toList.length = x.undo.size := rfl
  have s1 := Px.sgn_len o [99, 97, 108, 108]
  have s2 := Px.sgn_len (Px.sgn o [99, 97, 108, 108]) x.word.data.toList
  have s3 := Px.sgn_len (Px.sgn (Px.sgn o [99, 97, 108, 108]) x.word.data.toList) [40]
  have s4 := Px.sgn_len (Px.sgn (Px.sgn (Px.sgn o [99, 97, 108, 108]) x.word.data.toList) [40]) [41]
  have s5 := Px.sgn_len (Px.sgn (Px.sgn (Px.sgn (Px.sgn o [99, 97, 108, 108]) x.word.data.toList) [40]) [41]) [117, 110, 100, 111]
  have s6 := Px.sgn_len (Px.sgn (Px.sgn (Px.sgn (Px.sgn (Px.sgn o [99, 97, 108, 108]) x.word.data.toList) [40]) [41]) [117, 110, 100, 111]) x.undo.data.toList
  have s7 := Px.sgn_len (Px.sgn (Px.sgn (Px.sgn (Px.sgn (Px.sgn (Px.sgn o [99, 97, 108, 108]) x.word.data.toList) [40]) [41]) [117, 110, 100, 111]) x.undo.data.toList) [116, 114, 105, 101, 115]
  have s8 := Px.sgn_len (Px.sgn (Px.sgn (Px.sgn (Px.sgn (Px.sgn (Px.sgn (Px.sgn o [99, 97, 108, 108]) x.word.data.toList) [40]) [41]) [117, 110, 100, 111]) x.undo.data.toList) [116, 114, 105, 101, 115]) (Px.dec x.n)
  have s9 := Px.dec_len x.n
  have s10 := dec_pos x.n
  have s11 := Px.sgn_len (Px.sgn (Px.sgn (Px.sgn (Px.sgn (Px.sgn (Px.sgn (Px.sgn (Px.sgn o [99, 97, 108, 108]) x.word.data.toList) [40]) [41]) [117, 110, 100, 111]) x.undo.data.toList) [116, 114, 105, 101, 115]) (Px.dec x.n)) [59]
  simp only [List.length_cons, List.length_nil] at *
  have C1 : Hid (∀ W, OutAt W b o → Calls Tryz.prog 36 #[.pointer (some ⟨b, 0, none⟩), .string ⟨#[99, 97, 108, 108]⟩] W (OPost b W (Px.sgn o [99, 97, 108, 108]))) := fun W hO => outSign b _ ⟨#[99, 97, 108, 108]⟩ W hO (by decide) (by show _ + 4 ≤ _; omega)
  have C2 : Hid (∀ W, OutAt W b (Px.sgn o [99, 97, 108, 108]) → Calls Tryz.prog 36 #[.pointer (some ⟨b, 0, none⟩), .string x.word] W (OPost b W (Px.sgn (Px.sgn o [99, 97, 108, 108]) x.word.data.toList))) := fun W hO => outSign b _ x.word W hO (hg.1 (Or.inr hop)) (by show _ + x.word.size ≤ _; omega)
  have C3 : Hid (∀ W, OutAt W b (Px.sgn (Px.sgn o [99, 97, 108, 108]) x.word.data.toList) → Calls Tryz.prog 36 #[.pointer (some ⟨b, 0, none⟩), .string ⟨#[40]⟩] W (OPost b W (Px.sgn (Px.sgn (Px.sgn o [99, 97, 108, 108]) x.word.data.toList) [40]))) := fun W hO => outSign b _ ⟨#[40]⟩ W hO (by decide) (by show _ + 1 ≤ _; omega)
  have C4 : Hid (∀ W, OutAt W b (Px.sgn (Px.sgn (Px.sgn o [99, 97, 108, 108]) x.word.data.toList) [40]) → Calls Tryz.prog 36 #[.pointer (some ⟨b, 0, none⟩), .string ⟨#[41]⟩] W (OPost b W (Px.sgn (Px.sgn (Px.sgn (Px.sgn o [99, 97, 108, 108]) x.word.data.toList) [40]) [41]))) := fun W hO => outSign b _ ⟨#[41]⟩ W hO (by decide) (by show _ + 1 ≤ _; omega)
  have C5 : Hid (∀ W, OutAt W b (Px.sgn (Px.sgn (Px.sgn (Px.sgn o [99, 97, 108, 108]) x.word.data.toList) [40]) [41]) → Calls Tryz.prog 36 #[.pointer (some ⟨b, 0, none⟩), .string ⟨#[117, 110, 100, 111]⟩] W (OPost b W (Px.sgn (Px.sgn (Px.sgn (Px.sgn (Px.sgn o [99, 97, 108, 108]) x.word.data.toList) [40]) [41]) [117, 110, 100, 111]))) := fun W hO => outSign b _ ⟨#[117, 110, 100, 111]⟩ W hO (by decide) (by show _ + 4 ≤ _; omega)
  have C6 : Hid (∀ W, OutAt W b (Px.sgn (Px.sgn (Px.sgn (Px.sgn (Px.sgn o [99, 97, 108, 108]) x.word.data.toList) [40]) [41]) [117, 110, 100, 111]) → Calls Tryz.prog 36 #[.pointer (some ⟨b, 0, none⟩), .string x.undo] W (OPost b W (Px.sgn (Px.sgn (Px.sgn (Px.sgn (Px.sgn (Px.sgn o [99, 97, 108, 108]) x.word.data.toList) [40]) [41]) [117, 110, 100, 111]) x.undo.data.toList))) := fun W hO => outSign b _ x.undo W hO hu (by show _ + x.undo.size ≤ _; omega)
  have C7 : Hid (∀ W, OutAt W b (Px.sgn (Px.sgn (Px.sgn (Px.sgn (Px.sgn (Px.sgn o [99, 97, 108, 108]) x.word.data.toList) [40]) [41]) [117, 110, 100, 111]) x.undo.data.toList) → Calls Tryz.prog 36 #[.pointer (some ⟨b, 0, none⟩), .string ⟨#[116, 114, 105, 101, 115]⟩] W (OPost b W (Px.sgn (Px.sgn (Px.sgn (Px.sgn (Px.sgn (Px.sgn (Px.sgn o [99, 97, 108, 108]) x.word.data.toList) [40]) [41]) [117, 110, 100, 111]) x.undo.data.toList) [116, 114, 105, 101, 115]))) := fun W hO => outSign b _ ⟨#[116, 114, 105, 101, 115]⟩ W hO (by decide) (by show _ + 5 ≤ _; omega)
  have C8 : Hid (∀ W, Calls Tryz.prog 40 #[.int .i64 (x.n : Int)] W (DecPost x.n W)) := dec_any x.n hg.2.1
  have C9 : Hid (∀ W (S : ByteArray), S.data.toList = Px.dec x.n → OutAt W b (Px.sgn (Px.sgn (Px.sgn (Px.sgn (Px.sgn (Px.sgn (Px.sgn o [99, 97, 108, 108]) x.word.data.toList) [40]) [41]) [117, 110, 100, 111]) x.undo.data.toList) [116, 114, 105, 101, 115]) → Calls Tryz.prog 36 #[.pointer (some ⟨b, 0, none⟩), .string S] W (OPost b W (Px.sgn (Px.sgn (Px.sgn (Px.sgn (Px.sgn (Px.sgn (Px.sgn (Px.sgn o [99, 97, 108, 108]) x.word.data.toList) [40]) [41]) [117, 110, 100, 111]) x.undo.data.toList) [116, 114, 105, 101, 115]) (Px.dec x.n)))) := fun W S hS hO => by
    have hz : S.size = (Px.dec x.n).length := by rw [← hS]; rfl
    rw [← hS]
    exact outSign b _ S W hO (by omega) (by omega)
  have C10 : Hid (∀ W, OutAt W b (Px.sgn (Px.sgn (Px.sgn (Px.sgn (Px.sgn (Px.sgn (Px.sgn (Px.sgn o [99, 97, 108, 108]) x.word.data.toList) [40]) [41]) [117, 110, 100, 111]) x.undo.data.toList) [116, 114, 105, 101, 115]) (Px.dec x.n)) → Calls Tryz.prog 36 #[.pointer (some ⟨b, 0, none⟩), .string ⟨#[59]⟩] W (OPost b W (Px.sgn (Px.sgn (Px.sgn (Px.sgn (Px.sgn (Px.sgn (Px.sgn (Px.sgn (Px.sgn o [99, 97, 108, 108]) x.word.data.toList) [40]) [41]) [117, 110, 100, 111]) x.undo.data.toList) [116, 114, 105, 101, 115]) (Px.dec x.n)) [59]))) := fun W hO => outSign b _ ⟨#[59]⟩ W hO (by decide) (by show _ + 1 ≤ _; omega)
  have L0 : Hid (OutAt w b o ∧ Below b w w) := ⟨h, Below.refl _ _⟩
  have EQ : Hid (Px.wrX x o = Px.sgn (Px.sgn (Px.sgn (Px.sgn (Px.sgn (Px.sgn (Px.sgn (Px.sgn (Px.sgn o [99, 97, 108, 108]) x.word.data.toList) [40]) [41]) [117, 110, 100, 111]) x.undo.data.toList) [116, 114, 105, 101, 115]) (Px.dec x.n)) [59]) := by unfold Hid; rw [Px.wrX_eq, if_neg (by omega), if_pos hop, Px.wrTries, if_neg hT, Px.wrUndo, if_neg (by omega), Px.wrAs, if_pos ha, hE]; rfl
  clear h hok hg hw hl hv e4 e5 e6 e7 e3 s1 s2 s3 s4 s5 s6 s7 s8 s9 s10 s11
  go_enter Tryz.func38, Tryz.ntmps38
  go_wp2_with fail
  refine (C1.out _ L0.out.1).mono ?_
  rintro e w1 ⟨rfl, o1, b1⟩
  have L1 : Hid (OutAt w1 b (Px.sgn o [99, 97, 108, 108]) ∧ Below b w w1) := ⟨o1, L0.out.2.trans b1⟩
  obtain ⟨d1_0, d1_1, d1_2, d1_3, d1_4, d1_5, d1_6, d1_7, d1_8, d1_9, d1_10, d1_f⟩ := cells11 (CQ.out w1 L1.out.2)
  clear d0_0 d0_1 d0_2 d0_3 d0_4 d0_5 d0_6 d0_7 d0_8 d0_9 d0_10 d0_f o1 b1
  go_wp2_with fail
  refine (C2.out _ L1.out.1).mono ?_
  rintro e w2 ⟨rfl, o2, b2⟩
  have L2 : Hid (OutAt w2 b (Px.sgn (Px.sgn o [99, 97, 108, 108]) x.word.data.toList) ∧ Below b w w2) := ⟨o2, L1.out.2.trans b2⟩
  obtain ⟨d2_0, d2_1, d2_2, d2_3, d2_4, d2_5, d2_6, d2_7, d2_8, d2_9, d2_10, d2_f⟩ := cells11 (CQ.out w2 L2.out.2)
  clear d1_0 d1_1 d1_2 d1_3 d1_4 d1_5 d1_6 d1_7 d1_8 d1_9 d1_10 d1_f o2 b2
  go_wp2_with fail
  refine (C3.out _ L2.out.1).mono ?_
  rintro e w3 ⟨rfl, o3, b3⟩
  have L3 : Hid (OutAt w3 b (Px.sgn (Px.sgn (Px.sgn o [99, 97, 108, 108]) x.word.data.toList) [40]) ∧ Below b w w3) := ⟨o3, L2.out.2.trans b3⟩
  obtain ⟨d3_0, d3_1, d3_2, d3_3, d3_4, d3_5, d3_6, d3_7, d3_8, d3_9, d3_10, d3_f⟩ := cells11 (CQ.out w3 L3.out.2)
  clear d2_0 d2_1 d2_2 d2_3 d2_4 d2_5 d2_6 d2_7 d2_8 d2_9 d2_10 d2_f o3 b3
  go_wp2_with fail
  refine (C4.out _ L3.out.1).mono ?_
  rintro e w4 ⟨rfl, o4, b4⟩
  have L4 : Hid (OutAt w4 b (Px.sgn (Px.sgn (Px.sgn (Px.sgn o [99, 97, 108, 108]) x.word.data.toList) [40]) [41]) ∧ Below b w w4) := ⟨o4, L3.out.2.trans b4⟩
  obtain ⟨d4_0, d4_1, d4_2, d4_3, d4_4, d4_5, d4_6, d4_7, d4_8, d4_9, d4_10, d4_f⟩ := cells11 (CQ.out w4 L4.out.2)
  clear d3_0 d3_1 d3_2 d3_3 d3_4 d3_5 d3_6 d3_7 d3_8 d3_9 d3_10 d3_f o4 b4
  go_wp2_with fail
  refine (C5.out _ L4.out.1).mono ?_
  rintro e w5 ⟨rfl, o5, b5⟩
  have L5 : Hid (OutAt w5 b (Px.sgn (Px.sgn (Px.sgn (Px.sgn (Px.sgn o [99, 97, 108, 108]) x.word.data.toList) [40]) [41]) [117, 110, 100, 111]) ∧ Below b w w5) := ⟨o5, L4.out.2.trans b5⟩
  obtain ⟨d5_0, d5_1, d5_2, d5_3, d5_4, d5_5, d5_6, d5_7, d5_8, d5_9, d5_10, d5_f⟩ := cells11 (CQ.out w5 L5.out.2)
  clear d4_0 d4_1 d4_2 d4_3 d4_4 d4_5 d4_6 d4_7 d4_8 d4_9 d4_10 d4_f o5 b5
  go_wp2_with fail
  refine (C6.out _ L5.out.1).mono ?_
  rintro e w6 ⟨rfl, o6, b6⟩
  have L6 : Hid (OutAt w6 b (Px.sgn (Px.sgn (Px.sgn (Px.sgn (Px.sgn (Px.sgn o [99, 97, 108, 108]) x.word.data.toList) [40]) [41]) [117, 110, 100, 111]) x.undo.data.toList) ∧ Below b w w6) := ⟨o6, L5.out.2.trans b6⟩
  obtain ⟨d6_0, d6_1, d6_2, d6_3, d6_4, d6_5, d6_6, d6_7, d6_8, d6_9, d6_10, d6_f⟩ := cells11 (CQ.out w6 L6.out.2)
  clear d5_0 d5_1 d5_2 d5_3 d5_4 d5_5 d5_6 d5_7 d5_8 d5_9 d5_10 d5_f o6 b6
  go_wp2_with fail
  refine (C7.out _ L6.out.1).mono ?_
  rintro e w7 ⟨rfl, o7, b7⟩
  have L7 : Hid (OutAt w7 b (Px.sgn (Px.sgn (Px.sgn (Px.sgn (Px.sgn (Px.sgn (Px.sgn o [99, 97, 108, 108]) x.word.data.toList) [40]) [41]) [117, 110, 100, 111]) x.undo.data.toList) [116, 114, 105, 101, 115]) ∧ Below b w w7) := ⟨o7, L6.out.2.trans b7⟩
  obtain ⟨d7_0, d7_1, d7_2, d7_3, d7_4, d7_5, d7_6, d7_7, d7_8, d7_9, d7_10, d7_f⟩ := cells11 (CQ.out w7 L7.out.2)
  clear d6_0 d6_1 d6_2 d6_3 d6_4 d6_5 d6_6 d6_7 d6_8 d6_9 d6_10 d6_f o7 b7
  go_wp2_with fail
  refine (C8.out _).mono ?_
  rintro e w9 ⟨S9, rfl, hS9, b9⟩
  have L9 : Hid (OutAt w9 b (Px.sgn (Px.sgn (Px.sgn (Px.sgn (Px.sgn (Px.sgn (Px.sgn o [99, 97, 108, 108]) x.word.data.toList) [40]) [41]) [117, 110, 100, 111]) x.undo.data.toList) [116, 114, 105, 101, 115]) ∧ Below b w w9) := ⟨L7.out.1.old b9, L7.out.2.trans (b9.mono (Nat.le_of_lt L7.out.1.lt))⟩
  have T9 : Hid (S9.data.toList = Px.dec x.n) := hS9
  obtain ⟨d9_0, d9_1, d9_2, d9_3, d9_4, d9_5, d9_6, d9_7, d9_8, d9_9, d9_10, d9_f⟩ := cells11 (CQ.out w9 L9.out.2)
  clear d7_0 d7_1 d7_2 d7_3 d7_4 d7_5 d7_6 d7_7 d7_8 d7_9 d7_10 d7_f hS9 b9
  go_wp2_with fail
  refine (C9.out _ S9 T9.out L9.out.1).mono ?_
  rintro e w8 ⟨rfl, o8, b8⟩
  have L8 : Hid (OutAt w8 b (Px.sgn (Px.sgn (Px.sgn (Px.sgn (Px.sgn (Px.sgn (Px.sgn (Px.sgn o [99, 97, 108, 108]) x.word.data.toList) [40]) [41]) [117, 110, 100, 111]) x.undo.data.toList) [116, 114, 105, 101, 115]) (Px.dec x.n)) ∧ Below b w w8) := ⟨o8, L9.out.2.trans b8⟩
  obtain ⟨d8_0, d8_1, d8_2, d8_3, d8_4, d8_5, d8_6, d8_7, d8_8, d8_9, d8_10, d8_f⟩ := cells11 (CQ.out w8 L8.out.2)
  clear d9_0 d9_1 d9_2 d9_3 d9_4 d9_5 d9_6 d9_7 d9_8 d9_9 d9_10 d9_f o8 b8
  go_wp2_with fail
  refine (C10.out _ L8.out.1).mono ?_
  rintro e w10 ⟨rfl, o10, b10⟩
  have L10 : Hid (OutAt w10 b (Px.sgn (Px.sgn (Px.sgn (Px.sgn (Px.sgn (Px.sgn (Px.sgn (Px.sgn (Px.sgn o [99, 97, 108, 108]) x.word.data.toList) [40]) [41]) [117, 110, 100, 111]) x.undo.data.toList) [116, 114, 105, 101, 115]) (Px.dec x.n)) [59]) ∧ Below b w w10) := ⟨o10, L8.out.2.trans b10⟩
  obtain ⟨d10_0, d10_1, d10_2, d10_3, d10_4, d10_5, d10_6, d10_7, d10_8, d10_9, d10_10, d10_f⟩ := cells11 (CQ.out w10 L10.out.2)
  clear d8_0 d8_1 d8_2 d8_3 d8_4 d8_5 d8_6 d8_7 d8_8 d8_9 d8_10 d8_f o10 b10
  go_wp2_with fail
  go_end0
  rw [EQ.out]
  exact ⟨rfl, L10.out.1, L10.out.2⟩

set_option maxRecDepth 100000 in
set_option maxHeartbeats 8000000 in
theorem outC_0100 (b : Nat) (x : Px.Sm) (hop : x.op = 99) (hE : x.ex = none) (ha : 0 < x.asw.size) (hu : x.undo.size = 0) (hT : x.n = 1) : OutC b x := by
  intro w o ok q hx hok h hw hg hl
  obtain ⟨hq, ve, v1, v2, q1, q2, hv, e3, e4, e5, e6, e7⟩ := hx
  have hqb := hok q hq
  unfold Px.szX at hl
  rw [hE] at e3
  have e3' : ve = .pointer none := e3
  subst e3'
  obtain ⟨d0_0, d0_1, d0_2, d0_3, d0_4, d0_5, d0_6, d0_7, d0_8, d0_9, d0_10, d0_f⟩ := cells11 hv
  have CQ : Hid (∀ W, Below b w W → W.heap[q]? = some (.cells (smCells x (.pointer none) v1 v2) 106)) := fun W hW => by rw [hW.block q hqb]; exact hv
  have hwl : x.word.data.toList.length = x.word.size := rfl
  have ha' : x.asw.toList.isEmpty = false := empty_not ha
  have hu' : x.undo.toList.isEmpty = true := empty_size hu
  have hT' : ((x.n : Int) == 1) = true := by rw [hT]; rfl
  have hal : x.asw.data.toList.length = x.asw.size := rfl
  have hul : x.undo.data.toList.length = x.undo.size := rfl
  have s1 := Px.sgn_len o [99, 97, 108, 108]
  have s2 := Px.sgn_len (Px.sgn o [99, 97, 108, 108]) x.word.data.toList
  have s3 := Px.sgn_len (Px.sgn (Px.sgn o [99, 97, 108, 108]) x.word.data.toList) [40]
  have s4 := Px.sgn_len (Px.sgn (Px.sgn (Px.sgn o [99, 97, 108, 108]) x.word.data.toList) [40]) [41]
  have s5 := Px.sgn_len (Px.sgn (Px.sgn (Px.sgn (Px.sgn o [99, 97, 108, 108]) x.word.data.toList) [40]) [41]) [97, 115]
  have s6 := Px.sgn_len (Px.sgn (Px.sgn (Px.sgn (Px.sgn (Px.sgn o [99, 97, 108, 108]) x.word.data.toList) [40]) [41]) [97, 115]) x.asw.data.toList
  have s7 := Px.sgn_len (Px.sgn (Px.sgn (Px.sgn (Px.sgn (Px.sgn (Px.sgn o [99, 97, 108, 108]) x.word.data.toList) [40]) [41]) [97, 115]) x.asw.data.toList) [59]
  simp only [List.length_cons, List.length_nil] at *
  have C1 : Hid (∀ W, OutAt W b o → Calls Tryz.prog 36 #[.pointer (some ⟨b, 0, none⟩), .string ⟨#[99, 97, 108, 108]⟩] W (OPost b W (Px.sgn o [99, 97, 108, 108]))) := fun W hO => outSign b _ ⟨#[99, 97, 108, 108]⟩ W hO (by decide) (by show _ + 4 ≤ _; omega)
  have C2 : Hid (∀ W, OutAt W b (Px.sgn o [99, 97, 108, 108]) → Calls Tryz.prog 36 #[.pointer (some ⟨b, 0, none⟩), .string x.word] W (OPost b W (Px.sgn (Px.sgn o [99, 97, 108, 108]) x.word.data.toList))) := fun W hO => outSign b _ x.word W hO (hg.1 (Or.inr hop)) (by show _ + x.word.size ≤ _; omega)
  have C3 : Hid (∀ W, OutAt W b (Px.sgn (Px.sgn o [99, 97, 108, 108]) x.word.data.toList) → Calls Tryz.prog 36 #[.pointer (some ⟨b, 0, none⟩), .string ⟨#[40]⟩] W (OPost b W (Px.sgn (Px.sgn (Px.sgn o [99, 97, 108, 108]) x.word.data.toList) [40]))) := fun W hO => outSign b _ ⟨#[40]⟩ W hO (by decide) (by show _ + 1 ≤ _; omega)
  have C4 : Hid (∀ W, OutAt W b (Px.sgn (Px.sgn (Px.sgn o [99, 97, 108, 108]) x.word.data.toList) [40]) → Calls Tryz.prog 36 #[.pointer (some ⟨b, 0, none⟩), .string ⟨#[41]⟩] W (OPost b W (Px.sgn (Px.sgn (Px.sgn (Px.sgn o [99, 97, 108, 108]) x.word.data.toList) [40]) [41]))) := fun W hO => outSign b _ ⟨#[41]⟩ W hO (by decide) (by show _ + 1 ≤ _; omega)
  have C5 : Hid (∀ W, OutAt W b (Px.sgn (Px.sgn (Px.sgn (Px.sgn o [99, 97, 108, 108]) x.word.data.toList) [40]) [41]) → Calls Tryz.prog 36 #[.pointer (some ⟨b, 0, none⟩), .string ⟨#[97, 115]⟩] W (OPost b W (Px.sgn (Px.sgn (Px.sgn (Px.sgn (Px.sgn o [99, 97, 108, 108]) x.word.data.toList) [40]) [41]) [97, 115]))) := fun W hO => outSign b _ ⟨#[97, 115]⟩ W hO (by decide) (by show _ + 2 ≤ _; omega)
  have C6 : Hid (∀ W, OutAt W b (Px.sgn (Px.sgn (Px.sgn (Px.sgn (Px.sgn o [99, 97, 108, 108]) x.word.data.toList) [40]) [41]) [97, 115]) → Calls Tryz.prog 36 #[.pointer (some ⟨b, 0, none⟩), .string x.asw] W (OPost b W (Px.sgn (Px.sgn (Px.sgn (Px.sgn (Px.sgn (Px.sgn o [99, 97, 108, 108]) x.word.data.toList) [40]) [41]) [97, 115]) x.asw.data.toList))) := fun W hO => outSign b _ x.asw W hO ha (by show _ + x.asw.size ≤ _; omega)
  have C7 : Hid (∀ W, OutAt W b (Px.sgn (Px.sgn (Px.sgn (Px.sgn (Px.sgn (Px.sgn o [99, 97, 108, 108]) x.word.data.toList) [40]) [41]) [97, 115]) x.asw.data.toList) → Calls Tryz.prog 36 #[.pointer (some ⟨b, 0, none⟩), .string ⟨#[59]⟩] W (OPost b W (Px.sgn (Px.sgn (Px.sgn (Px.sgn (Px.sgn (Px.sgn (Px.sgn o [99, 97, 108, 108]) x.word.data.toList) [40]) [41]) [97, 115]) x.asw.data.toList) [59]))) := fun W hO => outSign b _ ⟨#[59]⟩ W hO (by decide) (by show _ + 1 ≤ _; omega)
  have L0 : Hid (OutAt w b o ∧ Below b w w) := ⟨h, Below.refl _ _⟩
  have EQ : Hid (Px.wrX x o = Px.sgn (Px.sgn (Px.sgn (Px.sgn (Px.sgn (Px.sgn (Px.sgn o [99, 97, 108, 108]) x.word.data.toList) [40]) [41]) [97, 115]) x.asw.data.toList) [59]) := by unfold Hid; rw [Px.wrX_eq, if_neg (by omega), if_pos hop, Px.wrTries, if_pos hT, Px.wrUndo, if_pos hu, Px.wrAs, if_neg (by omega), hE]; rfl
  clear h hok hg hw hl hv e4 e5 e6 e7 e3 s1 s2 s3 s4 s5 s6 s7
  go_enter Tryz.func38, Tryz.ntmps38
  go_wp2_with fail
  refine (C1.out _ L0.out.1).mono ?_
  rintro e w1 ⟨rfl, o1, b1⟩
  have L1 : Hid (OutAt w1 b (Px.sgn o [99, 97, 108, 108]) ∧ Below b w w1) := ⟨o1, L0.out.2.trans b1⟩
  obtain ⟨d1_0, d1_1, d1_2, d1_3, d1_4, d1_5, d1_6, d1_7, d1_8, d1_9, d1_10, d1_f⟩ := cells11 (CQ.out w1 L1.out.2)
  clear d0_0 d0_1 d0_2 d0_3 d0_4 d0_5 d0_6 d0_7 d0_8 d0_9 d0_10 d0_f o1 b1
  go_wp2_with fail
  refine (C2.out _ L1.out.1).mono ?_
  rintro e w2 ⟨rfl, o2, b2⟩
  have L2 : Hid (OutAt w2 b (Px.sgn (Px.sgn o [99, 97, 108, 108]) x.word.data.toList) ∧ Below b w w2) := ⟨o2, L1.out.2.trans b2⟩
  obtain ⟨d2_0, d2_1, d2_2, d2_3, d2_4, d2_5, d2_6, d2_7, d2_8, d2_9, d2_10, d2_f⟩ := cells11 (CQ.out w2 L2.out.2)
  clear d1_0 d1_1 d1_2 d1_3 d1_4 d1_5 d1_6 d1_7 d1_8 d1_9 d1_10 d1_f o2 b2
  go_wp2_with fail
  refine (C3.out _ L2.out.1).mono ?_
  rintro e w3 ⟨rfl, o3, b3⟩
  have L3 : Hid (OutAt w3 b (Px.sgn (Px.sgn (Px.sgn o [99, 97, 108, 108]) x.word.data.toList) [40]) ∧ Below b w w3) := ⟨o3, L2.out.2.trans b3⟩
  obtain ⟨d3_0, d3_1, d3_2, d3_3, d3_4, d3_5, d3_6, d3_7, d3_8, d3_9, d3_10, d3_f⟩ := cells11 (CQ.out w3 L3.out.2)
  clear d2_0 d2_1 d2_2 d2_3 d2_4 d2_5 d2_6 d2_7 d2_8 d2_9 d2_10 d2_f o3 b3
  go_wp2_with fail
  refine (C4.out _ L3.out.1).mono ?_
  rintro e w4 ⟨rfl, o4, b4⟩
  have L4 : Hid (OutAt w4 b (Px.sgn (Px.sgn (Px.sgn (Px.sgn o [99, 97, 108, 108]) x.word.data.toList) [40]) [41]) ∧ Below b w w4) := ⟨o4, L3.out.2.trans b4⟩
  obtain ⟨d4_0, d4_1, d4_2, d4_3, d4_4, d4_5, d4_6, d4_7, d4_8, d4_9, d4_10, d4_f⟩ := cells11 (CQ.out w4 L4.out.2)
  clear d3_0 d3_1 d3_2 d3_3 d3_4 d3_5 d3_6 d3_7 d3_8 d3_9 d3_10 d3_f o4 b4
  go_wp2_with fail
  refine (C5.out _ L4.out.1).mono ?_
  rintro e w5 ⟨rfl, o5, b5⟩
  have L5 : Hid (OutAt w5 b (Px.sgn (Px.sgn (Px.sgn (Px.sgn (Px.sgn o [99, 97, 108, 108]) x.word.data.toList) [40]) [41]) [97, 115]) ∧ Below b w w5) := ⟨o5, L4.out.2.trans b5⟩
  obtain ⟨d5_0, d5_1, d5_2, d5_3, d5_4, d5_5, d5_6, d5_7, d5_8, d5_9, d5_10, d5_f⟩ := cells11 (CQ.out w5 L5.out.2)
  clear d4_0 d4_1 d4_2 d4_3 d4_4 d4_5 d4_6 d4_7 d4_8 d4_9 d4_10 d4_f o5 b5
  go_wp2_with fail
  refine (C6.out _ L5.out.1).mono ?_
  rintro e w6 ⟨rfl, o6, b6⟩
  have L6 : Hid (OutAt w6 b (Px.sgn (Px.sgn (Px.sgn (Px.sgn (Px.sgn (Px.sgn o [99, 97, 108, 108]) x.word.data.toList) [40]) [41]) [97, 115]) x.asw.data.toList) ∧ Below b w w6) := ⟨o6, L5.out.2.trans b6⟩
  obtain ⟨d6_0, d6_1, d6_2, d6_3, d6_4, d6_5, d6_6, d6_7, d6_8, d6_9, d6_10, d6_f⟩ := cells11 (CQ.out w6 L6.out.2)
  clear d5_0 d5_1 d5_2 d5_3 d5_4 d5_5 d5_6 d5_7 d5_8 d5_9 d5_10 d5_f o6 b6
  go_wp2_with fail
  refine (C7.out _ L6.out.1).mono ?_
  rintro e w7 ⟨rfl, o7, b7⟩
  have L7 : Hid (OutAt w7 b (Px.sgn (Px.sgn (Px.sgn (Px.sgn (Px.sgn (Px.sgn (Px.sgn o [99, 97, 108, 108]) x.word.data.toList) [40]) [41]) [97, 115]) x.asw.data.toList) [59]) ∧ Below b w w7) := ⟨o7, L6.out.2.trans b7⟩
  obtain ⟨d7_0, d7_1, d7_2, d7_3, d7_4, d7_5, d7_6, d7_7, d7_8, d7_9, d7_10, d7_f⟩ := cells11 (CQ.out w7 L7.out.2)
  clear d6_0 d6_1 d6_2 d6_3 d6_4 d6_5 d6_6 d6_7 d6_8 d6_9 d6_10 d6_f o7 b7
  go_wp2_with fail
  go_end0
  rw [EQ.out]
  exact ⟨rfl, L7.out.1, L7.out.2⟩

set_option maxRecDepth 100000 in
set_option maxHeartbeats 8000000 in
theorem outC_0101 (b : Nat) (x : Px.Sm) (hop : x.op = 99) (hE : x.ex = none) (ha : 0 < x.asw.size) (hu : x.undo.size = 0) (hT : x.n ≠ 1) : OutC b x := by
  intro w o ok q hx hok h hw hg hl
  obtain ⟨hq, ve, v1, v2, q1, q2, hv, e3, e4, e5, e6, e7⟩ := hx
  have hqb := hok q hq
  unfold Px.szX at hl
  rw [hE] at e3
  have e3' : ve = .pointer none := e3
  subst e3'
  obtain ⟨d0_0, d0_1, d0_2, d0_3, d0_4, d0_5, d0_6, d0_7, d0_8, d0_9, d0_10, d0_f⟩ := cells11 hv
  have CQ : Hid (∀ W, Below b w W → W.heap[q]? = some (.cells (smCells x (.pointer none) v1 v2) 106)) := fun W hW => by rw [hW.block q hqb]; exact hv
  have hwl : x.word.data.toList.length = x.word.size := rfl
  have ha' : x.asw.toList.isEmpty = false := empty_not ha
  have hu' : x.undo.toList.isEmpty = true := empty_size hu
  have hT' : ((x.n : Int) == 1) = false := by rw [beq_eq_false_iff_ne]; omega
  have hal : x.asw.data.toList.length = x.asw.size := rfl
  have hul : x.undo.data.toList.length = x.undo.size := rfl
  have s1 := Px.sgn_len o [99, 97, 108, 108]
  have s2 := Px.sgn_len (Px.sgn o [99, 97, 108, 108]) x.word.data.toList
  have s3 := Px.sgn_len (Px.sgn (Px.sgn o [99, 97, 108, 108]) x.word.data.toList) [40]
  have s4 := Px.sgn_len (Px.sgn (Px.sgn (Px.sgn o [99, 97, 108, 108]) x.word.data.toList) [40]) [41]
  have s5 := Px.sgn_len (Px.sgn (Px.sgn (Px.sgn (Px.sgn o [99, 97, 108, 108]) x.word.data.toList) [40]) [41]) [97, 115]
  have s6 := Px.sgn_len (Px.sgn (Px.sgn (Px.sgn (Px.sgn (Px.sgn o [99, 97, 108, 108]) x.word.data.toList) [40]) [41]) [97, 115]) x.asw.data.toList
  have s7 := Px.sgn_len (Px.sgn (Px.sgn (Px.sgn (Px.sgn (Px.sgn (Px.sgn o [99, 97, 108, 108]) x.word.data.toList) [40]) [41]) [97, 115]) x.asw.data.toList) [116, 114, 105, 101, 115]
  have s8 := Px.sgn_len (Px.sgn (Px.sgn (Px.sgn (Px.sgn (Px.sgn (Px.sgn (Px.sgn o [99, 97, 108, 108]) x.word.data.toList) [40]) [41]) [97, 115]) x.asw.data.toList) [116, 114, 105, 101, 115]) (Px.dec x.n)
  have s9 := Px.dec_len x.n
  have s10 := dec_pos x.n
  have s11 := Px.sgn_len (Px.sgn (Px.sgn (Px.sgn (Px.sgn (Px.sgn (Px.sgn (Px.sgn (Px.sgn o [99, 97, 108, 108]) x.word.data.toList) [40]) [41]) [97, 115]) x.asw.data.toList) [116, 114, 105, 101, 115]) (Px.dec x.n)) [59]
  simp only [List.length_cons, List.length_nil] at *
  have C1 : Hid (∀ W, OutAt W b o → Calls Tryz.prog 36 #[.pointer (some ⟨b, 0, none⟩), .string ⟨#[99, 97, 108, 108]⟩] W (OPost b W (Px.sgn o [99, 97, 108, 108]))) := fun W hO => outSign b _ ⟨#[99, 97, 108, 108]⟩ W hO (by decide) (by show _ + 4 ≤ _; omega)
  have C2 : Hid (∀ W, OutAt W b (Px.sgn o [99, 97, 108, 108]) → Calls Tryz.prog 36 #[.pointer (some ⟨b, 0, none⟩), .string x.word] W (OPost b W (Px.sgn (Px.sgn o [99, 97, 108, 108]) x.word.data.toList))) := fun W hO => outSign b _ x.word W hO (hg.1 (Or.inr hop)) (by show _ + x.word.size ≤ _; omega)
  have C3 : Hid (∀ W, OutAt W b (Px.sgn (Px.sgn o [99, 97, 108, 108]) x.word.data.toList) → Calls Tryz.prog 36 #[.pointer (some ⟨b, 0, none⟩), .string ⟨#[40]⟩] W (OPost b W (Px.sgn (Px.sgn (Px.sgn o [99, 97, 108, 108]) x.word.data.toList) [40]))) := fun W hO => outSign b _ ⟨#[40]⟩ W hO (by decide) (by show _ + 1 ≤ _; omega)
  have C4 : Hid (∀ W, OutAt W b (Px.sgn (Px.sgn (Px.sgn o [99, 97, 108, 108]) x.word.data.toList) [40]) → Calls Tryz.prog 36 #[.pointer (some ⟨b, 0, none⟩), .string ⟨#[41]⟩] W (OPost b W (Px.sgn (Px.sgn (Px.sgn (Px.sgn o [99, 97, 108, 108]) x.word.data.toList) [40]) [41]))) := fun W hO => outSign b _ ⟨#[41]⟩ W hO (by decide) (by show _ + 1 ≤ _; omega)
  have C5 : Hid (∀ W, OutAt W b (Px.sgn (Px.sgn (Px.sgn (Px.sgn o [99, 97, 108, 108]) x.word.data.toList) [40]) [41]) → Calls Tryz.prog 36 #[.pointer (some ⟨b, 0, none⟩), .string ⟨#[97, 115]⟩] W (OPost b W (Px.sgn (Px.sgn (Px.sgn (Px.sgn (Px.sgn o [99, 97, 108, 108]) x.word.data.toList) [40]) [41]) [97, 115]))) := fun W hO => outSign b _ ⟨#[97, 115]⟩ W hO (by decide) (by show _ + 2 ≤ _; omega)
  have C6 : Hid (∀ W, OutAt W b (Px.sgn (Px.sgn (Px.sgn (Px.sgn (Px.sgn o [99, 97, 108, 108]) x.word.data.toList) [40]) [41]) [97, 115]) → Calls Tryz.prog 36 #[.pointer (some ⟨b, 0, none⟩), .string x.asw] W (OPost b W (Px.sgn (Px.sgn (Px.sgn (Px.sgn (Px.sgn (Px.sgn o [99, 97, 108, 108]) x.word.data.toList) [40]) [41]) [97, 115]) x.asw.data.toList))) := fun W hO => outSign b _ x.asw W hO ha (by show _ + x.asw.size ≤ _; omega)
  have C7 : Hid (∀ W, OutAt W b (Px.sgn (Px.sgn (Px.sgn (Px.sgn (Px.sgn (Px.sgn o [99, 97, 108, 108]) x.word.data.toList) [40]) [41]) [97, 115]) x.asw.data.toList) → Calls Tryz.prog 36 #[.pointer (some ⟨b, 0, none⟩), .string ⟨#[116, 114, 105, 101, 115]⟩] W (OPost b W (Px.sgn (Px.sgn (Px.sgn (Px.sgn (Px.sgn (Px.sgn (Px.sgn o [99, 97, 108, 108]) x.word.data.toList) [40]) [41]) [97, 115]) x.asw.data.toList) [116, 114, 105, 101, 115]))) := fun W hO => outSign b _ ⟨#[116, 114, 105, 101, 115]⟩ W hO (by decide) (by show _ + 5 ≤ _; omega)
  have C8 : Hid (∀ W, Calls Tryz.prog 40 #[.int .i64 (x.n : Int)] W (DecPost x.n W)) := dec_any x.n hg.2.1
  have C9 : Hid (∀ W (S : ByteArray), S.data.toList = Px.dec x.n → OutAt W b (Px.sgn (Px.sgn (Px.sgn (Px.sgn (Px.sgn (Px.sgn (Px.sgn o [99, 97, 108, 108]) x.word.data.toList) [40]) [41]) [97, 115]) x.asw.data.toList) [116, 114, 105, 101, 115]) → Calls Tryz.prog 36 #[.pointer (some ⟨b, 0, none⟩), .string S] W (OPost b W (Px.sgn (Px.sgn (Px.sgn (Px.sgn (Px.sgn (Px.sgn (Px.sgn (Px.sgn o [99, 97, 108, 108]) x.word.data.toList) [40]) [41]) [97, 115]) x.asw.data.toList) [116, 114, 105, 101, 115]) (Px.dec x.n)))) := fun W S hS hO => by
    have hz : S.size = (Px.dec x.n).length := by rw [← hS]; rfl
    rw [← hS]
    exact outSign b _ S W hO (by omega) (by omega)
  have C10 : Hid (∀ W, OutAt W b (Px.sgn (Px.sgn (Px.sgn (Px.sgn (Px.sgn (Px.sgn (Px.sgn (Px.sgn o [99, 97, 108, 108]) x.word.data.toList) [40]) [41]) [97, 115]) x.asw.data.toList) [116, 114, 105, 101, 115]) (Px.dec x.n)) → Calls Tryz.prog 36 #[.pointer (some ⟨b, 0, none⟩), .string ⟨#[59]⟩] W (OPost b W (Px.sgn (Px.sgn (Px.sgn (Px.sgn (Px.sgn (Px.sgn (Px.sgn (Px.sgn (Px.sgn o [99, 97, 108, 108]) x.word.data.toList) [40]) [41]) [97, 115]) x.asw.data.toList) [116, 114, 105, 101, 115]) (Px.dec x.n)) [59]))) := fun W hO => outSign b _ ⟨#[59]⟩ W hO (by decide) (by show _ + 1 ≤ _; omega)
  have L0 : Hid (OutAt w b o ∧ Below b w w) := ⟨h, Below.refl _ _⟩
  have EQ : Hid (Px.wrX x o = Px.sgn (Px.sgn (Px.sgn (Px.sgn (Px.sgn (Px.sgn (Px.sgn (Px.sgn (Px.sgn o [99, 97, 108, 108]) x.word.data.toList) [40]) [41]) [97, 115]) x.asw.data.toList) [116, 114, 105, 101, 115]) (Px.dec x.n)) [59]) := by unfold Hid; rw [Px.wrX_eq, if_neg (by omega), if_pos hop, Px.wrTries, if_neg hT, Px.wrUndo, if_pos hu, Px.wrAs, if_neg (by omega), hE]; rfl
  clear h hok hg hw hl hv e4 e5 e6 e7 e3 s1 s2 s3 s4 s5 s6 s7 s8 s9 s10 s11
  go_enter Tryz.func38, Tryz.ntmps38
  go_wp2_with fail
  refine (C1.out _ L0.out.1).mono ?_
  rintro e w1 ⟨rfl, o1, b1⟩
  have L1 : Hid (OutAt w1 b (Px.sgn o [99, 97, 108, 108]) ∧ Below b w w1) := ⟨o1, L0.out.2.trans b1⟩
  obtain ⟨d1_0, d1_1, d1_2, d1_3, d1_4, d1_5, d1_6, d1_7, d1_8, d1_9, d1_10, d1_f⟩ := cells11 (CQ.out w1 L1.out.2)
  clear d0_0 d0_1 d0_2 d0_3 d0_4 d0_5 d0_6 d0_7 d0_8 d0_9 d0_10 d0_f o1 b1
  go_wp2_with fail
  refine (C2.out _ L1.out.1).mono ?_
  rintro e w2 ⟨rfl, o2, b2⟩
  have L2 : Hid (OutAt w2 b (Px.sgn (Px.sgn o [99, 97, 108, 108]) x.word.data.toList) ∧ Below b w w2) := ⟨o2, L1.out.2.trans b2⟩
  obtain ⟨d2_0, d2_1, d2_2, d2_3, d2_4, d2_5, d2_6, d2_7, d2_8, d2_9, d2_10, d2_f⟩ := cells11 (CQ.out w2 L2.out.2)
  clear d1_0 d1_1 d1_2 d1_3 d1_4 d1_5 d1_6 d1_7 d1_8 d1_9 d1_10 d1_f o2 b2
  go_wp2_with fail
  refine (C3.out _ L2.out.1).mono ?_
  rintro e w3 ⟨rfl, o3, b3⟩
  have L3 : Hid (OutAt w3 b (Px.sgn (Px.sgn (Px.sgn o [99, 97, 108, 108]) x.word.data.toList) [40]) ∧ Below b w w3) := ⟨o3, L2.out.2.trans b3⟩
  obtain ⟨d3_0, d3_1, d3_2, d3_3, d3_4, d3_5, d3_6, d3_7, d3_8, d3_9, d3_10, d3_f⟩ := cells11 (CQ.out w3 L3.out.2)
  clear d2_0 d2_1 d2_2 d2_3 d2_4 d2_5 d2_6 d2_7 d2_8 d2_9 d2_10 d2_f o3 b3
  go_wp2_with fail
  refine (C4.out _ L3.out.1).mono ?_
  rintro e w4 ⟨rfl, o4, b4⟩
  have L4 : Hid (OutAt w4 b (Px.sgn (Px.sgn (Px.sgn (Px.sgn o [99, 97, 108, 108]) x.word.data.toList) [40]) [41]) ∧ Below b w w4) := ⟨o4, L3.out.2.trans b4⟩
  obtain ⟨d4_0, d4_1, d4_2, d4_3, d4_4, d4_5, d4_6, d4_7, d4_8, d4_9, d4_10, d4_f⟩ := cells11 (CQ.out w4 L4.out.2)
  clear d3_0 d3_1 d3_2 d3_3 d3_4 d3_5 d3_6 d3_7 d3_8 d3_9 d3_10 d3_f o4 b4
  go_wp2_with fail
  refine (C5.out _ L4.out.1).mono ?_
  rintro e w5 ⟨rfl, o5, b5⟩
  have L5 : Hid (OutAt w5 b (Px.sgn (Px.sgn (Px.sgn (Px.sgn (Px.sgn o [99, 97, 108, 108]) x.word.data.toList) [40]) [41]) [97, 115]) ∧ Below b w w5) := ⟨o5, L4.out.2.trans b5⟩
  obtain ⟨d5_0, d5_1, d5_2, d5_3, d5_4, d5_5, d5_6, d5_7, d5_8, d5_9, d5_10, d5_f⟩ := cells11 (CQ.out w5 L5.out.2)
  clear d4_0 d4_1 d4_2 d4_3 d4_4 d4_5 d4_6 d4_7 d4_8 d4_9 d4_10 d4_f o5 b5
  go_wp2_with fail
  refine (C6.out _ L5.out.1).mono ?_
  rintro e w6 ⟨rfl, o6, b6⟩
  have L6 : Hid (OutAt w6 b (Px.sgn (Px.sgn (Px.sgn (Px.sgn (Px.sgn (Px.sgn o [99, 97, 108, 108]) x.word.data.toList) [40]) [41]) [97, 115]) x.asw.data.toList) ∧ Below b w w6) := ⟨o6, L5.out.2.trans b6⟩
  obtain ⟨d6_0, d6_1, d6_2, d6_3, d6_4, d6_5, d6_6, d6_7, d6_8, d6_9, d6_10, d6_f⟩ := cells11 (CQ.out w6 L6.out.2)
  clear d5_0 d5_1 d5_2 d5_3 d5_4 d5_5 d5_6 d5_7 d5_8 d5_9 d5_10 d5_f o6 b6
  go_wp2_with fail
  refine (C7.out _ L6.out.1).mono ?_
  rintro e w7 ⟨rfl, o7, b7⟩
  have L7 : Hid (OutAt w7 b (Px.sgn (Px.sgn (Px.sgn (Px.sgn (Px.sgn (Px.sgn (Px.sgn o [99, 97, 108, 108]) x.word.data.toList) [40]) [41]) [97, 115]) x.asw.data.toList) [116, 114, 105, 101, 115]) ∧ Below b w w7) := ⟨o7, L6.out.2.trans b7⟩
  obtain ⟨d7_0, d7_1, d7_2, d7_3, d7_4, d7_5, d7_6, d7_7, d7_8, d7_9, d7_10, d7_f⟩ := cells11 (CQ.out w7 L7.out.2)
  clear d6_0 d6_1 d6_2 d6_3 d6_4 d6_5 d6_6 d6_7 d6_8 d6_9 d6_10 d6_f o7 b7
  go_wp2_with fail
  refine (C8.out _).mono ?_
  rintro e w9 ⟨S9, rfl, hS9, b9⟩
  have L9 : Hid (OutAt w9 b (Px.sgn (Px.sgn (Px.sgn (Px.sgn (Px.sgn (Px.sgn (Px.sgn o [99, 97, 108, 108]) x.word.data.toList) [40]) [41]) [97, 115]) x.asw.data.toList) [116, 114, 105, 101, 115]) ∧ Below b w w9) := ⟨L7.out.1.old b9, L7.out.2.trans (b9.mono (Nat.le_of_lt L7.out.1.lt))⟩
  have T9 : Hid (S9.data.toList = Px.dec x.n) := hS9
  obtain ⟨d9_0, d9_1, d9_2, d9_3, d9_4, d9_5, d9_6, d9_7, d9_8, d9_9, d9_10, d9_f⟩ := cells11 (CQ.out w9 L9.out.2)
  clear d7_0 d7_1 d7_2 d7_3 d7_4 d7_5 d7_6 d7_7 d7_8 d7_9 d7_10 d7_f hS9 b9
  go_wp2_with fail
  refine (C9.out _ S9 T9.out L9.out.1).mono ?_
  rintro e w8 ⟨rfl, o8, b8⟩
  have L8 : Hid (OutAt w8 b (Px.sgn (Px.sgn (Px.sgn (Px.sgn (Px.sgn (Px.sgn (Px.sgn (Px.sgn o [99, 97, 108, 108]) x.word.data.toList) [40]) [41]) [97, 115]) x.asw.data.toList) [116, 114, 105, 101, 115]) (Px.dec x.n)) ∧ Below b w w8) := ⟨o8, L9.out.2.trans b8⟩
  obtain ⟨d8_0, d8_1, d8_2, d8_3, d8_4, d8_5, d8_6, d8_7, d8_8, d8_9, d8_10, d8_f⟩ := cells11 (CQ.out w8 L8.out.2)
  clear d9_0 d9_1 d9_2 d9_3 d9_4 d9_5 d9_6 d9_7 d9_8 d9_9 d9_10 d9_f o8 b8
  go_wp2_with fail
  refine (C10.out _ L8.out.1).mono ?_
  rintro e w10 ⟨rfl, o10, b10⟩
  have L10 : Hid (OutAt w10 b (Px.sgn (Px.sgn (Px.sgn (Px.sgn (Px.sgn (Px.sgn (Px.sgn (Px.sgn (Px.sgn o [99, 97, 108, 108]) x.word.data.toList) [40]) [41]) [97, 115]) x.asw.data.toList) [116, 114, 105, 101, 115]) (Px.dec x.n)) [59]) ∧ Below b w w10) := ⟨o10, L8.out.2.trans b10⟩
  obtain ⟨d10_0, d10_1, d10_2, d10_3, d10_4, d10_5, d10_6, d10_7, d10_8, d10_9, d10_10, d10_f⟩ := cells11 (CQ.out w10 L10.out.2)
  clear d8_0 d8_1 d8_2 d8_3 d8_4 d8_5 d8_6 d8_7 d8_8 d8_9 d8_10 d8_f o10 b10
  go_wp2_with fail
  go_end0
  rw [EQ.out]
  exact ⟨rfl, L10.out.1, L10.out.2⟩

set_option maxRecDepth 100000 in
set_option maxHeartbeats 8000000 in
theorem outC_0110 (b : Nat) (x : Px.Sm) (hop : x.op = 99) (hE : x.ex = none) (ha : 0 < x.asw.size) (hu : 0 < x.undo.size) (hT : x.n = 1) : OutC b x := by
  intro w o ok q hx hok h hw hg hl
  obtain ⟨hq, ve, v1, v2, q1, q2, hv, e3, e4, e5, e6, e7⟩ := hx
  have hqb := hok q hq
  unfold Px.szX at hl
  rw [hE] at e3
  have e3' : ve = .pointer none := e3
  subst e3'
  obtain ⟨d0_0, d0_1, d0_2, d0_3, d0_4, d0_5, d0_6, d0_7, d0_8, d0_9, d0_10, d0_f⟩ := cells11 hv
  have CQ : Hid (∀ W, Below b w W → W.heap[q]? = some (.cells (smCells x (.pointer none) v1 v2) 106)) := fun W hW => by rw [hW.block q hqb]; exact hv
  have hwl : x.word.data.toList.length = x.word.size := rfl
  have ha' : x.asw.toList.isEmpty = false := empty_not ha
  have hu' : x.undo.toList.isEmpty = false := empty_not hu
  have hT' : ((x.n : Int) == 1) = true := by rw [hT]; rfl
  have hal : x.asw.data.toList.length = x.asw.size := rfl
  have hul : x.undo.data.toList.length = x.undo.size := rfl
  have s1 := Px.sgn_len o [99, 97, 108, 108]
  have s2 := Px.sgn_len (Px.sgn o [99, 97, 108, 108]) x.word.data.toList
  have s3 := Px.sgn_len (Px.sgn (Px.sgn o [99, 97, 108, 108]) x.word.data.toList) [40]
  have s4 := Px.sgn_len (Px.sgn (Px.sgn (Px.sgn o [99, 97, 108, 108]) x.word.data.toList) [40]) [41]
  have s5 := Px.sgn_len (Px.sgn (Px.sgn (Px.sgn (Px.sgn o [99, 97, 108, 108]) x.word.data.toList) [40]) [41]) [97, 115]
  have s6 := Px.sgn_len (Px.sgn (Px.sgn (Px.sgn (Px.sgn (Px.sgn o [99, 97, 108, 108]) x.word.data.toList) [40]) [41]) [97, 115]) x.asw.data.toList
  have s7 := Px.sgn_len (Px.sgn (Px.sgn (Px.sgn (Px.sgn (Px.sgn (Px.sgn o [99, 97, 108, 108]) x.word.data.toList) [40]) [41]) [97, 115]) x.asw.data.toList) [117, 110, 100, 111]
  have s8 := Px.sgn_len (Px.sgn (Px.sgn (Px.sgn (Px.sgn (Px.sgn (Px.sgn (Px.sgn o [99, 97, 108, 108]) x.word.data.toList) [40]) [41]) [97, 115]) x.asw.data.toList) [117, 110, 100, 111]) x.undo.data.toList
  have s9 := Px.sgn_len (Px.sgn (Px.sgn (Px.sgn (Px.sgn (Px.sgn (Px.sgn (Px.sgn (Px.sgn o [99, 97, 108, 108]) x.word.data.toList) [40]) [41]) [97, 115]) x.asw.data.toList) [117, 110, 100, 111]) x.undo.data.toList) [59]
  simp only [List.length_cons, List.length_nil] at *
  have C1 : Hid (∀ W, OutAt W b o → Calls Tryz.prog 36 #[.pointer (some ⟨b, 0, none⟩), .string ⟨#[99, 97, 108, 108]⟩] W (OPost b W (Px.sgn o [99, 97, 108, 108]))) := fun W hO => outSign b _ ⟨#[99, 97, 108, 108]⟩ W hO (by decide) (by show _ + 4 ≤ _; omega)
  have C2 : Hid (∀ W, OutAt W b (Px.sgn o [99, 97, 108, 108]) → Calls Tryz.prog 36 #[.pointer (some ⟨b, 0, none⟩), .string x.word] W (OPost b W (Px.sgn (Px.sgn o [99, 97, 108, 108]) x.word.data.toList))) := fun W hO => outSign b _ x.word W hO (hg.1 (Or.inr hop)) (by show _ + x.word.size ≤ _; omega)
  have C3 : Hid (∀ W, OutAt W b (Px.sgn (Px.sgn o [99, 97, 108, 108]) x.word.data.toList) → Calls Tryz.prog 36 #[.pointer (some ⟨b, 0, none⟩), .string ⟨#[40]⟩] W (OPost b W (Px.sgn (Px.sgn (Px.sgn o [99, 97, 108, 108]) x.word.data.toList) [40]))) := fun W hO => outSign b _ ⟨#[40]⟩ W hO (by decide) (by show _ + 1 ≤ _; omega)
  have C4 : Hid (∀ W, OutAt W b (Px.sgn (Px.sgn (Px.sgn o [99, 97, 108, 108]) x.word.data.toList) [40]) → Calls Tryz.prog 36 #[.pointer (some ⟨b, 0, none⟩), .string ⟨#[41]⟩] W (OPost b W (Px.sgn (Px.sgn (Px.sgn (Px.sgn o [99, 97, 108, 108]) x.word.data.toList) [40]) [41]))) := fun W hO => outSign b _ ⟨#[41]⟩ W hO (by decide) (by show _ + 1 ≤ _; omega)
  have C5 : Hid (∀ W, OutAt W b (Px.sgn (Px.sgn (Px.sgn (Px.sgn o [99, 97, 108, 108]) x.word.data.toList) [40]) [41]) → Calls Tryz.prog 36 #[.pointer (some ⟨b, 0, none⟩), .string ⟨#[97, 115]⟩] W (OPost b W (Px.sgn (Px.sgn (Px.sgn (Px.sgn (Px.sgn o [99, 97, 108, 108]) x.word.data.toList) [40]) [41]) [97, 115]))) := fun W hO => outSign b _ ⟨#[97, 115]⟩ W hO (by decide) (by show _ + 2 ≤ _; omega)
  have C6 : Hid (∀ W, OutAt W b (Px.sgn (Px.sgn (Px.sgn (Px.sgn (Px.sgn o [99, 97, 108, 108]) x.word.data.toList) [40]) [41]) [97, 115]) → Calls Tryz.prog 36 #[.pointer (some ⟨b, 0, none⟩), .string x.asw] W (OPost b W (Px.sgn (Px.sgn (Px.sgn (Px.sgn (Px.sgn (Px.sgn o [99, 97, 108, 108]) x.word.data.toList) [40]) [41]) [97, 115]) x.asw.data.toList))) := fun W hO => outSign b _ x.asw W hO ha (by show _ + x.asw.size ≤ _; omega)
  have C7 : Hid (∀ W, OutAt W b (Px.sgn (Px.sgn (Px.sgn (Px.sgn (Px.sgn (Px.sgn o [99, 97, 108, 108]) x.word.data.toList) [40]) [41]) [97, 115]) x.asw.data.toList) → Calls Tryz.prog 36 #[.pointer (some ⟨b, 0, none⟩), .string ⟨#[117, 110, 100, 111]⟩] W (OPost b W (Px.sgn (Px.sgn (Px.sgn (Px.sgn (Px.sgn (Px.sgn (Px.sgn o [99, 97, 108, 108]) x.word.data.toList) [40]) [41]) [97, 115]) x.asw.data.toList) [117, 110, 100, 111]))) := fun W hO => outSign b _ ⟨#[117, 110, 100, 111]⟩ W hO (by decide) (by show _ + 4 ≤ _; omega)
  have C8 : Hid (∀ W, OutAt W b (Px.sgn (Px.sgn (Px.sgn (Px.sgn (Px.sgn (Px.sgn (Px.sgn o [99, 97, 108, 108]) x.word.data.toList) [40]) [41]) [97, 115]) x.asw.data.toList) [117, 110, 100, 111]) → Calls Tryz.prog 36 #[.pointer (some ⟨b, 0, none⟩), .string x.undo] W (OPost b W (Px.sgn (Px.sgn (Px.sgn (Px.sgn (Px.sgn (Px.sgn (Px.sgn (Px.sgn o [99, 97, 108, 108]) x.word.data.toList) [40]) [41]) [97, 115]) x.asw.data.toList) [117, 110, 100, 111]) x.undo.data.toList))) := fun W hO => outSign b _ x.undo W hO hu (by show _ + x.undo.size ≤ _; omega)
  have C9 : Hid (∀ W, OutAt W b (Px.sgn (Px.sgn (Px.sgn (Px.sgn (Px.sgn (Px.sgn (Px.sgn (Px.sgn o [99, 97, 108, 108]) x.word.data.toList) [40]) [41]) [97, 115]) x.asw.data.toList) [117, 110, 100, 111]) x.undo.data.toList) → Calls Tryz.prog 36 #[.pointer (some ⟨b, 0, none⟩), .string ⟨#[59]⟩] W (OPost b W (Px.sgn (Px.sgn (Px.sgn (Px.sgn (Px.sgn (Px.sgn (Px.sgn (Px.sgn (Px.sgn o [99, 97, 108, 108]) x.word.data.toList) [40]) [41]) [97, 115]) x.asw.data.toList) [117, 110, 100, 111]) x.undo.data.toList) [59]))) := fun W hO => outSign b _ ⟨#[59]⟩ W hO (by decide) (by show _ + 1 ≤ _; omega)
  have L0 : Hid (OutAt w b o ∧ Below b w w) := ⟨h, Below.refl _ _⟩
  have EQ : Hid (Px.wrX x o = Px.sgn (Px.sgn (Px.sgn (Px.sgn (Px.sgn (Px.sgn (Px.sgn (Px.sgn (Px.sgn o [99, 97, 108, 108]) x.word.data.toList) [40]) [41]) [97, 115]) x.asw.data.toList) [117, 110, 100, 111]) x.undo.data.toList) [59]) := by unfold Hid; rw [Px.wrX_eq, if_neg (by omega), if_pos hop, Px.wrTries, if_pos hT, Px.wrUndo, if_neg (by omega), Px.wrAs, if_neg (by omega), hE]; rfl
  clear h hok hg hw hl hv e4 e5 e6 e7 e3 s1 s2 s3 s4 s5 s6 s7 s8 s9
  go_enter Tryz.func38, Tryz.ntmps38
  go_wp2_with fail
  refine (C1.out _ L0.out.1).mono ?_
  rintro e w1 ⟨rfl, o1, b1⟩
  have L1 : Hid (OutAt w1 b (Px.sgn o [99, 97, 108, 108]) ∧ Below b w w1) := ⟨o1, L0.out.2.trans b1⟩
  obtain ⟨d1_0, d1_1, d1_2, d1_3, d1_4, d1_5, d1_6, d1_7, d1_8, d1_9, d1_10, d1_f⟩ := cells11 (CQ.out w1 L1.out.2)
  clear d0_0 d0_1 d0_2 d0_3 d0_4 d0_5 d0_6 d0_7 d0_8 d0_9 d0_10 d0_f o1 b1
  go_wp2_with fail
  refine (C2.out _ L1.out.1).mono ?_
  rintro e w2 ⟨rfl, o2, b2⟩
  have L2 : Hid (OutAt w2 b (Px.sgn (Px.sgn o [99, 97, 108, 108]) x.word.data.toList) ∧ Below b w w2) := ⟨o2, L1.out.2.trans b2⟩
  obtain ⟨d2_0, d2_1, d2_2, d2_3, d2_4, d2_5, d2_6, d2_7, d2_8, d2_9, d2_10, d2_f⟩ := cells11 (CQ.out w2 L2.out.2)
  clear d1_0 d1_1 d1_2 d1_3 d1_4 d1_5 d1_6 d1_7 d1_8 d1_9 d1_10 d1_f o2 b2
  go_wp2_with fail
  refine (C3.out _ L2.out.1).mono ?_
  rintro e w3 ⟨rfl, o3, b3⟩
  have L3 : Hid (OutAt w3 b (Px.sgn (Px.sgn (Px.sgn o [99, 97, 108, 108]) x.word.data.toList) [40]) ∧ Below b w w3) := ⟨o3, L2.out.2.trans b3⟩
  obtain ⟨d3_0, d3_1, d3_2, d3_3, d3_4, d3_5, d3_6, d3_7, d3_8, d3_9, d3_10, d3_f⟩ := cells11 (CQ.out w3 L3.out.2)
  clear d2_0 d2_1 d2_2 d2_3 d2_4 d2_5 d2_6 d2_7 d2_8 d2_9 d2_10 d2_f o3 b3
  go_wp2_with fail
  refine (C4.out _ L3.out.1).mono ?_
  rintro e w4 ⟨rfl, o4, b4⟩
  have L4 : Hid (OutAt w4 b (Px.sgn (Px.sgn (Px.sgn (Px.sgn o [99, 97, 108, 108]) x.word.data.toList) [40]) [41]) ∧ Below b w w4) := ⟨o4, L3.out.2.trans b4⟩
  obtain ⟨d4_0, d4_1, d4_2, d4_3, d4_4, d4_5, d4_6, d4_7, d4_8, d4_9, d4_10, d4_f⟩ := cells11 (CQ.out w4 L4.out.2)
  clear d3_0 d3_1 d3_2 d3_3 d3_4 d3_5 d3_6 d3_7 d3_8 d3_9 d3_10 d3_f o4 b4
  go_wp2_with fail
  refine (C5.out _ L4.out.1).mono ?_
  rintro e w5 ⟨rfl, o5, b5⟩
  have L5 : Hid (OutAt w5 b (Px.sgn (Px.sgn (Px.sgn (Px.sgn (Px.sgn o [99, 97, 108, 108]) x.word.data.toList) [40]) [41]) [97, 115]) ∧ Below b w w5) := ⟨o5, L4.out.2.trans b5⟩
  obtain ⟨d5_0, d5_1, d5_2, d5_3, d5_4, d5_5, d5_6, d5_7, d5_8, d5_9, d5_10, d5_f⟩ := cells11 (CQ.out w5 L5.out.2)
  clear d4_0 d4_1 d4_2 d4_3 d4_4 d4_5 d4_6 d4_7 d4_8 d4_9 d4_10 d4_f o5 b5
  go_wp2_with fail
  refine (C6.out _ L5.out.1).mono ?_
  rintro e w6 ⟨rfl, o6, b6⟩
  have L6 : Hid (OutAt w6 b (Px.sgn (Px.sgn (Px.sgn (Px.sgn (Px.sgn (Px.sgn o [99, 97, 108, 108]) x.word.data.toList) [40]) [41]) [97, 115]) x.asw.data.toList) ∧ Below b w w6) := ⟨o6, L5.out.2.trans b6⟩
  obtain ⟨d6_0, d6_1, d6_2, d6_3, d6_4, d6_5, d6_6, d6_7, d6_8, d6_9, d6_10, d6_f⟩ := cells11 (CQ.out w6 L6.out.2)
  clear d5_0 d5_1 d5_2 d5_3 d5_4 d5_5 d5_6 d5_7 d5_8 d5_9 d5_10 d5_f o6 b6
  go_wp2_with fail
  refine (C7.out _ L6.out.1).mono ?_
  rintro e w7 ⟨rfl, o7, b7⟩
  have L7 : Hid (OutAt w7 b (Px.sgn (Px.sgn (Px.sgn (Px.sgn (Px.sgn (Px.sgn (Px.sgn o [99, 97, 108, 108]) x.word.data.toList) [40]) [41]) [97, 115]) x.asw.data.toList) [117, 110, 100, 111]) ∧ Below b w w7) := ⟨o7, L6.out.2.trans b7⟩
  obtain ⟨d7_0, d7_1, d7_2, d7_3, d7_4, d7_5, d7_6, d7_7, d7_8, d7_9, d7_10, d7_f⟩ := cells11 (CQ.out w7 L7.out.2)
  clear d6_0 d6_1 d6_2 d6_3 d6_4 d6_5 d6_6 d6_7 d6_8 d6_9 d6_10 d6_f o7 b7
  go_wp2_with fail
  refine (C8.out _ L7.out.1).mono ?_
  rintro e w8 ⟨rfl, o8, b8⟩
  have L8 : Hid (OutAt w8 b (Px.sgn (Px.sgn (Px.sgn (Px.sgn (Px.sgn (Px.sgn (Px.sgn (Px.sgn o [99, 97, 108, 108]) x.word.data.toList) [40]) [41]) [97, 115]) x.asw.data.toList) [117, 110, 100, 111]) x.undo.data.toList) ∧ Below b w w8) := ⟨o8, L7.out.2.trans b8⟩
  obtain ⟨d8_0, d8_1, d8_2, d8_3, d8_4, d8_5, d8_6, d8_7, d8_8, d8_9, d8_10, d8_f⟩ := cells11 (CQ.out w8 L8.out.2)
  clear d7_0 d7_1 d7_2 d7_3 d7_4 d7_5 d7_6 d7_7 d7_8 d7_9 d7_10 d7_f o8 b8
  go_wp2_with fail
  refine (C9.out _ L8.out.1).mono ?_
  rintro e w9 ⟨rfl, o9, b9⟩
  have L9 : Hid (OutAt w9 b (Px.sgn (Px.sgn (Px.sgn (Px.sgn (Px.sgn (Px.sgn (Px.sgn (Px.sgn (Px.sgn o [99, 97, 108, 108]) x.word.data.toList) [40]) [41]) [97, 115]) x.asw.data.toList) [117, 110, 100, 111]) x.undo.data.toList) [59]) ∧ Below b w w9) := ⟨o9, L8.out.2.trans b9⟩
  obtain ⟨d9_0, d9_1, d9_2, d9_3, d9_4, d9_5, d9_6, d9_7, d9_8, d9_9, d9_10, d9_f⟩ := cells11 (CQ.out w9 L9.out.2)
  clear d8_0 d8_1 d8_2 d8_3 d8_4 d8_5 d8_6 d8_7 d8_8 d8_9 d8_10 d8_f o9 b9
  go_wp2_with fail
  go_end0
  rw [EQ.out]
  exact ⟨rfl, L9.out.1, L9.out.2⟩

set_option maxRecDepth 100000 in
set_option maxHeartbeats 8000000 in
theorem outC_0111 (b : Nat) (x : Px.Sm) (hop : x.op = 99) (hE : x.ex = none) (ha : 0 < x.asw.size) (hu : 0 < x.undo.size) (hT : x.n ≠ 1) : OutC b x := by
  intro w o ok q hx hok h hw hg hl
  obtain ⟨hq, ve, v1, v2, q1, q2, hv, e3, e4, e5, e6, e7⟩ := hx
  have hqb := hok q hq
  unfold Px.szX at hl
  rw [hE] at e3
  have e3' : ve = .pointer none := e3
  subst e3'
  obtain ⟨d0_0, d0_1, d0_2, d0_3, d0_4, d0_5, d0_6, d0_7, d0_8, d0_9, d0_10, d0_f⟩ := cells11 hv
  have CQ : Hid (∀ W, Below b w W → W.heap[q]? = some (.cells (smCells x (.pointer none) v1 v2) 106)) := fun W hW => by rw [hW.block q hqb]; exact hv
  have hwl : x.word.data.toList.length = x.word.size := rfl
  have ha' : x.asw.toList.isEmpty = false := empty_not ha
  have hu' : x.undo.toList.isEmpty = false := empty_not hu
  have hT' : ((x.n : Int) == 1) = false := by rw [beq_eq_false_iff_ne]; omega
  have hal : x.asw.data.toList.length = x.asw.size := rfl
  have hul : x.undo.data.toList.length = x.undo.size := rfl
  have s1 := Px.sgn_len o [99, 97, 108, 108]
  have s2 := Px.sgn_len (Px.sgn o [99, 97, 108, 108]) x.word.data.toList
  have s3 := Px.sgn_len (Px.sgn (Px.sgn o [99, 97, 108, 108]) x.word.data.toList) [40]
  have s4 := Px.sgn_len (Px.sgn (Px.sgn (Px.sgn o [99, 97, 108, 108]) x.word.data.toList) [40]) [41]
  have s5 := Px.sgn_len (Px.sgn (Px.sgn (Px.sgn (Px.sgn o [99, 97, 108, 108]) x.word.data.toList) [40]) [41]) [97, 115]
  have s6 := Px.sgn_len (Px.sgn (Px.sgn (Px.sgn (Px.sgn (Px.sgn o [99, 97, 108, 108]) x.word.data.toList) [40]) [41]) [97, 115]) x.asw.data.toList
  have s7 := Px.sgn_len (Px.sgn (Px.sgn (Px.sgn (Px.sgn (Px.sgn (Px.sgn o [99, 97, 108, 108]) x.word.data.toList) [40]) [41]) [97, 115]) x.asw.data.toList) [117, 110, 100, 111]
  have s8 := Px.sgn_len (Px.sgn (Px.sgn (Px.sgn (Px.sgn (Px.sgn (Px.sgn (Px.sgn o [99, 97, 108, 108]) x.word.data.toList) [40]) [41]) [97, 115]) x.asw.data.toList) [117, 110, 100, 111]) x.undo.data.toList
  have s9 := Px.sgn_len (Px.sgn (Px.sgn (Px.sgn (Px.sgn (Px.sgn (Px.sgn (Px.sgn (Px.sgn o [99, 97, 108, 108]) x.word.data.toList) [40]) [41]) [97, 115]) x.asw.data.toList) [117, 110, 100, 111]) x.undo.data.toList) [116, 114, 105, 101, 115]
  have s10 := Px.sgn_len (Px.sgn (Px.sgn (Px.sgn (Px.sgn (Px.sgn (Px.sgn (Px.sgn (Px.sgn (Px.sgn o [99, 97, 108, 108]) x.word.data.toList) [40]) [41]) [97, 115]) x.asw.data.toList) [117, 110, 100, 111]) x.undo.data.toList) [116, 114, 105, 101, 115]) (Px.dec x.n)
  have s11 := Px.dec_len x.n
  have s12 := dec_pos x.n
  have s13 := Px.sgn_len (Px.sgn (Px.sgn (Px.sgn (Px.sgn (Px.sgn (Px.sgn (Px.sgn (Px.sgn (Px.sgn (Px.sgn o [99, 97, 108, 108]) x.word.data.toList) [40]) [41]) [97, 115]) x.asw.data.toList) [117, 110, 100, 111]) x.undo.data.toList) [116, 114, 105, 101, 115]) (Px.dec x.n)) [59]
  simp only [List.length_cons, List.length_nil] at *
  have C1 : Hid (∀ W, OutAt W b o → Calls Tryz.prog 36 #[.pointer (some ⟨b, 0, none⟩), .string ⟨#[99, 97, 108, 108]⟩] W (OPost b W (Px.sgn o [99, 97, 108, 108]))) := fun W hO => outSign b _ ⟨#[99, 97, 108, 108]⟩ W hO (by decide) (by show _ + 4 ≤ _; omega)
  have C2 : Hid (∀ W, OutAt W b (Px.sgn o [99, 97, 108, 108]) → Calls Tryz.prog 36 #[.pointer (some ⟨b, 0, none⟩), .string x.word] W (OPost b W (Px.sgn (Px.sgn o [99, 97, 108, 108]) x.word.data.toList))) := fun W hO => outSign b _ x.word W hO (hg.1 (Or.inr hop)) (by show _ + x.word.size ≤ _; omega)
  have C3 : Hid (∀ W, OutAt W b (Px.sgn (Px.sgn o [99, 97, 108, 108]) x.word.data.toList) → Calls Tryz.prog 36 #[.pointer (some ⟨b, 0, none⟩), .string ⟨#[40]⟩] W (OPost b W (Px.sgn (Px.sgn (Px.sgn o [99, 97, 108, 108]) x.word.data.toList) [40]))) := fun W hO => outSign b _ ⟨#[40]⟩ W hO (by decide) (by show _ + 1 ≤ _; omega)
  have C4 : Hid (∀ W, OutAt W b (Px.sgn (Px.sgn (Px.sgn o [99, 97, 108, 108]) x.word.data.toList) [40]) → Calls Tryz.prog 36 #[.pointer (some ⟨b, 0, none⟩), .string ⟨#[41]⟩] W (OPost b W (Px.sgn (Px.sgn (Px.sgn (Px.sgn o [99, 97, 108, 108]) x.word.data.toList) [40]) [41]))) := fun W hO => outSign b _ ⟨#[41]⟩ W hO (by decide) (by show _ + 1 ≤ _; omega)
  have C5 : Hid (∀ W, OutAt W b (Px.sgn (Px.sgn (Px.sgn (Px.sgn o [99, 97, 108, 108]) x.word.data.toList) [40]) [41]) → Calls Tryz.prog 36 #[.pointer (some ⟨b, 0, none⟩), .string ⟨#[97, 115]⟩] W (OPost b W (Px.sgn (Px.sgn (Px.sgn (Px.sgn (Px.sgn o [99, 97, 108, 108]) x.word.data.toList) [40]) [41]) [97, 115]))) := fun W hO => outSign b _ ⟨#[97, 115]⟩ W hO (by decide) (by show _ + 2 ≤ _; omega)
  have C6 : Hid (∀ W, OutAt W b (Px.sgn (Px.sgn (Px.sgn (Px.sgn (Px.sgn o [99, 97, 108, 108]) x.word.data.toList) [40]) [41]) [97, 115]) → Calls Tryz.prog 36 #[.pointer (some ⟨b, 0, none⟩), .string x.asw] W (OPost b W (Px.sgn (Px.sgn (Px.sgn (Px.sgn (Px.sgn (Px.sgn o [99, 97, 108, 108]) x.word.data.toList) [40]) [41]) [97, 115]) x.asw.data.toList))) := fun W hO => outSign b _ x.asw W hO ha (by show _ + x.asw.size ≤ _; omega)
  have C7 : Hid (∀ W, OutAt W b (Px.sgn (Px.sgn (Px.sgn (Px.sgn (Px.sgn (Px.sgn o [99, 97, 108, 108]) x.word.data.toList) [40]) [41]) [97, 115]) x.asw.data.toList) → Calls Tryz.prog 36 #[.pointer (some ⟨b, 0, none⟩), .string ⟨#[117, 110, 100, 111]⟩] W (OPost b W (Px.sgn (Px.sgn (Px.sgn (Px.sgn (Px.sgn (Px.sgn (Px.sgn o [99, 97, 108, 108]) x.word.data.toList) [40]) [41]) [97, 115]) x.asw.data.toList) [117, 110, 100, 111]))) := fun W hO => outSign b _ ⟨#[117, 110, 100, 111]⟩ W hO (by decide) (by show _ + 4 ≤ _; omega)
  have C8 : Hid (∀ W, OutAt W b (Px.sgn (Px.sgn (Px.sgn (Px.sgn (Px.sgn (Px.sgn (Px.sgn o [99, 97, 108, 108]) x.word.data.toList) [40]) [41]) [97, 115]) x.asw.data.toList) [117, 110, 100, 111]) → Calls Tryz.prog 36 #[.pointer (some ⟨b, 0, none⟩), .string x.undo] W (OPost b W (Px.sgn (Px.sgn (Px.sgn (Px.sgn (Px.sgn (Px.sgn (Px.sgn (Px.sgn o [99, 97, 108, 108]) x.word.data.toList) [40]) [41]) [97, 115]) x.asw.data.toList) [117, 110, 100, 111]) x.undo.data.toList))) := fun W hO => outSign b _ x.undo W hO hu (by show _ + x.undo.size ≤ _; omega)
  have C9 : Hid (∀ W, OutAt W b (Px.sgn (Px.sgn (Px.sgn (Px.sgn (Px.sgn (Px.sgn (Px.sgn (Px.sgn o [99, 97, 108, 108]) x.word.data.toList) [40]) [41]) [97, 115]) x.asw.data.toList) [117, 110, 100, 111]) x.undo.data.toList) → Calls Tryz.prog 36 #[.pointer (some ⟨b, 0, none⟩), .string ⟨#[116, 114, 105, 101, 115]⟩] W (OPost b W (Px.sgn (Px.sgn (Px.sgn (Px.sgn (Px.sgn (Px.sgn (Px.sgn (Px.sgn (Px.sgn o [99, 97, 108, 108]) x.word.data.toList) [40]) [41]) [97, 115]) x.asw.data.toList) [117, 110, 100, 111]) x.undo.data.toList) [116, 114, 105, 101, 115]))) := fun W hO => outSign b _ ⟨#[116, 114, 105, 101, 115]⟩ W hO (by decide) (by show _ + 5 ≤ _; omega)
  have C10 : Hid (∀ W, Calls Tryz.prog 40 #[.int .i64 (x.n : Int)] W (DecPost x.n W)) := dec_any x.n hg.2.1
  have C11 : Hid (∀ W (S : ByteArray), S.data.toList = Px.dec x.n → OutAt W b (Px.sgn (Px.sgn (Px.sgn (Px.sgn (Px.sgn (Px.sgn (Px.sgn (Px.sgn (Px.sgn o [99, 97, 108, 108]) x.word.data.toList) [40]) [41]) [97, 115]) x.asw.data.toList) [117, 110, 100, 111]) x.undo.data.toList) [116, 114, 105, 101, 115]) → Calls Tryz.prog 36 #[.pointer (some ⟨b, 0, none⟩), .string S] W (OPost b W (Px.sgn (Px.sgn (Px.sgn (Px.sgn (Px.sgn (Px.sgn (Px.sgn (Px.sgn (Px.sgn (Px.sgn o [99, 97, 108, 108]) x.word.data.toList) [40]) [41]) [97, 115]) x.asw.data.toList) [117, 110, 100, 111]) x.undo.data.toList) [116, 114, 105, 101, 115]) (Px.dec x.n)))) := fun W S hS hO => by
    have hz : S.size = (Px.dec x.n).length := by rw [← hS]; rfl
    rw [← hS]
    exact outSign b _ S W hO (by omega) (by omega)
  have C12 : Hid (∀ W, OutAt W b (Px.sgn (Px.sgn (Px.sgn (Px.sgn (Px.sgn (Px.sgn (Px.sgn (Px.sgn (Px.sgn (Px.sgn o [99, 97, 108, 108]) x.word.data.toList) [40]) [41]) [97, 115]) x.asw.data.toList) [117, 110, 100, 111]) x.undo.data.toList) [116, 114, 105, 101, 115]) (Px.dec x.n)) → Calls Tryz.prog 36 #[.pointer (some ⟨b, 0, none⟩), .string ⟨#[59]⟩] W (OPost b W (Px.sgn (Px.sgn (Px.sgn (Px.sgn (Px.sgn (Px.sgn (Px.sgn (Px.sgn (Px.sgn (Px.sgn (Px.sgn o [99, 97, 108, 108]) x.word.data.toList) [40]) [41]) [97, 115]) x.asw.data.toList) [117, 110, 100, 111]) x.undo.data.toList) [116, 114, 105, 101, 115]) (Px.dec x.n)) [59]))) := fun W hO => outSign b _ ⟨#[59]⟩ W hO (by decide) (by show _ + 1 ≤ _; omega)
  have L0 : Hid (OutAt w b o ∧ Below b w w) := ⟨h, Below.refl _ _⟩
  have EQ : Hid (Px.wrX x o = Px.sgn (Px.sgn (Px.sgn (Px.sgn (Px.sgn (Px.sgn (Px.sgn (Px.sgn (Px.sgn (Px.sgn (Px.sgn o [99, 97, 108, 108]) x.word.data.toList) [40]) [41]) [97, 115]) x.asw.data.toList) [117, 110, 100, 111]) x.undo.data.toList) [116, 114, 105, 101, 115]) (Px.dec x.n)) [59]) := by unfold Hid; rw [Px.wrX_eq, if_neg (by omega), if_pos hop, Px.wrTries, if_neg hT, Px.wrUndo, if_neg (by omega), Px.wrAs, if_neg (by omega), hE]; rfl
  clear h hok hg hw hl hv e4 e5 e6 e7 e3 s1 s2 s3 s4 s5 s6 s7 s8 s9 s10 s11 s12 s13
  go_enter Tryz.func38, Tryz.ntmps38
  go_wp2_with fail
  refine (C1.out _ L0.out.1).mono ?_
  rintro e w1 ⟨rfl, o1, b1⟩
  have L1 : Hid (OutAt w1 b (Px.sgn o [99, 97, 108, 108]) ∧ Below b w w1) := ⟨o1, L0.out.2.trans b1⟩
  obtain ⟨d1_0, d1_1, d1_2, d1_3, d1_4, d1_5, d1_6, d1_7, d1_8, d1_9, d1_10, d1_f⟩ := cells11 (CQ.out w1 L1.out.2)
  clear d0_0 d0_1 d0_2 d0_3 d0_4 d0_5 d0_6 d0_7 d0_8 d0_9 d0_10 d0_f o1 b1
  go_wp2_with fail
  refine (C2.out _ L1.out.1).mono ?_
  rintro e w2 ⟨rfl, o2, b2⟩
  have L2 : Hid (OutAt w2 b (Px.sgn (Px.sgn o [99, 97, 108, 108]) x.word.data.toList) ∧ Below b w w2) := ⟨o2, L1.out.2.trans b2⟩
  obtain ⟨d2_0, d2_1, d2_2, d2_3, d2_4, d2_5, d2_6, d2_7, d2_8, d2_9, d2_10, d2_f⟩ := cells11 (CQ.out w2 L2.out.2)
  clear d1_0 d1_1 d1_2 d1_3 d1_4 d1_5 d1_6 d1_7 d1_8 d1_9 d1_10 d1_f o2 b2
  go_wp2_with fail
  refine (C3.out _ L2.out.1).mono ?_
  rintro e w3 ⟨rfl, o3, b3⟩
  have L3 : Hid (OutAt w3 b (Px.sgn (Px.sgn (Px.sgn o [99, 97, 108, 108]) x.word.data.toList) [40]) ∧ Below b w w3) := ⟨o3, L2.out.2.trans b3⟩
  obtain ⟨d3_0, d3_1, d3_2, d3_3, d3_4, d3_5, d3_6, d3_7, d3_8, d3_9, d3_10, d3_f⟩ := cells11 (CQ.out w3 L3.out.2)
  clear d2_0 d2_1 d2_2 d2_3 d2_4 d2_5 d2_6 d2_7 d2_8 d2_9 d2_10 d2_f o3 b3
  go_wp2_with fail
  refine (C4.out _ L3.out.1).mono ?_
  rintro e w4 ⟨rfl, o4, b4⟩
  have L4 : Hid (OutAt w4 b (Px.sgn (Px.sgn (Px.sgn (Px.sgn o [99, 97, 108, 108]) x.word.data.toList) [40]) [41]) ∧ Below b w w4) := ⟨o4, L3.out.2.trans b4⟩
  obtain ⟨d4_0, d4_1, d4_2, d4_3, d4_4, d4_5, d4_6, d4_7, d4_8, d4_9, d4_10, d4_f⟩ := cells11 (CQ.out w4 L4.out.2)
  clear d3_0 d3_1 d3_2 d3_3 d3_4 d3_5 d3_6 d3_7 d3_8 d3_9 d3_10 d3_f o4 b4
  go_wp2_with fail
  refine (C5.out _ L4.out.1).mono ?_
  rintro e w5 ⟨rfl, o5, b5⟩
  have L5 : Hid (OutAt w5 b (Px.sgn (Px.sgn (Px.sgn (Px.sgn (Px.sgn o [99, 97, 108, 108]) x.word.data.toList) [40]) [41]) [97, 115]) ∧ Below b w w5) := ⟨o5, L4.out.2.trans b5⟩
  obtain ⟨d5_0, d5_1, d5_2, d5_3, d5_4, d5_5, d5_6, d5_7, d5_8, d5_9, d5_10, d5_f⟩ := cells11 (CQ.out w5 L5.out.2)
  clear d4_0 d4_1 d4_2 d4_3 d4_4 d4_5 d4_6 d4_7 d4_8 d4_9 d4_10 d4_f o5 b5
  go_wp2_with fail
  refine (C6.out _ L5.out.1).mono ?_
  rintro e w6 ⟨rfl, o6, b6⟩
  have L6 : Hid (OutAt w6 b (Px.sgn (Px.sgn (Px.sgn (Px.sgn (Px.sgn (Px.sgn o [99, 97, 108, 108]) x.word.data.toList) [40]) [41]) [97, 115]) x.asw.data.toList) ∧ Below b w w6) := ⟨o6, L5.out.2.trans b6⟩
  obtain ⟨d6_0, d6_1, d6_2, d6_3, d6_4, d6_5, d6_6, d6_7, d6_8, d6_9, d6_10, d6_f⟩ := cells11 (CQ.out w6 L6.out.2)
  clear d5_0 d5_1 d5_2 d5_3 d5_4 d5_5 d5_6 d5_7 d5_8 d5_9 d5_10 d5_f o6 b6
  go_wp2_with fail
  refine (C7.out _ L6.out.1).mono ?_
  rintro e w7 ⟨rfl, o7, b7⟩
  have L7 : Hid (OutAt w7 b (Px.sgn (Px.sgn (Px.sgn (Px.sgn (Px.sgn (Px.sgn (Px.sgn o [99, 97, 108, 108]) x.word.data.toList) [40]) [41]) [97, 115]) x.asw.data.toList) [117, 110, 100, 111]) ∧ Below b w w7) := ⟨o7, L6.out.2.trans b7⟩
  obtain ⟨d7_0, d7_1, d7_2, d7_3, d7_4, d7_5, d7_6, d7_7, d7_8, d7_9, d7_10, d7_f⟩ := cells11 (CQ.out w7 L7.out.2)
  clear d6_0 d6_1 d6_2 d6_3 d6_4 d6_5 d6_6 d6_7 d6_8 d6_9 d6_10 d6_f o7 b7
  go_wp2_with fail
  refine (C8.out _ L7.out.1).mono ?_
  rintro e w8 ⟨rfl, o8, b8⟩
  have L8 : Hid (OutAt w8 b (Px.sgn (Px.sgn (Px.sgn (Px.sgn (Px.sgn (Px.sgn (Px.sgn (Px.sgn o [99, 97, 108, 108]) x.word.data.toList) [40]) [41]) [97, 115]) x.asw.data.toList) [117, 110, 100, 111]) x.undo.data.toList) ∧ Below b w w8) := ⟨o8, L7.out.2.trans b8⟩
  obtain ⟨d8_0, d8_1, d8_2, d8_3, d8_4, d8_5, d8_6, d8_7, d8_8, d8_9, d8_10, d8_f⟩ := cells11 (CQ.out w8 L8.out.2)
  clear d7_0 d7_1 d7_2 d7_3 d7_4 d7_5 d7_6 d7_7 d7_8 d7_9 d7_10 d7_f o8 b8
  go_wp2_with fail
  refine (C9.out _ L8.out.1).mono ?_
  rintro e w9 ⟨rfl, o9, b9⟩
  have L9 : Hid (OutAt w9 b (Px.sgn (Px.sgn (Px.sgn (Px.sgn (Px.sgn (Px.sgn (Px.sgn (Px.sgn (Px.sgn o [99, 97, 108, 108]) x.word.data.toList) [40]) [41]) [97, 115]) x.asw.data.toList) [117, 110, 100, 111]) x.undo.data.toList) [116, 114, 105, 101, 115]) ∧ Below b w w9) := ⟨o9, L8.out.2.trans b9⟩
  obtain ⟨d9_0, d9_1, d9_2, d9_3, d9_4, d9_5, d9_6, d9_7, d9_8, d9_9, d9_10, d9_f⟩ := cells11 (CQ.out w9 L9.out.2)
  clear d8_0 d8_1 d8_2 d8_3 d8_4 d8_5 d8_6 d8_7 d8_8 d8_9 d8_10 d8_f o9 b9
  go_wp2_with fail
  refine (C10.out _).mono ?_
  rintro e w11 ⟨S11, rfl, hS11, b11⟩
  have L11 : Hid (OutAt w11 b (Px.sgn (Px.sgn (Px.sgn (Px.sgn (Px.sgn (Px.sgn (Px.sgn (Px.sgn (Px.sgn o [99, 97, 108, 108]) x.word.data.toList) [40]) [41]) [97, 115]) x.asw.data.toList) [117, 110, 100, 111]) x.undo.data.toList) [116, 114, 105, 101, 115]) ∧ Below b w w11) := ⟨L9.out.1.old b11, L9.out.2.trans (b11.mono (Nat.le_of_lt L9.out.1.lt))⟩
  have T11 : Hid (S11.data.toList = Px.dec x.n) := hS11
  obtain ⟨d11_0, d11_1, d11_2, d11_3, d11_4, d11_5, d11_6, d11_7, d11_8, d11_9, d11_10, d11_f⟩ := cells11 (CQ.out w11 L11.out.2)
  clear d9_0 d9_1 d9_2 d9_3 d9_4 d9_5 d9_6 d9_7 d9_8 d9_9 d9_10 d9_f hS11 b11
  go_wp2_with fail
  refine (C11.out _ S11 T11.out L11.out.1).mono ?_
  rintro e w10 ⟨rfl, o10, b10⟩
  have L10 : Hid (OutAt w10 b (Px.sgn (Px.sgn (Px.sgn (Px.sgn (Px.sgn (Px.sgn (Px.sgn (Px.sgn (Px.sgn (Px.sgn o [99, 97, 108, 108]) x.word.data.toList) [40]) [41]) [97, 115]) x.asw.data.toList) [117, 110, 100, 111]) x.undo.data.toList) [116, 114, 105, 101, 115]) (Px.dec x.n)) ∧ Below b w w10) := ⟨o10, L11.out.2.trans b10⟩
  obtain ⟨d10_0, d10_1, d10_2, d10_3, d10_4, d10_5, d10_6, d10_7, d10_8, d10_9, d10_10, d10_f⟩ := cells11 (CQ.out w10 L10.out.2)
  clear d11_0 d11_1 d11_2 d11_3 d11_4 d11_5 d11_6 d11_7 d11_8 d11_9 d11_10 d11_f o10 b10
  go_wp2_with fail
  refine (C12.out _ L10.out.1).mono ?_
  rintro e w12 ⟨rfl, o12, b12⟩
  have L12 : Hid (OutAt w12 b (Px.sgn (Px.sgn (Px.sgn (Px.sgn (Px.sgn (Px.sgn (Px.sgn (Px.sgn (Px.sgn (Px.sgn (Px.sgn o [99, 97, 108, 108]) x.word.data.toList) [40]) [41]) [97, 115]) x.asw.data.toList) [117, 110, 100, 111]) x.undo.data.toList) [116, 114, 105, 101, 115]) (Px.dec x.n)) [59]) ∧ Below b w w12) := ⟨o12, L10.out.2.trans b12⟩
  obtain ⟨d12_0, d12_1, d12_2, d12_3, d12_4, d12_5, d12_6, d12_7, d12_8, d12_9, d12_10, d12_f⟩ := cells11 (CQ.out w12 L12.out.2)
  clear d10_0 d10_1 d10_2 d10_3 d10_4 d10_5 d10_6 d10_7 d10_8 d10_9 d10_10 d10_f o12 b12
  go_wp2_with fail
  go_end0
  rw [EQ.out]
  exact ⟨rfl, L12.out.1, L12.out.2⟩

set_option maxRecDepth 100000 in
set_option maxHeartbeats 8000000 in
theorem outC_1000 (b : Nat) (x : Px.Sm) (hop : x.op = 99) (hE : x.ex ≠ none) (ha : x.asw.size = 0) (hu : x.undo.size = 0) (hT : x.n = 1) : OutC b x := by
  intro w o ok q hx hok h hw hg hl
  obtain ⟨hq, ve, v1, v2, q1, q2, hv, e3, e4, e5, e6, e7⟩ := hx
  have hqb := hok q hq
  unfold Px.szX at hl
  obtain ⟨ex, hex⟩ : ∃ ex, x.ex = some ex := Option.ne_none_iff_exists'.1 hE
  have hwe := hw.1 ex hex
  have hge := hg.2.2.1 ex hex
  rw [hex] at e3 hl
  obtain ⟨qe, rfl, hxe⟩ := e3
  simp only [Px.szO] at hl
  obtain ⟨d0_0, d0_1, d0_2, d0_3, d0_4, d0_5, d0_6, d0_7, d0_8, d0_9, d0_10, d0_f⟩ := cells11 hv
  have CQ : Hid (∀ W, Below b w W → W.heap[q]? = some (.cells (smCells x (ptr qe) v1 v2) 106)) := fun W hW => by rw [hW.block q hqb]; exact hv
  have hwl : x.word.data.toList.length = x.word.size := rfl
  have ha' : x.asw.toList.isEmpty = true := empty_size ha
  have hu' : x.undo.toList.isEmpty = true := empty_size hu
  have hT' : ((x.n : Int) == 1) = true := by rw [hT]; rfl
  have hal : x.asw.data.toList.length = x.asw.size := rfl
  have hul : x.undo.data.toList.length = x.undo.size := rfl
  have s1 := Px.sgn_len o [99, 97, 108, 108]
  have s2 := Px.sgn_len (Px.sgn o [99, 97, 108, 108]) x.word.data.toList
  have s3 := Px.sgn_len (Px.sgn (Px.sgn o [99, 97, 108, 108]) x.word.data.toList) [40]
  have s4 := Px.wrE_len ex (Px.sgn (Px.sgn (Px.sgn o [99, 97, 108, 108]) x.word.data.toList) [40])
  have s5 := Px.sgn_len (Px.wrE ex (Px.sgn (Px.sgn (Px.sgn o [99, 97, 108, 108]) x.word.data.toList) [40])) [41]
  have s6 := Px.sgn_len (Px.sgn (Px.wrE ex (Px.sgn (Px.sgn (Px.sgn o [99, 97, 108, 108]) x.word.data.toList) [40])) [41]) [59]
  simp only [List.length_cons, List.length_nil] at *
  have C1 : Hid (∀ W, OutAt W b o → Calls Tryz.prog 36 #[.pointer (some ⟨b, 0, none⟩), .string ⟨#[99, 97, 108, 108]⟩] W (OPost b W (Px.sgn o [99, 97, 108, 108]))) := fun W hO => outSign b _ ⟨#[99, 97, 108, 108]⟩ W hO (by decide) (by show _ + 4 ≤ _; omega)
  have C2 : Hid (∀ W, OutAt W b (Px.sgn o [99, 97, 108, 108]) → Calls Tryz.prog 36 #[.pointer (some ⟨b, 0, none⟩), .string x.word] W (OPost b W (Px.sgn (Px.sgn o [99, 97, 108, 108]) x.word.data.toList))) := fun W hO => outSign b _ x.word W hO (hg.1 (Or.inr hop)) (by show _ + x.word.size ≤ _; omega)
  have C3 : Hid (∀ W, OutAt W b (Px.sgn (Px.sgn o [99, 97, 108, 108]) x.word.data.toList) → Calls Tryz.prog 36 #[.pointer (some ⟨b, 0, none⟩), .string ⟨#[40]⟩] W (OPost b W (Px.sgn (Px.sgn (Px.sgn o [99, 97, 108, 108]) x.word.data.toList) [40]))) := fun W hO => outSign b _ ⟨#[40]⟩ W hO (by decide) (by show _ + 1 ≤ _; omega)
  have C4 : Hid (∀ W, Below b w W → OutAt W b (Px.sgn (Px.sgn (Px.sgn o [99, 97, 108, 108]) x.word.data.toList) [40]) → Calls Tryz.prog 37 #[.pointer (some ⟨b, 0, none⟩), .pointer (some ⟨qe, 0, none⟩), .int .i64 0] W (OPost b W (Px.wrE ex (Px.sgn (Px.sgn (Px.sgn o [99, 97, 108, 108]) x.word.data.toList) [40])))) := fun W hW hO => outE0 b ex hwe W _ ok qe (hxe.keep fun i hi => hW.block i (hok i hi)) hok hO hge (by omega)
  have C5 : Hid (∀ W, OutAt W b (Px.wrE ex (Px.sgn (Px.sgn (Px.sgn o [99, 97, 108, 108]) x.word.data.toList) [40])) → Calls Tryz.prog 36 #[.pointer (some ⟨b, 0, none⟩), .string ⟨#[41]⟩] W (OPost b W (Px.sgn (Px.wrE ex (Px.sgn (Px.sgn (Px.sgn o [99, 97, 108, 108]) x.word.data.toList) [40])) [41]))) := fun W hO => outSign b _ ⟨#[41]⟩ W hO (by decide) (by show _ + 1 ≤ _; omega)
  have C6 : Hid (∀ W, OutAt W b (Px.sgn (Px.wrE ex (Px.sgn (Px.sgn (Px.sgn o [99, 97, 108, 108]) x.word.data.toList) [40])) [41]) → Calls Tryz.prog 36 #[.pointer (some ⟨b, 0, none⟩), .string ⟨#[59]⟩] W (OPost b W (Px.sgn (Px.sgn (Px.wrE ex (Px.sgn (Px.sgn (Px.sgn o [99, 97, 108, 108]) x.word.data.toList) [40])) [41]) [59]))) := fun W hO => outSign b _ ⟨#[59]⟩ W hO (by decide) (by show _ + 1 ≤ _; omega)
  have L0 : Hid (OutAt w b o ∧ Below b w w) := ⟨h, Below.refl _ _⟩
  have EQ : Hid (Px.wrX x o = Px.sgn (Px.sgn (Px.wrE ex (Px.sgn (Px.sgn (Px.sgn o [99, 97, 108, 108]) x.word.data.toList) [40])) [41]) [59]) := by unfold Hid; rw [Px.wrX_eq, if_neg (by omega), if_pos hop, Px.wrTries, if_pos hT, Px.wrUndo, if_pos hu, Px.wrAs, if_pos ha, hex]; rfl
  clear h hok hg hw hl hv e4 e5 e6 e7 hxe hge hwe s1 s2 s3 s4 s5 s6
  unfold ptr at *
  go_enter Tryz.func38, Tryz.ntmps38
  go_wp2_with fail
  refine (C1.out _ L0.out.1).mono ?_
  rintro e w1 ⟨rfl, o1, b1⟩
  have L1 : Hid (OutAt w1 b (Px.sgn o [99, 97, 108, 108]) ∧ Below b w w1) := ⟨o1, L0.out.2.trans b1⟩
  obtain ⟨d1_0, d1_1, d1_2, d1_3, d1_4, d1_5, d1_6, d1_7, d1_8, d1_9, d1_10, d1_f⟩ := cells11 (CQ.out w1 L1.out.2)
  clear d0_0 d0_1 d0_2 d0_3 d0_4 d0_5 d0_6 d0_7 d0_8 d0_9 d0_10 d0_f o1 b1
  go_wp2_with fail
  refine (C2.out _ L1.out.1).mono ?_
  rintro e w2 ⟨rfl, o2, b2⟩
  have L2 : Hid (OutAt w2 b (Px.sgn (Px.sgn o [99, 97, 108, 108]) x.word.data.toList) ∧ Below b w w2) := ⟨o2, L1.out.2.trans b2⟩
  obtain ⟨d2_0, d2_1, d2_2, d2_3, d2_4, d2_5, d2_6, d2_7, d2_8, d2_9, d2_10, d2_f⟩ := cells11 (CQ.out w2 L2.out.2)
  clear d1_0 d1_1 d1_2 d1_3 d1_4 d1_5 d1_6 d1_7 d1_8 d1_9 d1_10 d1_f o2 b2
  go_wp2_with fail
  refine (C3.out _ L2.out.1).mono ?_
  rintro e w3 ⟨rfl, o3, b3⟩
  have L3 : Hid (OutAt w3 b (Px.sgn (Px.sgn (Px.sgn o [99, 97, 108, 108]) x.word.data.toList) [40]) ∧ Below b w w3) := ⟨o3, L2.out.2.trans b3⟩
  obtain ⟨d3_0, d3_1, d3_2, d3_3, d3_4, d3_5, d3_6, d3_7, d3_8, d3_9, d3_10, d3_f⟩ := cells11 (CQ.out w3 L3.out.2)
  clear d2_0 d2_1 d2_2 d2_3 d2_4 d2_5 d2_6 d2_7 d2_8 d2_9 d2_10 d2_f o3 b3
  go_wp2_with fail
  refine (C4.out _ L3.out.2 L3.out.1).mono ?_
  rintro e w4 ⟨rfl, o4, b4⟩
  have L4 : Hid (OutAt w4 b (Px.wrE ex (Px.sgn (Px.sgn (Px.sgn o [99, 97, 108, 108]) x.word.data.toList) [40])) ∧ Below b w w4) := ⟨o4, L3.out.2.trans b4⟩
  obtain ⟨d4_0, d4_1, d4_2, d4_3, d4_4, d4_5, d4_6, d4_7, d4_8, d4_9, d4_10, d4_f⟩ := cells11 (CQ.out w4 L4.out.2)
  clear d3_0 d3_1 d3_2 d3_3 d3_4 d3_5 d3_6 d3_7 d3_8 d3_9 d3_10 d3_f o4 b4
  go_wp2_with fail
  refine (C5.out _ L4.out.1).mono ?_
  rintro e w5 ⟨rfl, o5, b5⟩
  have L5 : Hid (OutAt w5 b (Px.sgn (Px.wrE ex (Px.sgn (Px.sgn (Px.sgn o [99, 97, 108, 108]) x.word.data.toList) [40])) [41]) ∧ Below b w w5) := ⟨o5, L4.out.2.trans b5⟩
  obtain ⟨d5_0, d5_1, d5_2, d5_3, d5_4, d5_5, d5_6, d5_7, d5_8, d5_9, d5_10, d5_f⟩ := cells11 (CQ.out w5 L5.out.2)
  clear d4_0 d4_1 d4_2 d4_3 d4_4 d4_5 d4_6 d4_7 d4_8 d4_9 d4_10 d4_f o5 b5
  go_wp2_with fail
  refine (C6.out _ L5.out.1).mono ?_
  rintro e w6 ⟨rfl, o6, b6⟩
  have L6 : Hid (OutAt w6 b (Px.sgn (Px.sgn (Px.wrE ex (Px.sgn (Px.sgn (Px.sgn o [99, 97, 108, 108]) x.word.data.toList) [40])) [41]) [59]) ∧ Below b w w6) := ⟨o6, L5.out.2.trans b6⟩
  obtain ⟨d6_0, d6_1, d6_2, d6_3, d6_4, d6_5, d6_6, d6_7, d6_8, d6_9, d6_10, d6_f⟩ := cells11 (CQ.out w6 L6.out.2)
  clear d5_0 d5_1 d5_2 d5_3 d5_4 d5_5 d5_6 d5_7 d5_8 d5_9 d5_10 d5_f o6 b6
  go_wp2_with fail
  go_end0
  rw [EQ.out]
  exact ⟨rfl, L6.out.1, L6.out.2⟩

set_option maxRecDepth 100000 in
set_option maxHeartbeats 8000000 in
theorem outC_1001 (b : Nat) (x : Px.Sm) (hop : x.op = 99) (hE : x.ex ≠ none) (ha : x.asw.size = 0) (hu : x.undo.size = 0) (hT : x.n ≠ 1) : OutC b x := by
  intro w o ok q hx hok h hw hg hl
  obtain ⟨hq, ve, v1, v2, q1, q2, hv, e3, e4, e5, e6, e7⟩ := hx
  have hqb := hok q hq
  unfold Px.szX at hl
  obtain ⟨ex, hex⟩ : ∃ ex, x.ex = some ex := Option.ne_none_iff_exists'.1 hE
  have hwe := hw.1 ex hex
  have hge := hg.2.2.1 ex hex
  rw [hex] at e3 hl
  obtain ⟨qe, rfl, hxe⟩ := e3
  simp only [Px.szO] at hl
  obtain ⟨d0_0, d0_1, d0_2, d0_3, d0_4, d0_5, d0_6, d0_7, d0_8, d0_9, d0_10, d0_f⟩ := cells11 hv
  have CQ : Hid (∀ W, Below b w W → W.heap[q]? = some (.cells (smCells x (ptr qe) v1 v2) 106)) := fun W hW => by rw [hW.block q hqb]; exact hv
  have hwl : x.word.data.toList.length = x.word.size := rfl
  have ha' : x.asw.toList.isEmpty = true := empty_size ha
  have hu' : x.undo.toList.isEmpty = true := empty_size hu
  have hT' : ((x.n : Int) == 1) = false := by rw [beq_eq_false_iff_ne]; omega
  have hal : x.asw.data.toList.length = x.asw.size := rfl
  have hul : x.undo.data.toList.length = x.undo.size := rfl
  have s1 := Px.sgn_len o [99, 97, 108, 108]
  have s2 := Px.sgn_len (Px.sgn o [99, 97, 108, 108]) x.word.data.toList
  have s3 := Px.sgn_len (Px.sgn (Px.sgn o [99, 97, 108, 108]) x.word.data.toList) [40]
  have s4 := Px.wrE_len ex (Px.sgn (Px.sgn (Px.sgn o [99, 97, 108, 108]) x.word.data.toList) [40])
  have s5 := Px.sgn_len (Px.wrE ex (Px.sgn (Px.sgn (Px.sgn o [99, 97, 108, 108]) x.word.data.toList) [40])) [41]
  have s6 := Px.sgn_len (Px.sgn (Px.wrE ex (Px.sgn (Px.sgn (Px.sgn o [99, 97, 108, 108]) x.word.data.toList) [40])) [41]) [116, 114, 105, 101, 115]
  have s7 := Px.sgn_len (Px.sgn (Px.sgn (Px.wrE ex (Px.sgn (Px.sgn (Px.sgn o [99, 97, 108, 108]) x.word.data.toList) [40])) [41]) [116, 114, 105, 101, 115]) (Px.dec x.n)
  have s8 := Px.dec_len x.n
  have s9 := dec_pos x.n
  have s10 := Px.sgn_len (Px.sgn (Px.sgn (Px.sgn (Px.wrE ex (Px.sgn (Px.sgn (Px.sgn o [99, 97, 108, 108]) x.word.data.toList) [40])) [41]) [116, 114, 105, 101, 115]) (Px.dec x.n)) [59]
  simp only [List.length_cons, List.length_nil] at *
  have C1 : Hid (∀ W, OutAt W b o → Calls Tryz.prog 36 #[.pointer (some ⟨b, 0, none⟩), .string ⟨#[99, 97, 108, 108]⟩] W (OPost b W (Px.sgn o [99, 97, 108, 108]))) := fun W hO => outSign b _ ⟨#[99, 97, 108, 108]⟩ W hO (by decide) (by show _ + 4 ≤ _; omega)
  have C2 : Hid (∀ W, OutAt W b (Px.sgn o [99, 97, 108, 108]) → Calls Tryz.prog 36 #[.pointer (some ⟨b, 0, none⟩), .string x.word] W (OPost b W (Px.sgn (Px.sgn o [99, 97, 108, 108]) x.word.data.toList))) := fun W hO => outSign b _ x.word W hO (hg.1 (Or.inr hop)) (by show _ + x.word.size ≤ _; omega)
  have C3 : Hid (∀ W, OutAt W b (Px.sgn (Px.sgn o [99, 97, 108, 108]) x.word.data.toList) → Calls Tryz.prog 36 #[.pointer (some ⟨b, 0, none⟩), .string ⟨#[40]⟩] W (OPost b W (Px.sgn (Px.sgn (Px.sgn o [99, 97, 108, 108]) x.word.data.toList) [40]))) := fun W hO => outSign b _ ⟨#[40]⟩ W hO (by decide) (by show _ + 1 ≤ _; omega)
  have C4 : Hid (∀ W, Below b w W → OutAt W b (Px.sgn (Px.sgn (Px.sgn o [99, 97, 108, 108]) x.word.data.toList) [40]) → Calls Tryz.prog 37 #[.pointer (some ⟨b, 0, none⟩), .pointer (some ⟨qe, 0, none⟩), .int .i64 0] W (OPost b W (Px.wrE ex (Px.sgn (Px.sgn (Px.sgn o [99, 97, 108, 108]) x.word.data.toList) [40])))) := fun W hW hO => outE0 b ex hwe W _ ok qe (hxe.keep fun i hi => hW.block i (hok i hi)) hok hO hge (by omega)
  have C5 : Hid (∀ W, OutAt W b (Px.wrE ex (Px.sgn (Px.sgn (Px.sgn o [99, 97, 108, 108]) x.word.data.toList) [40])) → Calls Tryz.prog 36 #[.pointer (some ⟨b, 0, none⟩), .string ⟨#[41]⟩] W (OPost b W (Px.sgn (Px.wrE ex (Px.sgn (Px.sgn (Px.sgn o [99, 97, 108, 108]) x.word.data.toList) [40])) [41]))) := fun W hO => outSign b _ ⟨#[41]⟩ W hO (by decide) (by show _ + 1 ≤ _; omega)
  have C6 : Hid (∀ W, OutAt W b (Px.sgn (Px.wrE ex (Px.sgn (Px.sgn (Px.sgn o [99, 97, 108, 108]) x.word.data.toList) [40])) [41]) → Calls Tryz.prog 36 #[.pointer (some ⟨b, 0, none⟩), .string ⟨#[116, 114, 105, 101, 115]⟩] W (OPost b W (Px.sgn (Px.sgn (Px.wrE ex (Px.sgn (Px.sgn (Px.sgn o [99, 97, 108, 108]) x.word.data.toList) [40])) [41]) [116, 114, 105, 101, 115]))) := fun W hO => outSign b _ ⟨#[116, 114, 105, 101, 115]⟩ W hO (by decide) (by show _ + 5 ≤ _; omega)
  have C7 : Hid (∀ W, Calls Tryz.prog 40 #[.int .i64 (x.n : Int)] W (DecPost x.n W)) := dec_any x.n hg.2.1
  have C8 : Hid (∀ W (S : ByteArray), S.data.toList = Px.dec x.n → OutAt W b (Px.sgn (Px.sgn (Px.wrE ex (Px.sgn (Px.sgn (Px.sgn o [99, 97, 108, 108]) x.word.data.toList) [40])) [41]) [116, 114, 105, 101, 115]) → Calls Tryz.prog 36 #[.pointer (some ⟨b, 0, none⟩), .string S] W (OPost b W (Px.sgn (Px.sgn (Px.sgn (Px.wrE ex (Px.sgn (Px.sgn (Px.sgn o [99, 97, 108, 108]) x.word.data.toList) [40])) [41]) [116, 114, 105, 101, 115]) (Px.dec x.n)))) := fun W S hS hO => by
    have hz : S.size = (Px.dec x.n).length := by rw [← hS]; rfl
    rw [← hS]
    exact outSign b _ S W hO (by omega) (by omega)
  have C9 : Hid (∀ W, OutAt W b (Px.sgn (Px.sgn (Px.sgn (Px.wrE ex (Px.sgn (Px.sgn (Px.sgn o [99, 97, 108, 108]) x.word.data.toList) [40])) [41]) [116, 114, 105, 101, 115]) (Px.dec x.n)) → Calls Tryz.prog 36 #[.pointer (some ⟨b, 0, none⟩), .string ⟨#[59]⟩] W (OPost b W (Px.sgn (Px.sgn (Px.sgn (Px.sgn (Px.wrE ex (Px.sgn (Px.sgn (Px.sgn o [99, 97, 108, 108]) x.word.data.toList) [40])) [41]) [116, 114, 105, 101, 115]) (Px.dec x.n)) [59]))) := fun W hO => outSign b _ ⟨#[59]⟩ W hO (by decide) (by show _ + 1 ≤ _; omega)
  have L0 : Hid (OutAt w b o ∧ Below b w w) := ⟨h, Below.refl _ _⟩
  have EQ : Hid (Px.wrX x o = Px.sgn (Px.sgn (Px.sgn (Px.sgn (Px.wrE ex (Px.sgn (Px.sgn (Px.sgn o [99, 97, 108, 108]) x.word.data.toList) [40])) [41]) [116, 114, 105, 101, 115]) (Px.dec x.n)) [59]) := by unfold Hid; rw [Px.wrX_eq, if_neg (by omega), if_pos hop, Px.wrTries, if_neg hT, Px.wrUndo, if_pos hu, Px.wrAs, if_pos ha, hex]; rfl
  clear h hok hg hw hl hv e4 e5 e6 e7 hxe hge hwe s1 s2 s3 s4 s5 s6 s7 s8 s9 s10
  unfold ptr at *
  go_enter Tryz.func38, Tryz.ntmps38
  go_wp2_with fail
  refine (C1.out _ L0.out.1).mono ?_
  rintro e w1 ⟨rfl, o1, b1⟩
  have L1 : Hid (OutAt w1 b (Px.sgn o [99, 97, 108, 108]) ∧ Below b w w1) := ⟨o1, L0.out.2.trans b1⟩
  obtain ⟨d1_0, d1_1, d1_2, d1_3, d1_4, d1_5, d1_6, d1_7, d1_8, d1_9, d1_10, d1_f⟩ := cells11 (CQ.out w1 L1.out.2)
  clear d0_0 d0_1 d0_2 d0_3 d0_4 d0_5 d0_6 d0_7 d0_8 d0_9 d0_10 d0_f o1 b1
  go_wp2_with fail
  refine (C2.out _ L1.out.1).mono ?_
  rintro e w2 ⟨rfl, o2, b2⟩
  have L2 : Hid (OutAt w2 b (Px.sgn (Px.sgn o [99, 97, 108, 108]) x.word.data.toList) ∧ Below b w w2) := ⟨o2, L1.out.2.trans b2⟩
  obtain ⟨d2_0, d2_1, d2_2, d2_3, d2_4, d2_5, d2_6, d2_7, d2_8, d2_9, d2_10, d2_f⟩ := cells11 (CQ.out w2 L2.out.2)
  clear d1_0 d1_1 d1_2 d1_3 d1_4 d1_5 d1_6 d1_7 d1_8 d1_9 d1_10 d1_f o2 b2
  go_wp2_with fail
  refine (C3.out _ L2.out.1).mono ?_
  rintro e w3 ⟨rfl, o3, b3⟩
  have L3 : Hid (OutAt w3 b (Px.sgn (Px.sgn (Px.sgn o [99, 97, 108, 108]) x.word.data.toList) [40]) ∧ Below b w w3) := ⟨o3, L2.out.2.trans b3⟩
  obtain ⟨d3_0, d3_1, d3_2, d3_3, d3_4, d3_5, d3_6, d3_7, d3_8, d3_9, d3_10, d3_f⟩ := cells11 (CQ.out w3 L3.out.2)
  clear d2_0 d2_1 d2_2 d2_3 d2_4 d2_5 d2_6 d2_7 d2_8 d2_9 d2_10 d2_f o3 b3
  go_wp2_with fail
  refine (C4.out _ L3.out.2 L3.out.1).mono ?_
  rintro e w4 ⟨rfl, o4, b4⟩
  have L4 : Hid (OutAt w4 b (Px.wrE ex (Px.sgn (Px.sgn (Px.sgn o [99, 97, 108, 108]) x.word.data.toList) [40])) ∧ Below b w w4) := ⟨o4, L3.out.2.trans b4⟩
  obtain ⟨d4_0, d4_1, d4_2, d4_3, d4_4, d4_5, d4_6, d4_7, d4_8, d4_9, d4_10, d4_f⟩ := cells11 (CQ.out w4 L4.out.2)
  clear d3_0 d3_1 d3_2 d3_3 d3_4 d3_5 d3_6 d3_7 d3_8 d3_9 d3_10 d3_f o4 b4
  go_wp2_with fail
  refine (C5.out _ L4.out.1).mono ?_
  rintro e w5 ⟨rfl, o5, b5⟩
  have L5 : Hid (OutAt w5 b (Px.sgn (Px.wrE ex (Px.sgn (Px.sgn (Px.sgn o [99, 97, 108, 108]) x.word.data.toList) [40])) [41]) ∧ Below b w w5) := ⟨o5, L4.out.2.trans b5⟩
  obtain ⟨d5_0, d5_1, d5_2, d5_3, d5_4, d5_5, d5_6, d5_7, d5_8, d5_9, d5_10, d5_f⟩ := cells11 (CQ.out w5 L5.out.2)
  clear d4_0 d4_1 d4_2 d4_3 d4_4 d4_5 d4_6 d4_7 d4_8 d4_9 d4_10 d4_f o5 b5
  go_wp2_with fail
  refine (C6.out _ L5.out.1).mono ?_
  rintro e w6 ⟨rfl, o6, b6⟩
  have L6 : Hid (OutAt w6 b (Px.sgn (Px.sgn (Px.wrE ex (Px.sgn (Px.sgn (Px.sgn o [99, 97, 108, 108]) x.word.data.toList) [40])) [41]) [116, 114, 105, 101, 115]) ∧ Below b w w6) := ⟨o6, L5.out.2.trans b6⟩
  obtain ⟨d6_0, d6_1, d6_2, d6_3, d6_4, d6_5, d6_6, d6_7, d6_8, d6_9, d6_10, d6_f⟩ := cells11 (CQ.out w6 L6.out.2)
  clear d5_0 d5_1 d5_2 d5_3 d5_4 d5_5 d5_6 d5_7 d5_8 d5_9 d5_10 d5_f o6 b6
  go_wp2_with fail
  refine (C7.out _).mono ?_
  rintro e w8 ⟨S8, rfl, hS8, b8⟩
  have L8 : Hid (OutAt w8 b (Px.sgn (Px.sgn (Px.wrE ex (Px.sgn (Px.sgn (Px.sgn o [99, 97, 108, 108]) x.word.data.toList) [40])) [41]) [116, 114, 105, 101, 115]) ∧ Below b w w8) := ⟨L6.out.1.old b8, L6.out.2.trans (b8.mono (Nat.le_of_lt L6.out.1.lt))⟩
  have T8 : Hid (S8.data.toList = Px.dec x.n) := hS8
  obtain ⟨d8_0, d8_1, d8_2, d8_3, d8_4, d8_5, d8_6, d8_7, d8_8, d8_9, d8_10, d8_f⟩ := cells11 (CQ.out w8 L8.out.2)
  clear d6_0 d6_1 d6_2 d6_3 d6_4 d6_5 d6_6 d6_7 d6_8 d6_9 d6_10 d6_f hS8 b8
  go_wp2_with fail
  refine (C8.out _ S8 T8.out L8.out.1).mono ?_
  rintro e w7 ⟨rfl, o7, b7⟩
  have L7 : Hid (OutAt w7 b (Px.sgn (Px.sgn (Px.sgn (Px.wrE ex (Px.sgn (Px.sgn (Px.sgn o [99, 97, 108, 108]) x.word.data.toList) [40])) [41]) [116, 114, 105, 101, 115]) (Px.dec x.n)) ∧ Below b w w7) := ⟨o7, L8.out.2.trans b7⟩
  obtain ⟨d7_0, d7_1, d7_2, d7_3, d7_4, d7_5, d7_6, d7_7, d7_8, d7_9, d7_10, d7_f⟩ := cells11 (CQ.out w7 L7.out.2)
  clear d8_0 d8_1 d8_2 d8_3 d8_4 d8_5 d8_6 d8_7 d8_8 d8_9 d8_10 d8_f o7 b7
  go_wp2_with fail
  refine (C9.out _ L7.out.1).mono ?_
  rintro e w9 ⟨rfl, o9, b9⟩
  have L9 : Hid (OutAt w9 b (Px.sgn (Px.sgn (Px.sgn (Px.sgn (Px.wrE ex (Px.sgn (Px.sgn (Px.sgn o [99, 97, 108, 108]) x.word.data.toList) [40])) [41]) [116, 114, 105, 101, 115]) (Px.dec x.n)) [59]) ∧ Below b w w9) := ⟨o9, L7.out.2.trans b9⟩
  obtain ⟨d9_0, d9_1, d9_2, d9_3, d9_4, d9_5, d9_6, d9_7, d9_8, d9_9, d9_10, d9_f⟩ := cells11 (CQ.out w9 L9.out.2)
  clear d7_0 d7_1 d7_2 d7_3 d7_4 d7_5 d7_6 d7_7 d7_8 d7_9 d7_10 d7_f o9 b9
  go_wp2_with fail
  go_end0
  rw [EQ.out]
  exact ⟨rfl, L9.out.1, L9.out.2⟩

set_option maxRecDepth 100000 in
set_option maxHeartbeats 8000000 in
theorem outC_1010 (b : Nat) (x : Px.Sm) (hop : x.op = 99) (hE : x.ex ≠ none) (ha : x.asw.size = 0) (hu : 0 < x.undo.size) (hT : x.n = 1) : OutC b x := by
  intro w o ok q hx hok h hw hg hl
  obtain ⟨hq, ve, v1, v2, q1, q2, hv, e3, e4, e5, e6, e7⟩ := hx
  have hqb := hok q hq
  unfold Px.szX at hl
  obtain ⟨ex, hex⟩ : ∃ ex, x.ex = some ex := Option.ne_none_iff_exists'.1 hE
  have hwe := hw.1 ex hex
  have hge := hg.2.2.1 ex hex
  rw [hex] at e3 hl
  obtain ⟨qe, rfl, hxe⟩ := e3
  simp only [Px.szO] at hl
  obtain ⟨d0_0, d0_1, d0_2, d0_3, d0_4, d0_5, d0_6, d0_7, d0_8, d0_9, d0_10, d0_f⟩ := cells11 hv
  have CQ : Hid (∀ W, Below b w W → W.heap[q]? = some (.cells (smCells x (ptr qe) v1 v2) 106)) := fun W hW => by rw [hW.block q hqb]; exact hv
  have hwl : x.word.data.toList.length = x.word.size := rfl
  have ha' : x.asw.toList.isEmpty = true := empty_size ha
  have hu' : x.undo.toList.isEmpty = false := empty_not hu
  have hT' : ((x.n : Int) == 1) = true := by rw [hT]; rfl
  have hal : x.asw.data.toList.length = x.asw.size := rfl
  have hul : x.undo.data.toList.length = x.undo.size := rfl
  have s1 := Px.sgn_len o [99, 97, 108, 108]
  have s2 := Px.sgn_len (Px.sgn o [99, 97, 108, 108]) x.word.data.toList
  have s3 := Px.sgn_len (Px.sgn (Px.sgn o [99, 97, 108, 108]) x.word.data.toList) [40]
  have s4 := Px.wrE_len ex (Px.sgn (Px.sgn (Px.sgn o [99, 97, 108, 108]) x.word.data.toList) [40])
  have s5 := Px.sgn_len (Px.wrE ex (Px.sgn (Px.sgn (Px.sgn o [99, 97, 108, 108]) x.word.data.toList) [40])) [41]
  have s6 := Px.sgn_len (Px.sgn (Px.wrE ex (Px.sgn (Px.sgn (Px.sgn o [99, 97, 108, 108]) x.word.data.toList) [40])) [41]) [117, 110, 100, 111]
  have s7 := Px.sgn_len (Px.sgn (Px.sgn (Px.wrE ex (Px.sgn (Px.sgn (Px.sgn o [99, 97, 108, 108]) x.word.data.toList) [40])) [41]) [117, 110, 100, 111]) x.undo.data.toList
  have s8 := Px.sgn_len (Px.sgn (Px.sgn (Px.sgn (Px.wrE ex (Px.sgn (Px.sgn (Px.sgn o [99, 97, 108, 108]) x.word.data.toList) [40])) [41]) [117, 110, 100, 111]) x.undo.data.toList) [59]
  simp only [List.length_cons, List.length_nil] at *
  have C1 : Hid (∀ W, OutAt W b o → Calls Tryz.prog 36 #[.pointer (some ⟨b, 0, none⟩), .string ⟨#[99, 97, 108, 108]⟩] W (OPost b W (Px.sgn o [99, 97, 108, 108]))) := fun W hO => outSign b _ ⟨#[99, 97, 108, 108]⟩ W hO (by decide) (by show _ + 4 ≤ _; omega)
  have C2 : Hid (∀ W, OutAt W b (Px.sgn o [99, 97, 108, 108]) → Calls Tryz.prog 36 #[.pointer (some ⟨b, 0, none⟩), .string x.word] W (OPost b W (Px.sgn (Px.sgn o [99, 97, 108, 108]) x.word.data.toList))) := fun W hO => outSign b _ x.word W hO (hg.1 (Or.inr hop)) (by show _ + x.word.size ≤ _; omega)
  have C3 : Hid (∀ W, OutAt W b (Px.sgn (Px.sgn o [99, 97, 108, 108]) x.word.data.toList) → Calls Tryz.prog 36 #[.pointer (some ⟨b, 0, none⟩), .string ⟨#[40]⟩] W (OPost b W (Px.sgn (Px.sgn (Px.sgn o [99, 97, 108, 108]) x.word.data.toList) [40]))) := fun W hO => outSign b _ ⟨#[40]⟩ W hO (by decide) (by show _ + 1 ≤ _; omega)
  have C4 : Hid (∀ W, Below b w W → OutAt W b (Px.sgn (Px.sgn (Px.sgn o [99, 97, 108, 108]) x.word.data.toList) [40]) → Calls Tryz.prog 37 #[.pointer (some ⟨b, 0, none⟩), .pointer (some ⟨qe, 0, none⟩), .int .i64 0] W (OPost b W (Px.wrE ex (Px.sgn (Px.sgn (Px.sgn o [99, 97, 108, 108]) x.word.data.toList) [40])))) := fun W hW hO => outE0 b ex hwe W _ ok qe (hxe.keep fun i hi => hW.block i (hok i hi)) hok hO hge (by omega)
  have C5 : Hid (∀ W, OutAt W b (Px.wrE ex (Px.sgn (Px.sgn (Px.sgn o [99, 97, 108, 108]) x.word.data.toList) [40])) → Calls Tryz.prog 36 #[.pointer (some ⟨b, 0, none⟩), .string ⟨#[41]⟩] W (OPost b W (Px.sgn (Px.wrE ex (Px.sgn (Px.sgn (Px.sgn o [99, 97, 108, 108]) x.word.data.toList) [40])) [41]))) := fun W hO => outSign b _ ⟨#[41]⟩ W hO (by decide) (by show _ + 1 ≤ _; omega)
  have C6 : Hid (∀ W, OutAt W b (Px.sgn (Px.wrE ex (Px.sgn (Px.sgn (Px.sgn o [99, 97, 108, 108]) x.word.data.toList) [40])) [41]) → Calls Tryz.prog 36 #[.pointer (some ⟨b, 0, none⟩), .string ⟨#[117, 110, 100, 111]⟩] W (OPost b W (Px.sgn (Px.sgn (Px.wrE ex (Px.sgn (Px.sgn (Px.sgn o [99, 97, 108, 108]) x.word.data.toList) [40])) [41]) [117, 110, 100, 111]))) := fun W hO => outSign b _ ⟨#[117, 110, 100, 111]⟩ W hO (by decide) (by show _ + 4 ≤ _; omega)
  have C7 : Hid (∀ W, OutAt W b (Px.sgn (Px.sgn (Px.wrE ex (Px.sgn (Px.sgn (Px.sgn o [99, 97, 108, 108]) x.word.data.toList) [40])) [41]) [117, 110, 100, 111]) → Calls Tryz.prog 36 #[.pointer (some ⟨b, 0, none⟩), .string x.undo] W (OPost b W (Px.sgn (Px.sgn (Px.sgn (Px.wrE ex (Px.sgn (Px.sgn (Px.sgn o [99, 97, 108, 108]) x.word.data.toList) [40])) [41]) [117, 110, 100, 111]) x.undo.data.toList))) := fun W hO => outSign b _ x.undo W hO hu (by show _ + x.undo.size ≤ _; omega)
  have C8 : Hid (∀ W, OutAt W b (Px.sgn (Px.sgn (Px.sgn (Px.wrE ex (Px.sgn (Px.sgn (Px.sgn o [99, 97, 108, 108]) x.word.data.toList) [40])) [41]) [117, 110, 100, 111]) x.undo.data.toList) → Calls Tryz.prog 36 #[.pointer (some ⟨b, 0, none⟩), .string ⟨#[59]⟩] W (OPost b W (Px.sgn (Px.sgn (Px.sgn (Px.sgn (Px.wrE ex (Px.sgn (Px.sgn (Px.sgn o [99, 97, 108, 108]) x.word.data.toList) [40])) [41]) [117, 110, 100, 111]) x.undo.data.toList) [59]))) := fun W hO => outSign b _ ⟨#[59]⟩ W hO (by decide) (by show _ + 1 ≤ _; omega)
  have L0 : Hid (OutAt w b o ∧ Below b w w) := ⟨h, Below.refl _ _⟩
  have EQ : Hid (Px.wrX x o = Px.sgn (Px.sgn (Px.sgn (Px.sgn (Px.wrE ex (Px.sgn (Px.sgn (Px.sgn o [99, 97, 108, 108]) x.word.data.toList) [40])) [41]) [117, 110, 100, 111]) x.undo.data.toList) [59]) := by unfold Hid; rw [Px.wrX_eq, if_neg (by omega), if_pos hop, Px.wrTries, if_pos hT, Px.wrUndo, if_neg (by omega), Px.wrAs, if_pos ha, hex]; rfl
  clear h hok hg hw hl hv e4 e5 e6 e7 hxe hge hwe s1 s2 s3 s4 s5 s6 s7 s8
  unfold ptr at *
  go_enter Tryz.func38, Tryz.ntmps38
  go_wp2_with fail
  refine (C1.out _ L0.out.1).mono ?_
  rintro e w1 ⟨rfl, o1, b1⟩
  have L1 : Hid (OutAt w1 b (Px.sgn o [99, 97, 108, 108]) ∧ Below b w w1) := ⟨o1, L0.out.2.trans b1⟩
  obtain ⟨d1_0, d1_1, d1_2, d1_3, d1_4, d1_5, d1_6, d1_7, d1_8, d1_9, d1_10, d1_f⟩ := cells11 (CQ.out w1 L1.out.2)
  clear d0_0 d0_1 d0_2 d0_3 d0_4 d0_5 d0_6 d0_7 d0_8 d0_9 d0_10 d0_f o1 b1
  go_wp2_with fail
  refine (C2.out _ L1.out.1).mono ?_
  rintro e w2 ⟨rfl, o2, b2⟩
  have L2 : Hid (OutAt w2 b (Px.sgn (Px.sgn o [99, 97, 108, 108]) x.word.data.toList) ∧ Below b w w2) := ⟨o2, L1.out.2.trans b2⟩
  obtain ⟨d2_0, d2_1, d2_2, d2_3, d2_4, d2_5, d2_6, d2_7, d2_8, d2_9, d2_10, d2_f⟩ := cells11 (CQ.out w2 L2.out.2)
  clear d1_0 d1_1 d1_2 d1_3 d1_4 d1_5 d1_6 d1_7 d1_8 d1_9 d1_10 d1_f o2 b2
  go_wp2_with fail
  refine (C3.out _ L2.out.1).mono ?_
  rintro e w3 ⟨rfl, o3, b3⟩
  have L3 : Hid (OutAt w3 b (Px.sgn (Px.sgn (Px.sgn o [99, 97, 108, 108]) x.word.data.toList) [40]) ∧ Below b w w3) := ⟨o3, L2.out.2.trans b3⟩
  obtain ⟨d3_0, d3_1, d3_2, d3_3, d3_4, d3_5, d3_6, d3_7, d3_8, d3_9, d3_10, d3_f⟩ := cells11 (CQ.out w3 L3.out.2)
  clear d2_0 d2_1 d2_2 d2_3 d2_4 d2_5 d2_6 d2_7 d2_8 d2_9 d2_10 d2_f o3 b3
  go_wp2_with fail
  refine (C4.out _ L3.out.2 L3.out.1).mono ?_
  rintro e w4 ⟨rfl, o4, b4⟩
  have L4 : Hid (OutAt w4 b (Px.wrE ex (Px.sgn (Px.sgn (Px.sgn o [99, 97, 108, 108]) x.word.data.toList) [40])) ∧ Below b w w4) := ⟨o4, L3.out.2.trans b4⟩
  obtain ⟨d4_0, d4_1, d4_2, d4_3, d4_4, d4_5, d4_6, d4_7, d4_8, d4_9, d4_10, d4_f⟩ := cells11 (CQ.out w4 L4.out.2)
  clear d3_0 d3_1 d3_2 d3_3 d3_4 d3_5 d3_6 d3_7 d3_8 d3_9 d3_10 d3_f o4 b4
  go_wp2_with fail
  refine (C5.out _ L4.out.1).mono ?_
  rintro e w5 ⟨rfl, o5, b5⟩
  have L5 : Hid (OutAt w5 b (Px.sgn (Px.wrE ex (Px.sgn (Px.sgn (Px.sgn o [99, 97, 108, 108]) x.word.data.toList) [40])) [41]) ∧ Below b w w5) := ⟨o5, L4.out.2.trans b5⟩
  obtain ⟨d5_0, d5_1, d5_2, d5_3, d5_4, d5_5, d5_6, d5_7, d5_8, d5_9, d5_10, d5_f⟩ := cells11 (CQ.out w5 L5.out.2)
  clear d4_0 d4_1 d4_2 d4_3 d4_4 d4_5 d4_6 d4_7 d4_8 d4_9 d4_10 d4_f o5 b5
  go_wp2_with fail
  refine (C6.out _ L5.out.1).mono ?_
  rintro e w6 ⟨rfl, o6, b6⟩
  have L6 : Hid (OutAt w6 b (Px.sgn (Px.sgn (Px.wrE ex (Px.sgn (Px.sgn (Px.sgn o [99, 97, 108, 108]) x.word.data.toList) [40])) [41]) [117, 110, 100, 111]) ∧ Below b w w6) := ⟨o6, L5.out.2.trans b6⟩
  obtain ⟨d6_0, d6_1, d6_2, d6_3, d6_4, d6_5, d6_6, d6_7, d6_8, d6_9, d6_10, d6_f⟩ := cells11 (CQ.out w6 L6.out.2)
  clear d5_0 d5_1 d5_2 d5_3 d5_4 d5_5 d5_6 d5_7 d5_8 d5_9 d5_10 d5_f o6 b6
  go_wp2_with fail
  refine (C7.out _ L6.out.1).mono ?_
  rintro e w7 ⟨rfl, o7, b7⟩
  have L7 : Hid (OutAt w7 b (Px.sgn (Px.sgn (Px.sgn (Px.wrE ex (Px.sgn (Px.sgn (Px.sgn o [99, 97, 108, 108]) x.word.data.toList) [40])) [41]) [117, 110, 100, 111]) x.undo.data.toList) ∧ Below b w w7) := ⟨o7, L6.out.2.trans b7⟩
  obtain ⟨d7_0, d7_1, d7_2, d7_3, d7_4, d7_5, d7_6, d7_7, d7_8, d7_9, d7_10, d7_f⟩ := cells11 (CQ.out w7 L7.out.2)
  clear d6_0 d6_1 d6_2 d6_3 d6_4 d6_5 d6_6 d6_7 d6_8 d6_9 d6_10 d6_f o7 b7
  go_wp2_with fail
  refine (C8.out _ L7.out.1).mono ?_
  rintro e w8 ⟨rfl, o8, b8⟩
  have L8 : Hid (OutAt w8 b (Px.sgn (Px.sgn (Px.sgn (Px.sgn (Px.wrE ex (Px.sgn (Px.sgn (Px.sgn o [99, 97, 108, 108]) x.word.data.toList) [40])) [41]) [117, 110, 100, 111]) x.undo.data.toList) [59]) ∧ Below b w w8) := ⟨o8, L7.out.2.trans b8⟩
  obtain ⟨d8_0, d8_1, d8_2, d8_3, d8_4, d8_5, d8_6, d8_7, d8_8, d8_9, d8_10, d8_f⟩ := cells11 (CQ.out w8 L8.out.2)
  clear d7_0 d7_1 d7_2 d7_3 d7_4 d7_5 d7_6 d7_7 d7_8 d7_9 d7_10 d7_f o8 b8
  go_wp2_with fail
  go_end0
  rw [EQ.out]
  exact ⟨rfl, L8.out.1, L8.out.2⟩

set_option maxRecDepth 100000 in
set_option maxHeartbeats 8000000 in
theorem outC_1011 (b : Nat) (x : Px.Sm) (hop : x.op = 99) (hE : x.ex ≠ none) (ha : x.asw.size = 0) (hu : 0 < x.undo.size) (hT : x.n ≠ 1) : OutC b x := by
  intro w o ok q hx hok h hw hg hl
  obtain ⟨hq, ve, v1, v2, q1, q2, hv, e3, e4, e5, e6, e7⟩ := hx
  have hqb := hok q hq
  unfold Px.szX at hl
  obtain ⟨ex, hex⟩ : ∃ ex, x.ex = some ex := Option.ne_none_iff_exists'.1 hE
  have hwe := hw.1 ex hex
  have hge := hg.2.2.1 ex hex
  rw [hex] at e3 hl
  obtain ⟨qe, rfl, hxe⟩ := e3
  simp only [Px.szO] at hl
  obtain ⟨d0_0, d0_1, d0_2, d0_3, d0_4, d0_5, d0_6, d0_7, d0_8, d0_9, d0_10, d0_f⟩ := cells11 hv
  have CQ : Hid (∀ W, Below b w W → W.heap[q]? = some (.cells (smCells x (ptr qe) v1 v2) 106)) := fun W hW => by rw [hW.block q hqb]; exact hv
  have hwl : x.word.data.toList.length = x.word.size := rfl
  have ha' : x.asw.toList.isEmpty = true := empty_size ha
  have hu' : x.undo.toList.isEmpty = false := empty_not hu
  have hT' : ((x.n : Int) == 1) = false := by rw [beq_eq_false_iff_ne]; omega
  have hal : x.asw.data.toList.length = x.asw.size := rfl
  have hul : x.undo.data.toList.length = x.undo.size := rfl
  have s1 := Px.sgn_len o [99, 97, 108, 108]
  have s2 := Px.sgn_len (Px.sgn o [99, 97, 108, 108]) x.word.data.toList
  have s3 := Px.sgn_len (Px.sgn (Px.sgn o [99, 97, 108, 108]) x.word.data.toList) [40]
  have s4 := Px.wrE_len ex (Px.sgn (Px.sgn (Px.sgn o [99, 97, 108, 108]) x.word.data.toList) [40])
  have s5 := Px.sgn_len (Px.wrE ex (Px.sgn (Px.sgn (Px.sgn o [99, 97, 108, 108]) x.word.data.toList) [40])) [41]
  have s6 := Px.sgn_len (Px.sgn (Px.wrE ex (Px.sgn (Px.sgn (Px.sgn o [99, 97, 108, 108]) x.word.data.toList) [40])) [41]) [117, 110, 100, 111]
  have s7 := Px.sgn_len (Px.sgn (Px.sgn (Px.wrE ex (Px.sgn (Px.sgn (Px.sgn o [99, 97, 108, 108]) x.word.data.toList) [40])) [41]) [117, 110, 100, 111]) x.undo.data.toList
  have s8 := Px.sgn_len (Px.sgn (Px.sgn (Px.sgn (Px.wrE ex (Px.sgn (Px.sgn (Px.sgn o [99, 97, 108, 108]) x.word.data.toList) [40])) [41]) [117, 110, 100, 111]) x.undo.data.toList) [116, 114, 105, 101, 115]
  have s9 := Px.sgn_len (Px.sgn (Px.sgn (Px.sgn (Px.sgn (Px.wrE ex (Px.sgn (Px.sgn (Px.sgn o [99, 97, 108, 108]) x.word.data.toList) [40])) [41]) [117, 110, 100, 111]) x.undo.data.toList) [116, 114, 105, 101, 115]) (Px.dec x.n)
  have s10 := Px.dec_len x.n
  have s11 := dec_pos x.n
  have s12 := Px.sgn_len (Px.sgn (Px.sgn (Px.sgn (Px.sgn (Px.sgn (Px.wrE ex (Px.sgn (Px.sgn (Px.sgn o [99, 97, 108, 108]) x.word.data.toList) [40])) [41]) [117, 110, 100, 111]) x.undo.data.toList) [116, 114, 105, 101, 115]) (Px.dec x.n)) [59]
  simp only [List.length_cons, List.length_nil] at *
  have C1 : Hid (∀ W, OutAt W b o → Calls Tryz.prog 36 #[.pointer (some ⟨b, 0, none⟩), .string ⟨#[99, 97, 108, 108]⟩] W (OPost b W (Px.sgn o [99, 97, 108, 108]))) := fun W hO => outSign b _ ⟨#[99, 97, 108, 108]⟩ W hO (by decide) (by show _ + 4 ≤ _; omega)
  have C2 : Hid (∀ W, OutAt W b (Px.sgn o [99, 97, 108, 108]) → Calls Tryz.prog 36 #[.pointer (some ⟨b, 0, none⟩), .string x.word] W (OPost b W (Px.sgn (Px.sgn o [99, 97, 108, 108]) x.word.data.toList))) := fun W hO => outSign b _ x.word W hO (hg.1 (Or.inr hop)) (by show _ + x.word.size ≤ _; omega)
  have C3 : Hid (∀ W, OutAt W b (Px.sgn (Px.sgn o [99, 97, 108, 108]) x.word.data.toList) → Calls Tryz.prog 36 #[.pointer (some ⟨b, 0, none⟩), .string ⟨#[40]⟩] W (OPost b W (Px.sgn (Px.sgn (Px.sgn o [99, 97, 108, 108]) x.word.data.toList) [40]))) := fun W hO => outSign b _ ⟨#[40]⟩ W hO (by decide) (by show _ + 1 ≤ _; omega)
  have C4 : Hid (∀ W, Below b w W → OutAt W b (Px.sgn (Px.sgn (Px.sgn o [99, 97, 108, 108]) x.word.data.toList) [40]) → Calls Tryz.prog 37 #[.pointer (some ⟨b, 0, none⟩), .pointer (some ⟨qe, 0, none⟩), .int .i64 0] W (OPost b W (Px.wrE ex (Px.sgn (Px.sgn (Px.sgn o [99, 97, 108, 108]) x.word.data.toList) [40])))) := fun W hW hO => outE0 b ex hwe W _ ok qe (hxe.keep fun i hi => hW.block i (hok i hi)) hok hO hge (by omega)
  have C5 : Hid (∀ W, OutAt W b (Px.wrE ex (Px.sgn (Px.sgn (Px.sgn o [99, 97, 108, 108]) x.word.data.toList) [40])) → Calls Tryz.prog 36 #[.pointer (some ⟨b, 0, none⟩), .string ⟨#[41]⟩] W (OPost b W (Px.sgn (Px.wrE ex (Px.sgn (Px.sgn (Px.sgn o [99, 97, 108, 108]) x.word.data.toList) [40])) [41]))) := fun W hO => outSign b _ ⟨#[41]⟩ W hO (by decide) (by show _ + 1 ≤ _; omega)
  have C6 : Hid (∀ W, OutAt W b (Px.sgn (Px.wrE ex (Px.sgn (Px.sgn (Px.sgn o [99, 97, 108, 108]) x.word.data.toList) [40])) [41]) → Calls Tryz.prog 36 #[.pointer (some ⟨b, 0, none⟩), .string ⟨#[117, 110, 100, 111]⟩] W (OPost b W (Px.sgn (Px.sgn (Px.wrE ex (Px.sgn (Px.sgn (Px.sgn o [99, 97, 108, 108]) x.word.data.toList) [40])) [41]) [117, 110, 100, 111]))) := fun W hO => outSign b _ ⟨#[117, 110, 100, 111]⟩ W hO (by decide) (by show _ + 4 ≤ _; omega)
  have C7 : Hid (∀ W, OutAt W b (Px.sgn (Px.sgn (Px.wrE ex (Px.sgn (Px.sgn (Px.sgn o [99, 97, 108, 108]) x.word.data.toList) [40])) [41]) [117, 110, 100, 111]) → Calls Tryz.prog 36 #[.pointer (some ⟨b, 0, none⟩), .string x.undo] W (OPost b W (Px.sgn (Px.sgn (Px.sgn (Px.wrE ex (Px.sgn (Px.sgn (Px.sgn o [99, 97, 108, 108]) x.word.data.toList) [40])) [41]) [117, 110, 100, 111]) x.undo.data.toList))) := fun W hO => outSign b _ x.undo W hO hu (by show _ + x.undo.size ≤ _; omega)
  have C8 : Hid (∀ W, OutAt W b (Px.sgn (Px.sgn (Px.sgn (Px.wrE ex (Px.sgn (Px.sgn (Px.sgn o [99, 97, 108, 108]) x.word.data.toList) [40])) [41]) [117, 110, 100, 111]) x.undo.data.toList) → Calls Tryz.prog 36 #[.pointer (some ⟨b, 0, none⟩), .string ⟨#[116, 114, 105, 101, 115]⟩] W (OPost b W (Px.sgn (Px.sgn (Px.sgn (Px.sgn (Px.wrE ex (Px.sgn (Px.sgn (Px.sgn o [99, 97, 108, 108]) x.word.data.toList) [40])) [41]) [117, 110, 100, 111]) x.undo.data.toList) [116, 114, 105, 101, 115]))) := fun W hO => outSign b _ ⟨#[116, 114, 105, 101, 115]⟩ W hO (by decide) (by show _ + 5 ≤ _; omega)
  have C9 : Hid (∀ W, Calls Tryz.prog 40 #[.int .i64 (x.n : Int)] W (DecPost x.n W)) := dec_any x.n hg.2.1
  have C10 : Hid (∀ W (S : ByteArray), S.data.toList = Px.dec x.n → OutAt W b (Px.sgn (Px.sgn (Px.sgn (Px.sgn (Px.wrE ex (Px.sgn (Px.sgn (Px.sgn o [99, 97, 108, 108]) x.word.data.toList) [40])) [41]) [117, 110, 100, 111]) x.undo.data.toList) [116, 114, 105, 101, 115]) → Calls Tryz.prog 36 #[.pointer (some ⟨b, 0, none⟩), .string S] W (OPost b W (Px.sgn (Px.sgn (Px.sgn (Px.sgn (Px.sgn (Px.wrE ex (Px.sgn (Px.sgn (Px.sgn o [99, 97, 108, 108]) x.word.data.toList) [40])) [41]) [117, 110, 100, 111]) x.undo.data.toList) [116, 114, 105, 101, 115]) (Px.dec x.n)))) := fun W S hS hO => by
    have hz : S.size = (Px.dec x.n).length := by rw [← hS]; rfl
    rw [← hS]
    exact outSign b _ S W hO (by omega) (by omega)
  have C11 : Hid (∀ W, OutAt W b (Px.sgn (Px.sgn (Px.sgn (Px.sgn (Px.sgn (Px.wrE ex (Px.sgn (Px.sgn (Px.sgn o [99, 97, 108, 108]) x.word.data.toList) [40])) [41]) [117, 110, 100, 111]) x.undo.data.toList) [116, 114, 105, 101, 115]) (Px.dec x.n)) → Calls Tryz.prog 36 #[.pointer (some ⟨b, 0, none⟩), .string ⟨#[59]⟩] W (OPost b W (Px.sgn (Px.sgn (Px.sgn (Px.sgn (Px.sgn (Px.sgn (Px.wrE ex (Px.sgn (Px.sgn (Px.sgn o [99, 97, 108, 108]) x.word.data.toList) [40])) [41]) [117, 110, 100, 111]) x.undo.data.toList) [116, 114, 105, 101, 115]) (Px.dec x.n)) [59]))) := fun W hO => outSign b _ ⟨#[59]⟩ W hO (by decide) (by show _ + 1 ≤ _; omega)
  have L0 : Hid (OutAt w b o ∧ Below b w w) := ⟨h, Below.refl _ _⟩
  have EQ : Hid (Px.wrX x o = Px.sgn (Px.sgn (Px.sgn (Px.sgn (Px.sgn (Px.sgn (Px.wrE ex (Px.sgn (Px.sgn (Px.sgn o [99, 97, 108, 108]) x.word.data.toList) [40])) [41]) [117, 110, 100, 111]) x.undo.data.toList) [116, 114, 105, 101, 115]) (Px.dec x.n)) [59]) := by unfold Hid; rw [Px.wrX_eq, if_neg (by omega), if_pos hop, Px.wrTries, if_neg hT, Px.wrUndo, if_neg (by omega), Px.wrAs, if_pos ha, hex]; rfl
  clear h hok hg hw hl hv e4 e5 e6 e7 hxe hge hwe s1 s2 s3 s4 s5 s6 s7 s8 s9 s10 s11 s12
  unfold ptr at *
  go_enter Tryz.func38, Tryz.ntmps38
  go_wp2_with fail
  refine (C1.out _ L0.out.1).mono ?_
  rintro e w1 ⟨rfl, o1, b1⟩
  have L1 : Hid (OutAt w1 b (Px.sgn o [99, 97, 108, 108]) ∧ Below b w w1) := ⟨o1, L0.out.2.trans b1⟩
  obtain ⟨d1_0, d1_1, d1_2, d1_3, d1_4, d1_5, d1_6, d1_7, d1_8, d1_9, d1_10, d1_f⟩ := cells11 (CQ.out w1 L1.out.2)
  clear d0_0 d0_1 d0_2 d0_3 d0_4 d0_5 d0_6 d0_7 d0_8 d0_9 d0_10 d0_f o1 b1
  go_wp2_with fail
  refine (C2.out _ L1.out.1).mono ?_
  rintro e w2 ⟨rfl, o2, b2⟩
  have L2 : Hid (OutAt w2 b (Px.sgn (Px.sgn o [99, 97, 108, 108]) x.word.data.toList) ∧ Below b w w2) := ⟨o2, L1.out.2.trans b2⟩
  obtain ⟨d2_0, d2_1, d2_2, d2_3, d2_4, d2_5, d2_6, d2_7, d2_8, d2_9, d2_10, d2_f⟩ := cells11 (CQ.out w2 L2.out.2)
  clear d1_0 d1_1 d1_2 d1_3 d1_4 d1_5 d1_6 d1_7 d1_8 d1_9 d1_10 d1_f o2 b2
  go_wp2_with fail
  refine (C3.out _ L2.out.1).mono ?_
  rintro e w3 ⟨rfl, o3, b3⟩
  have L3 : Hid (OutAt w3 b (Px.sgn (Px.sgn (Px.sgn o [99, 97, 108, 108]) x.word.data.toList) [40]) ∧ Below b w w3) := ⟨o3, L2.out.2.trans b3⟩
  obtain ⟨d3_0, d3_1, d3_2, d3_3, d3_4, d3_5, d3_6, d3_7, d3_8, d3_9, d3_10, d3_f⟩ := cells11 (CQ.out w3 L3.out.2)
  clear d2_0 d2_1 d2_2 d2_3 d2_4 d2_5 d2_6 d2_7 d2_8 d2_9 d2_10 d2_f o3 b3
  go_wp2_with fail
  refine (C4.out _ L3.out.2 L3.out.1).mono ?_
  rintro e w4 ⟨rfl, o4, b4⟩
  have L4 : Hid (OutAt w4 b (Px.wrE ex (Px.sgn (Px.sgn (Px.sgn o [99, 97, 108, 108]) x.word.data.toList) [40])) ∧ Below b w w4) := ⟨o4, L3.out.2.trans b4⟩
  obtain ⟨d4_0, d4_1, d4_2, d4_3, d4_4, d4_5, d4_6, d4_7, d4_8, d4_9, d4_10, d4_f⟩ := cells11 (CQ.out w4 L4.out.2)
  clear d3_0 d3_1 d3_2 d3_3 d3_4 d3_5 d3_6 d3_7 d3_8 d3_9 d3_10 d3_f o4 b4
  go_wp2_with fail
  refine (C5.out _ L4.out.1).mono ?_
  rintro e w5 ⟨rfl, o5, b5⟩
  have L5 : Hid (OutAt w5 b (Px.sgn (Px.wrE ex (Px.sgn (Px.sgn (Px.sgn o [99, 97, 108, 108]) x.word.data.toList) [40])) [41]) ∧ Below b w w5) := ⟨o5, L4.out.2.trans b5⟩
  obtain ⟨d5_0, d5_1, d5_2, d5_3, d5_4, d5_5, d5_6, d5_7, d5_8, d5_9, d5_10, d5_f⟩ := cells11 (CQ.out w5 L5.out.2)
  clear d4_0 d4_1 d4_2 d4_3 d4_4 d4_5 d4_6 d4_7 d4_8 d4_9 d4_10 d4_f o5 b5
  go_wp2_with fail
  refine (C6.out _ L5.out.1).mono ?_
  rintro e w6 ⟨rfl, o6, b6⟩
  have L6 : Hid (OutAt w6 b (Px.sgn (Px.sgn (Px.wrE ex (Px.sgn (Px.sgn (Px.sgn o [99, 97, 108, 108]) x.word.data.toList) [40])) [41]) [117, 110, 100, 111]) ∧ Below b w w6) := ⟨o6, L5.out.2.trans b6⟩
  obtain ⟨d6_0, d6_1, d6_2, d6_3, d6_4, d6_5, d6_6, d6_7, d6_8, d6_9, d6_10, d6_f⟩ := cells11 (CQ.out w6 L6.out.2)
  clear d5_0 d5_1 d5_2 d5_3 d5_4 d5_5 d5_6 d5_7 d5_8 d5_9 d5_10 d5_f o6 b6
  go_wp2_with fail
  refine (C7.out _ L6.out.1).mono ?_
  rintro e w7 ⟨rfl, o7, b7⟩
  have L7 : Hid (OutAt w7 b (Px.sgn (Px.sgn (Px.sgn (Px.wrE ex (Px.sgn (Px.sgn (Px.sgn o [99, 97, 108, 108]) x.word.data.toList) [40])) [41]) [117, 110, 100, 111]) x.undo.data.toList) ∧ Below b w w7) := ⟨o7, L6.out.2.trans b7⟩
  obtain ⟨d7_0, d7_1, d7_2, d7_3, d7_4, d7_5, d7_6, d7_7, d7_8, d7_9, d7_10, d7_f⟩ := cells11 (CQ.out w7 L7.out.2)
  clear d6_0 d6_1 d6_2 d6_3 d6_4 d6_5 d6_6 d6_7 d6_8 d6_9 d6_10 d6_f o7 b7
  go_wp2_with fail
  refine (C8.out _ L7.out.1).mono ?_
  rintro e w8 ⟨rfl, o8, b8⟩
  have L8 : Hid (OutAt w8 b (Px.sgn (Px.sgn (Px.sgn (Px.sgn (Px.wrE ex (Px.sgn (Px.sgn (Px.sgn o [99, 97, 108, 108]) x.word.data.toList) [40])) [41]) [117, 110, 100, 111]) x.undo.data.toList) [116, 114, 105, 101, 115]) ∧ Below b w w8) := ⟨o8, L7.out.2.trans b8⟩
  obtain ⟨d8_0, d8_1, d8_2, d8_3, d8_4, d8_5, d8_6, d8_7, d8_8, d8_9, d8_10, d8_f⟩ := cells11 (CQ.out w8 L8.out.2)
  clear d7_0 d7_1 d7_2 d7_3 d7_4 d7_5 d7_6 d7_7 d7_8 d7_9 d7_10 d7_f o8 b8
  go_wp2_with fail
  refine (C9.out _).mono ?_
  rintro e w10 ⟨S10, rfl, hS10, b10⟩
  have L10 : Hid (OutAt w10 b (Px.sgn (Px.sgn (Px.sgn (Px.sgn (Px.wrE ex (Px.sgn (Px.sgn (Px.sgn o [99, 97, 108, 108]) x.word.data.toList) [40])) [41]) [117, 110, 100, 111]) x.undo.data.toList) [116, 114, 105, 101, 115]) ∧ Below b w w10) := ⟨L8.out.1.old b10, L8.out.2.trans (b10.mono (Nat.le_of_lt L8.out.1.lt))⟩
  have T10 : Hid (S10.data.toList = Px.dec x.n) := hS10
  obtain ⟨d10_0, d10_1, d10_2, d10_3, d10_4, d10_5, d10_6, d10_7, d10_8, d10_9, d10_10, d10_f⟩ := cells11 (CQ.out w10 L10.out.2)
  clear d8_0 d8_1 d8_2 d8_3 d8_4 d8_5 d8_6 d8_7 d8_8 d8_9 d8_10 d8_f hS10 b10
  go_wp2_with fail
  refine (C10.out _ S10 T10.out L10.out.1).mono ?_
  rintro e w9 ⟨rfl, o9, b9⟩
  have L9 : Hid (OutAt w9 b (Px.sgn (Px.sgn (Px.sgn (Px.sgn (Px.sgn (Px.wrE ex (Px.sgn (Px.sgn (Px.sgn o [99, 97, 108, 108]) x.word.data.toList) [40])) [41]) [117, 110, 100, 111]) x.undo.data.toList) [116, 114, 105, 101, 115]) (Px.dec x.n)) ∧ Below b w w9) := ⟨o9, L10.out.2.trans b9⟩
  obtain ⟨d9_0, d9_1, d9_2, d9_3, d9_4, d9_5, d9_6, d9_7, d9_8, d9_9, d9_10, d9_f⟩ := cells11 (CQ.out w9 L9.out.2)
  clear d10_0 d10_1 d10_2 d10_3 d10_4 d10_5 d10_6 d10_7 d10_8 d10_9 d10_10 d10_f o9 b9
  go_wp2_with fail
  refine (C11.out _ L9.out.1).mono ?_
  rintro e w11 ⟨rfl, o11, b11⟩
  have L11 : Hid (OutAt w11 b (Px.sgn (Px.sgn (Px.sgn (Px.sgn (Px.sgn (Px.sgn (Px.wrE ex (Px.sgn (Px.sgn (Px.sgn o [99, 97, 108, 108]) x.word.data.toList) [40])) [41]) [117, 110, 100, 111]) x.undo.data.toList) [116, 114, 105, 101, 115]) (Px.dec x.n)) [59]) ∧ Below b w w11) := ⟨o11, L9.out.2.trans b11⟩
  obtain ⟨d11_0, d11_1, d11_2, d11_3, d11_4, d11_5, d11_6, d11_7, d11_8, d11_9, d11_10, d11_f⟩ := cells11 (CQ.out w11 L11.out.2)
  clear d9_0 d9_1 d9_2 d9_3 d9_4 d9_5 d9_6 d9_7 d9_8 d9_9 d9_10 d9_f o11 b11
  go_wp2_with fail
  go_end0
  rw [EQ.out]
  exact ⟨rfl, L11.out.1, L11.out.2⟩

set_option maxRecDepth 100000 in
set_option maxHeartbeats 8000000 in
theorem outC_1100 (b : Nat) (x : Px.Sm) (hop : x.op = 99) (hE : x.ex ≠ none) (ha : 0 < x.asw.size) (hu : x.undo.size = 0) (hT : x.n = 1) : OutC b x := by
  intro w o ok q hx hok h hw hg hl
  obtain ⟨hq, ve, v1, v2, q1, q2, hv, e3, e4, e5, e6, e7⟩ := hx
  have hqb := hok q hq
  unfold Px.szX at hl
  obtain ⟨ex, hex⟩ : ∃ ex, x.ex = some ex := Option.ne_none_iff_exists'.1 hE
  have hwe := hw.1 ex hex
  have hge := hg.2.2.1 ex hex
  rw [hex] at e3 hl
  obtain ⟨qe, rfl, hxe⟩ := e3
  simp only [Px.szO] at hl
  obtain ⟨d0_0, d0_1, d0_2, d0_3, d0_4, d0_5, d0_6, d0_7, d0_8, d0_9, d0_10, d0_f⟩ := cells11 hv
  have CQ : Hid (∀ W, Below b w W → W.heap[q]? = some (.cells (smCells x (ptr qe) v1 v2) 106)) := fun W hW => by rw [hW.block q hqb]; exact hv
  have hwl : x.word.data.toList.length = x.word.size := rfl
  have ha' : x.asw.toList.isEmpty = false := empty_not ha
  have hu' : x.undo.toList.isEmpty = true := empty_size hu
  have hT' : ((x.n : Int) == 1) = true := by rw [hT]; rfl
  have hal : x.asw.data.toList.length = x.asw.size := rfl
  have hul : x.undo.data.toList.length = x.undo.size := rfl
  have s1 := Px.sgn_len o [99, 97, 108, 108]
  have s2 := Px.sgn_len (Px.sgn o [99, 97, 108, 108]) x.word.data.toList
  have s3 := Px.sgn_len (Px.sgn (Px.sgn o [99, 97, 108, 108]) x.word.data.toList) [40]
  have s4 := Px.wrE_len ex (Px.sgn (Px.sgn (Px.sgn o [99, 97, 108, 108]) x.word.data.toList) [40])
  have s5 := Px.sgn_len (Px.wrE ex (Px.sgn (Px.sgn (Px.sgn o [99, 97, 108, 108]) x.word.data.toList) [40])) [41]
  have s6 := Px.sgn_len (Px.sgn (Px.wrE ex (Px.sgn (Px.sgn (Px.sgn o [99, 97, 108, 108]) x.word.data.toList) [40])) [41]) [97, 115]
  have s7 := Px.sgn_len (Px.sgn (Px.sgn (Px.wrE ex (Px.sgn (Px.sgn (Px.sgn o [99, 97, 108, 108]) x.word.data.toList) [40])) [41]) [97, 115]) x.asw.data.toList
  have s8 := Px.sgn_len (Px.sgn (Px.sgn (Px.sgn (Px.wrE ex (Px.sgn (Px.sgn (Px.sgn o [99, 97, 108, 108]) x.word.data.toList) [40])) [41]) [97, 115]) x.asw.data.toList) [59]
  simp only [List.length_cons, List.length_nil] at *
  have C1 : Hid (∀ W, OutAt W b o → Calls Tryz.prog 36 #[.pointer (some ⟨b, 0, none⟩), .string ⟨#[99, 97, 108, 108]⟩] W (OPost b W (Px.sgn o [99, 97, 108, 108]))) := fun W hO => outSign b _ ⟨#[99, 97, 108, 108]⟩ W hO (by decide) (by show _ + 4 ≤ _; omega)
  have C2 : Hid (∀ W, OutAt W b (Px.sgn o [99, 97, 108, 108]) → Calls Tryz.prog 36 #[.pointer (some ⟨b, 0, none⟩), .string x.word] W (OPost b W (Px.sgn (Px.sgn o [99, 97, 108, 108]) x.word.data.toList))) := fun W hO => outSign b _ x.word W hO (hg.1 (Or.inr hop)) (by show _ + x.word.size ≤ _; omega)
  have C3 : Hid (∀ W, OutAt W b (Px.sgn (Px.sgn o [99, 97, 108, 108]) x.word.data.toList) → Calls Tryz.prog 36 #[.pointer (some ⟨b, 0, none⟩), .string ⟨#[40]⟩] W (OPost b W (Px.sgn (Px.sgn (Px.sgn o [99, 97, 108, 108]) x.word.data.toList) [40]))) := fun W hO => outSign b _ ⟨#[40]⟩ W hO (by decide) (by show _ + 1 ≤ _; omega)
  have C4 : Hid (∀ W, Below b w W → OutAt W b (Px.sgn (Px.sgn (Px.sgn o [99, 97, 108, 108]) x.word.data.toList) [40]) → Calls Tryz.prog 37 #[.pointer (some ⟨b, 0, none⟩), .pointer (some ⟨qe, 0, none⟩), .int .i64 0] W (OPost b W (Px.wrE ex (Px.sgn (Px.sgn (Px.sgn o [99, 97, 108, 108]) x.word.data.toList) [40])))) := fun W hW hO => outE0 b ex hwe W _ ok qe (hxe.keep fun i hi => hW.block i (hok i hi)) hok hO hge (by omega)
  have C5 : Hid (∀ W, OutAt W b (Px.wrE ex (Px.sgn (Px.sgn (Px.sgn o [99, 97, 108, 108]) x.word.data.toList) [40])) → Calls Tryz.prog 36 #[.pointer (some ⟨b, 0, none⟩), .string ⟨#[41]⟩] W (OPost b W (Px.sgn (Px.wrE ex (Px.sgn (Px.sgn (Px.sgn o [99, 97, 108, 108]) x.word.data.toList) [40])) [41]))) := fun W hO => outSign b _ ⟨#[41]⟩ W hO (by decide) (by show _ + 1 ≤ _; omega)
  have C6 : Hid (∀ W, OutAt W b (Px.sgn (Px.wrE ex (Px.sgn (Px.sgn (Px.sgn o [99, 97, 108, 108]) x.word.data.toList) [40])) [41]) → Calls Tryz.prog 36 #[.pointer (some ⟨b, 0, none⟩), .string ⟨#[97, 115]⟩] W (OPost b W (Px.sgn (Px.sgn (Px.wrE ex (Px.sgn (Px.sgn (Px.sgn o [99, 97, 108, 108]) x.word.data.toList) [40])) [41]) [97, 115]))) := fun W hO => outSign b _ ⟨#[97, 115]⟩ W hO (by decide) (by show _ + 2 ≤ _; omega)
  have C7 : Hid (∀ W, OutAt W b (Px.sgn (Px.sgn (Px.wrE ex (Px.sgn (Px.sgn (Px.sgn o [99, 97, 108, 108]) x.word.data.toList) [40])) [41]) [97, 115]) → Calls Tryz.prog 36 #[.pointer (some ⟨b, 0, none⟩), .string x.asw] W (OPost b W (Px.sgn (Px.sgn (Px.sgn (Px.wrE ex (Px.sgn (Px.sgn (Px.sgn o [99, 97, 108, 108]) x.word.data.toList) [40])) [41]) [97, 115]) x.asw.data.toList))) := fun W hO => outSign b _ x.asw W hO ha (by show _ + x.asw.size ≤ _; omega)
  have C8 : Hid (∀ W, OutAt W b (Px.sgn (Px.sgn (Px.sgn (Px.wrE ex (Px.sgn (Px.sgn (Px.sgn o [99, 97, 108, 108]) x.word.data.toList) [40])) [41]) [97, 115]) x.asw.data.toList) → Calls Tryz.prog 36 #[.pointer (some ⟨b, 0, none⟩), .string ⟨#[59]⟩] W (OPost b W (Px.sgn (Px.sgn (Px.sgn (Px.sgn (Px.wrE ex (Px.sgn (Px.sgn (Px.sgn o [99, 97, 108, 108]) x.word.data.toList) [40])) [41]) [97, 115]) x.asw.data.toList) [59]))) := fun W hO => outSign b _ ⟨#[59]⟩ W hO (by decide) (by show _ + 1 ≤ _; omega)
  have L0 : Hid (OutAt w b o ∧ Below b w w) := ⟨h, Below.refl _ _⟩
  have EQ : Hid (Px.wrX x o = Px.sgn (Px.sgn (Px.sgn (Px.sgn (Px.wrE ex (Px.sgn (Px.sgn (Px.sgn o [99, 97, 108, 108]) x.word.data.toList) [40])) [41]) [97, 115]) x.asw.data.toList) [59]) := by unfold Hid; rw [Px.wrX_eq, if_neg (by omega), if_pos hop, Px.wrTries, if_pos hT, Px.wrUndo, if_pos hu, Px.wrAs, if_neg (by omega), hex]; rfl
  clear h hok hg hw hl hv e4 e5 e6 e7 hxe hge hwe s1 s2 s3 s4 s5 s6 s7 s8
  unfold ptr at *
  go_enter Tryz.func38, Tryz.ntmps38
  go_wp2_with fail
  refine (C1.out _ L0.out.1).mono ?_
  rintro e w1 ⟨rfl, o1, b1⟩
  have L1 : Hid (OutAt w1 b (Px.sgn o [99, 97, 108, 108]) ∧ Below b w w1) := ⟨o1, L0.out.2.trans b1⟩
  obtain ⟨d1_0, d1_1, d1_2, d1_3, d1_4, d1_5, d1_6, d1_7, d1_8, d1_9, d1_10, d1_f⟩ := cells11 (CQ.out w1 L1.out.2)
  clear d0_0 d0_1 d0_2 d0_3 d0_4 d0_5 d0_6 d0_7 d0_8 d0_9 d0_10 d0_f o1 b1
  go_wp2_with fail
  refine (C2.out _ L1.out.1).mono ?_
  rintro e w2 ⟨rfl, o2, b2⟩
  have L2 : Hid (OutAt w2 b (Px.sgn (Px.sgn o [99, 97, 108, 108]) x.word.data.toList) ∧ Below b w w2) := ⟨o2, L1.out.2.trans b2⟩
  obtain ⟨d2_0, d2_1, d2_2, d2_3, d2_4, d2_5, d2_6, d2_7, d2_8, d2_9, d2_10, d2_f⟩ := cells11 (CQ.out w2 L2.out.2)
  clear d1_0 d1_1 d1_2 d1_3 d1_4 d1_5 d1_6 d1_7 d1_8 d1_9 d1_10 d1_f o2 b2
  go_wp2_with fail
  refine (C3.out _ L2.out.1).mono ?_
  rintro e w3 ⟨rfl, o3, b3⟩
  have L3 : Hid (OutAt w3 b (Px.sgn (Px.sgn (Px.sgn o [99, 97, 108, 108]) x.word.data.toList) [40]) ∧ Below b w w3) := ⟨o3, L2.out.2.trans b3⟩
  obtain ⟨d3_0, d3_1, d3_2, d3_3, d3_4, d3_5, d3_6, d3_7, d3_8, d3_9, d3_10, d3_f⟩ := cells11 (CQ.out w3 L3.out.2)
  clear d2_0 d2_1 d2_2 d2_3 d2_4 d2_5 d2_6 d2_7 d2_8 d2_9 d2_10 d2_f o3 b3
  go_wp2_with fail
  refine (C4.out _ L3.out.2 L3.out.1).mono ?_
  rintro e w4 ⟨rfl, o4, b4⟩
  have L4 : Hid (OutAt w4 b (Px.wrE ex (Px.sgn (Px.sgn (Px.sgn o [99, 97, 108, 108]) x.word.data.toList) [40])) ∧ Below b w w4) := ⟨o4, L3.out.2.trans b4⟩
  obtain ⟨d4_0, d4_1, d4_2, d4_3, d4_4, d4_5, d4_6, d4_7, d4_8, d4_9, d4_10, d4_f⟩ := cells11 (CQ.out w4 L4.out.2)
  clear d3_0 d3_1 d3_2 d3_3 d3_4 d3_5 d3_6 d3_7 d3_8 d3_9 d3_10 d3_f o4 b4
  go_wp2_with fail
  refine (C5.out _ L4.out.1).mono ?_
  rintro e w5 ⟨rfl, o5, b5⟩
  have L5 : Hid (OutAt w5 b (Px.sgn (Px.wrE ex (Px.sgn (Px.sgn (Px.sgn o [99, 97, 108, 108]) x.word.data.toList) [40])) [41]) ∧ Below b w w5) := ⟨o5, L4.out.2.trans b5⟩
  obtain ⟨d5_0, d5_1, d5_2, d5_3, d5_4, d5_5, d5_6, d5_7, d5_8, d5_9, d5_10, d5_f⟩ := cells11 (CQ.out w5 L5.out.2)
  clear d4_0 d4_1 d4_2 d4_3 d4_4 d4_5 d4_6 d4_7 d4_8 d4_9 d4_10 d4_f o5 b5
  go_wp2_with fail
  refine (C6.out _ L5.out.1).mono ?_
  rintro e w6 ⟨rfl, o6, b6⟩
  have L6 : Hid (OutAt w6 b (Px.sgn (Px.sgn (Px.wrE ex (Px.sgn (Px.sgn (Px.sgn o [99, 97, 108, 108]) x.word.data.toList) [40])) [41]) [97, 115]) ∧ Below b w w6) := ⟨o6, L5.out.2.trans b6⟩
  obtain ⟨d6_0, d6_1, d6_2, d6_3, d6_4, d6_5, d6_6, d6_7, d6_8, d6_9, d6_10, d6_f⟩ := cells11 (CQ.out w6 L6.out.2)
  clear d5_0 d5_1 d5_2 d5_3 d5_4 d5_5 d5_6 d5_7 d5_8 d5_9 d5_10 d5_f o6 b6
  go_wp2_with fail
  refine (C7.out _ L6.out.1).mono ?_
  rintro e w7 ⟨rfl, o7, b7⟩
  have L7 : Hid (OutAt w7 b (Px.sgn (Px.sgn (Px.sgn (Px.wrE ex (Px.sgn (Px.sgn (Px.sgn o [99, 97, 108, 108]) x.word.data.toList) [40])) [41]) [97, 115]) x.asw.data.toList) ∧ Below b w w7) := ⟨o7, L6.out.2.trans b7⟩
  obtain ⟨d7_0, d7_1, d7_2, d7_3, d7_4, d7_5, d7_6, d7_7, d7_8, d7_9, d7_10, d7_f⟩ := cells11 (CQ.out w7 L7.out.2)
  clear d6_0 d6_1 d6_2 d6_3 d6_4 d6_5 d6_6 d6_7 d6_8 d6_9 d6_10 d6_f o7 b7
  go_wp2_with fail
  refine (C8.out _ L7.out.1).mono ?_
  rintro e w8 ⟨rfl, o8, b8⟩
  have L8 : Hid (OutAt w8 b (Px.sgn (Px.sgn (Px.sgn (Px.sgn (Px.wrE ex (Px.sgn (Px.sgn (Px.sgn o [99, 97, 108, 108]) x.word.data.toList) [40])) [41]) [97, 115]) x.asw.data.toList) [59]) ∧ Below b w w8) := ⟨o8, L7.out.2.trans b8⟩
  obtain ⟨d8_0, d8_1, d8_2, d8_3, d8_4, d8_5, d8_6, d8_7, d8_8, d8_9, d8_10, d8_f⟩ := cells11 (CQ.out w8 L8.out.2)
  clear d7_0 d7_1 d7_2 d7_3 d7_4 d7_5 d7_6 d7_7 d7_8 d7_9 d7_10 d7_f o8 b8
  go_wp2_with fail
  go_end0
  rw [EQ.out]
  exact ⟨rfl, L8.out.1, L8.out.2⟩

set_option maxRecDepth 100000 in
set_option maxHeartbeats 8000000 in
theorem outC_1101 (b : Nat) (x : Px.Sm) (hop : x.op = 99) (hE : x.ex ≠ none) (ha : 0 < x.asw.size) (hu : x.undo.size = 0) (hT : x.n ≠ 1) : OutC b x := by
  intro w o ok q hx hok h hw hg hl
  obtain ⟨hq, ve, v1, v2, q1, q2, hv, e3, e4, e5, e6, e7⟩ := hx
  have hqb := hok q hq
  unfold Px.szX at hl
  obtain ⟨ex, hex⟩ : ∃ ex, x.ex = some ex := Option.ne_none_iff_exists'.1 hE
  have hwe := hw.1 ex hex
  have hge := hg.2.2.1 ex hex
  rw [hex] at e3 hl
  obtain ⟨qe, rfl, hxe⟩ := e3
  simp only [Px.szO] at hl
  obtain ⟨d0_0, d0_1, d0_2, d0_3, d0_4, d0_5, d0_6, d0_7, d0_8, d0_9, d0_10, d0_f⟩ := cells11 hv
  have CQ : Hid (∀ W, Below b w W → W.heap[q]? = some (.cells (smCells x (ptr qe) v1 v2) 106)) := fun W hW => by rw [hW.block q hqb]; exact hv
  have hwl : x.word.data.toList.length = x.word.size := rfl
  have ha' : x.asw.toList.isEmpty = false := empty_not ha
  have hu' : x.undo.toList.isEmpty = true := empty_size hu
  have hT' : ((x.n : Int) == 1) = false := by rw [beq_eq_false_iff_ne]; omega
  have hal : x.asw.data.toList.length = x.asw.size := rfl
  have hul : x.undo.data.toList.length = x.undo.size := rfl
  have s1 := Px.sgn_len o [99, 97, 108, 108]
  have s2 := Px.sgn_len (Px.sgn o [99, 97, 108, 108]) x.word.data.toList
  have s3 := Px.sgn_len (Px.sgn (Px.sgn o [99, 97, 108, 108]) x.word.data.toList) [40]
  have s4 := Px.wrE_len ex (Px.sgn (Px.sgn (Px.sgn o [99, 97, 108, 108]) x.word.data.toList) [40])
  have s5 := Px.sgn_len (Px.wrE ex (Px.sgn (Px.sgn (Px.sgn o [99, 97, 108, 108]) x.word.data.toList) [40])) [41]
  have s6 := Px.sgn_len (Px.sgn (Px.wrE ex (Px.sgn (Px.sgn (Px.sgn o [99, 97, 108, 108]) x.word.data.toList) [40])) [41]) [97, 115]
  have s7 := Px.sgn_len (Px.sgn (Px.sgn (Px.wrE ex (Px.sgn (Px.sgn (Px.sgn o [99, 97, 108, 108]) x.word.data.toList) [40])) [41]) [97, 115]) x.asw.data.toList
  have s8 := Px.sgn_len (Px.sgn (Px.sgn (Px.sgn (Px.wrE ex (Px.sgn (Px.sgn (Px.sgn o [99, 97, 108, 108]) x.word.data.toList) [40])) [41]) [97, 115]) x.asw.data.toList) [116, 114, 105, 101, 115]
  have s9 := Px.sgn_len (Px.sgn (Px.sgn (Px.sgn (Px.sgn (Px.wrE ex (Px.sgn (Px.sgn (Px.sgn o [99, 97, 108, 108]) x.word.data.toList) [40])) [41]) [97, 115]) x.asw.data.toList) [116, 114, 105, 101, 115]) (Px.dec x.n)
  have s10 := Px.dec_len x.n
  have s11 := dec_pos x.n
  have s12 := Px.sgn_len (Px.sgn (Px.sgn (Px.sgn (Px.sgn (Px.sgn (Px.wrE ex (Px.sgn (Px.sgn (Px.sgn o [99, 97, 108, 108]) x.word.data.toList) [40])) [41]) [97, 115]) x.asw.data.toList) [116, 114, 105, 101, 115]) (Px.dec x.n)) [59]
  simp only [List.length_cons, List.length_nil] at *
  have C1 : Hid (∀ W, OutAt W b o → Calls Tryz.prog 36 #[.pointer (some ⟨b, 0, none⟩), .string ⟨#[99, 97, 108, 108]⟩] W (OPost b W (Px.sgn o [99, 97, 108, 108]))) := fun W hO => outSign b _ ⟨#[99, 97, 108, 108]⟩ W hO (by decide) (by show _ + 4 ≤ _; omega)
  have C2 : Hid (∀ W, OutAt W b (Px.sgn o [99, 97, 108, 108]) → Calls Tryz.prog 36 #[.pointer (some ⟨b, 0, none⟩), .string x.word] W (OPost b W (Px.sgn (Px.sgn o [99, 97, 108, 108]) x.word.data.toList))) := fun W hO => outSign b _ x.word W hO (hg.1 (Or.inr hop)) (by show _ + x.word.size ≤ _; omega)
  have C3 : Hid (∀ W, OutAt W b (Px.sgn (Px.sgn o [99, 97, 108, 108]) x.word.data.toList) → Calls Tryz.prog 36 #[.pointer (some ⟨b, 0, none⟩), .string ⟨#[40]⟩] W (OPost b W (Px.sgn (Px.sgn (Px.sgn o [99, 97, 108, 108]) x.word.data.toList) [40]))) := fun W hO => outSign b _ ⟨#[40]⟩ W hO (by decide) (by show _ + 1 ≤ _; omega)
  have C4 : Hid (∀ W, Below b w W → OutAt W b (Px.sgn (Px.sgn (Px.sgn o [99, 97, 108, 108]) x.word.data.toList) [40]) → Calls Tryz.prog 37 #[.pointer (some ⟨b, 0, none⟩), .pointer (some ⟨qe, 0, none⟩), .int .i64 0] W (OPost b W (Px.wrE ex (Px.sgn (Px.sgn (Px.sgn o [99, 97, 108, 108]) x.word.data.toList) [40])))) := fun W hW hO => outE0 b ex hwe W _ ok qe (hxe.keep fun i hi => hW.block i (hok i hi)) hok hO hge (by omega)
  have C5 : Hid (∀ W, OutAt W b (Px.wrE ex (Px.sgn (Px.sgn (Px.sgn o [99, 97, 108, 108]) x.word.data.toList) [40])) → Calls Tryz.prog 36 #[.pointer (some ⟨b, 0, none⟩), .string ⟨#[41]⟩] W (OPost b W (Px.sgn (Px.wrE ex (Px.sgn (Px.sgn (Px.sgn o [99, 97, 108, 108]) x.word.data.toList) [40])) [41]))) := fun W hO => outSign b _ ⟨#[41]⟩ W hO (by decide) (by show _ + 1 ≤ _; omega)
  have C6 : Hid (∀ W, OutAt W b (Px.sgn (Px.wrE ex (Px.sgn (Px.sgn (Px.sgn o [99, 97, 108, 108]) x.word.data.toList) [40])) [41]) → Calls Tryz.prog 36 #[.pointer (some ⟨b, 0, none⟩), .string ⟨#[97, 115]⟩] W (OPost b W (Px.sgn (Px.sgn (Px.wrE ex (Px.sgn (Px.sgn (Px.sgn o [99, 97, 108, 108]) x.word.data.toList) [40])) [41]) [97, 115]))) := fun W hO => outSign b _ ⟨#[97, 115]⟩ W hO (by decide) (by show _ + 2 ≤ _; omega)
  have C7 : Hid (∀ W, OutAt W b (Px.sgn (Px.sgn (Px.wrE ex (Px.sgn (Px.sgn (Px.sgn o [99, 97, 108, 108]) x.word.data.toList) [40])) [41]) [97, 115]) → Calls Tryz.prog 36 #[.pointer (some ⟨b, 0, none⟩), .string x.asw] W (OPost b W (Px.sgn (Px.sgn (Px.sgn (Px.wrE ex (Px.sgn (Px.sgn (Px.sgn o [99, 97, 108, 108]) x.word.data.toList) [40])) [41]) [97, 115]) x.asw.data.toList))) := fun W hO => outSign b _ x.asw W hO ha (by show _ + x.asw.size ≤ _; omega)
  have C8 : Hid (∀ W, OutAt W b (Px.sgn (Px.sgn (Px.sgn (Px.wrE ex (Px.sgn (Px.sgn (Px.sgn o [99, 97, 108, 108]) x.word.data.toList) [40])) [41]) [97, 115]) x.asw.data.toList) → Calls Tryz.prog 36 #[.pointer (some ⟨b, 0, none⟩), .string ⟨#[116, 114, 105, 101, 115]⟩] W (OPost b W (Px.sgn (Px.sgn (Px.sgn (Px.sgn (Px.wrE ex (Px.sgn (Px.sgn (Px.sgn o [99, 97, 108, 108]) x.word.data.toList) [40])) [41]) [97, 115]) x.asw.data.toList) [116, 114, 105, 101, 115]))) := fun W hO => outSign b _ ⟨#[116, 114, 105, 101, 115]⟩ W hO (by decide) (by show _ + 5 ≤ _; omega)
  have C9 : Hid (∀ W, Calls Tryz.prog 40 #[.int .i64 (x.n : Int)] W (DecPost x.n W)) := dec_any x.n hg.2.1
  have C10 : Hid (∀ W (S : ByteArray), S.data.toList = Px.dec x.n → OutAt W b (Px.sgn (Px.sgn (Px.sgn (Px.sgn (Px.wrE ex (Px.sgn (Px.sgn (Px.sgn o [99, 97, 108, 108]) x.word.data.toList) [40])) [41]) [97, 115]) x.asw.data.toList) [116, 114, 105, 101, 115]) → Calls Tryz.prog 36 #[.pointer (some ⟨b, 0, none⟩), .string S] W (OPost b W (Px.sgn (Px.sgn (Px.sgn (Px.sgn (Px.sgn (Px.wrE ex (Px.sgn (Px.sgn (Px.sgn o [99, 97, 108, 108]) x.word.data.toList) [40])) [41]) [97, 115]) x.asw.data.toList) [116, 114, 105, 101, 115]) (Px.dec x.n)))) := fun W S hS hO => by
    have hz : S.size = (Px.dec x.n).length := by rw [← hS]; rfl
    rw [← hS]
    exact outSign b _ S W hO (by omega) (by omega)
  have C11 : Hid (∀ W, OutAt W b (Px.sgn (Px.sgn (Px.sgn (Px.sgn (Px.sgn (Px.wrE ex (Px.sgn (Px.sgn (Px.sgn o [99, 97, 108, 108]) x.word.data.toList) [40])) [41]) [97, 115]) x.asw.data.toList) [116, 114, 105, 101, 115]) (Px.dec x.n)) → Calls Tryz.prog 36 #[.pointer (some ⟨b, 0, none⟩), .string ⟨#[59]⟩] W (OPost b W (Px.sgn (Px.sgn (Px.sgn (Px.sgn (Px.sgn (Px.sgn (Px.wrE ex (Px.sgn (Px.sgn (Px.sgn o [99, 97, 108, 108]) x.word.data.toList) [40])) [41]) [97, 115]) x.asw.data.toList) [116, 114, 105, 101, 115]) (Px.dec x.n)) [59]))) := fun W hO => outSign b _ ⟨#[59]⟩ W hO (by decide) (by show _ + 1 ≤ _; omega)
  have L0 : Hid (OutAt w b o ∧ Below b w w) := ⟨h, Below.refl _ _⟩
  have EQ : Hid (Px.wrX x o = Px.sgn (Px.sgn (Px.sgn (Px.sgn (Px.sgn (Px.sgn (Px.wrE ex (Px.sgn (Px.sgn (Px.sgn o [99, 97, 108, 108]) x.word.data.toList) [40])) [41]) [97, 115]) x.asw.data.toList) [116, 114, 105, 101, 115]) (Px.dec x.n)) [59]) := by unfold Hid; rw [Px.wrX_eq, if_neg (by omega), if_pos hop, Px.wrTries, if_neg hT, Px.wrUndo, if_pos hu, Px.wrAs, if_neg (by omega), hex]; rfl
  clear h hok hg hw hl hv e4 e5 e6 e7 hxe hge hwe s1 s2 s3 s4 s5 s6 s7 s8 s9 s10 s11 s12
  unfold ptr at *
  go_enter Tryz.func38, Tryz.ntmps38
  go_wp2_with fail
  refine (C1.out _ L0.out.1).mono ?_
  rintro e w1 ⟨rfl, o1, b1⟩
  have L1 : Hid (OutAt w1 b (Px.sgn o [99, 97, 108, 108]) ∧ Below b w w1) := ⟨o1, L0.out.2.trans b1⟩
  obtain ⟨d1_0, d1_1, d1_2, d1_3, d1_4, d1_5, d1_6, d1_7, d1_8, d1_9, d1_10, d1_f⟩ := cells11 (CQ.out w1 L1.out.2)
  clear d0_0 d0_1 d0_2 d0_3 d0_4 d0_5 d0_6 d0_7 d0_8 d0_9 d0_10 d0_f o1 b1
  go_wp2_with fail
  refine (C2.out _ L1.out.1).mono ?_
  rintro e w2 ⟨rfl, o2, b2⟩
  have L2 : Hid (OutAt w2 b (Px.sgn (Px.sgn o [99, 97, 108, 108]) x.word.data.toList) ∧ Below b w w2) := ⟨o2, L1.out.2.trans b2⟩
  obtain ⟨d2_0, d2_1, d2_2, d2_3, d2_4, d2_5, d2_6, d2_7, d2_8, d2_9, d2_10, d2_f⟩ := cells11 (CQ.out w2 L2.out.2)
  clear d1_0 d1_1 d1_2 d1_3 d1_4 d1_5 d1_6 d1_7 d1_8 d1_9 d1_10 d1_f o2 b2
  go_wp2_with fail
  refine (C3.out _ L2.out.1).mono ?_
  rintro e w3 ⟨rfl, o3, b3⟩
  have L3 : Hid (OutAt w3 b (Px.sgn (Px.sgn (Px.sgn o [99, 97, 108, 108]) x.word.data.toList) [40]) ∧ Below b w w3) := ⟨o3, L2.out.2.trans b3⟩
  obtain ⟨d3_0, d3_1, d3_2, d3_3, d3_4, d3_5, d3_6, d3_7, d3_8, d3_9, d3_10, d3_f⟩ := cells11 (CQ.out w3 L3.out.2)
  clear d2_0 d2_1 d2_2 d2_3 d2_4 d2_5 d2_6 d2_7 d2_8 d2_9 d2_10 d2_f o3 b3
  go_wp2_with fail
  refine (C4.out _ L3.out.2 L3.out.1).mono ?_
  rintro e w4 ⟨rfl, o4, b4⟩
  have L4 : Hid (OutAt w4 b (Px.wrE ex (Px.sgn (Px.sgn (Px.sgn o [99, 97, 108, 108]) x.word.data.toList) [40])) ∧ Below b w w4) := ⟨o4, L3.out.2.trans b4⟩
  obtain ⟨d4_0, d4_1, d4_2, d4_3, d4_4, d4_5, d4_6, d4_7, d4_8, d4_9, d4_10, d4_f⟩ := cells11 (CQ.out w4 L4.out.2)
  clear d3_0 d3_1 d3_2 d3_3 d3_4 d3_5 d3_6 d3_7 d3_8 d3_9 d3_10 d3_f o4 b4
  go_wp2_with fail
  refine (C5.out _ L4.out.1).mono ?_
  rintro e w5 ⟨rfl, o5, b5⟩
  have L5 : Hid (OutAt w5 b (Px.sgn (Px.wrE ex (Px.sgn (Px.sgn (Px.sgn o [99, 97, 108, 108]) x.word.data.toList) [40])) [41]) ∧ Below b w w5) := ⟨o5, L4.out.2.trans b5⟩
  obtain ⟨d5_0, d5_1, d5_2, d5_3, d5_4, d5_5, d5_6, d5_7, d5_8, d5_9, d5_10, d5_f⟩ := cells11 (CQ.out w5 L5.out.2)
  clear d4_0 d4_1 d4_2 d4_3 d4_4 d4_5 d4_6 d4_7 d4_8 d4_9 d4_10 d4_f o5 b5
  go_wp2_with fail
  refine (C6.out _ L5.out.1).mono ?_
  rintro e w6 ⟨rfl, o6, b6⟩
  have L6 : Hid (OutAt w6 b (Px.sgn (Px.sgn (Px.wrE ex (Px.sgn (Px.sgn (Px.sgn o [99, 97, 108, 108]) x.word.data.toList) [40])) [41]) [97, 115]) ∧ Below b w w6) := ⟨o6, L5.out.2.trans b6⟩
  obtain ⟨d6_0, d6_1, d6_2, d6_3, d6_4, d6_5, d6_6, d6_7, d6_8, d6_9, d6_10, d6_f⟩ := cells11 (CQ.out w6 L6.out.2)
  clear d5_0 d5_1 d5_2 d5_3 d5_4 d5_5 d5_6 d5_7 d5_8 d5_9 d5_10 d5_f o6 b6
  go_wp2_with fail
  refine (C7.out _ L6.out.1).mono ?_
  rintro e w7 ⟨rfl, o7, b7⟩
  have L7 : Hid (OutAt w7 b (Px.sgn (Px.sgn (Px.sgn (Px.wrE ex (Px.sgn (Px.sgn (Px.sgn o [99, 97, 108, 108]) x.word.data.toList) [40])) [41]) [97, 115]) x.asw.data.toList) ∧ Below b w w7) := ⟨o7, L6.out.2.trans b7⟩
  obtain ⟨d7_0, d7_1, d7_2, d7_3, d7_4, d7_5, d7_6, d7_7, d7_8, d7_9, d7_10, d7_f⟩ := cells11 (CQ.out w7 L7.out.2)
  clear d6_0 d6_1 d6_2 d6_3 d6_4 d6_5 d6_6 d6_7 d6_8 d6_9 d6_10 d6_f o7 b7
  go_wp2_with fail
  refine (C8.out _ L7.out.1).mono ?_
  rintro e w8 ⟨rfl, o8, b8⟩
  have L8 : Hid (OutAt w8 b (Px.sgn (Px.sgn (Px.sgn (Px.sgn (Px.wrE ex (Px.sgn (Px.sgn (Px.sgn o [99, 97, 108, 108]) x.word.data.toList) [40])) [41]) [97, 115]) x.asw.data.toList) [116, 114, 105, 101, 115]) ∧ Below b w w8) := ⟨o8, L7.out.2.trans b8⟩
  obtain ⟨d8_0, d8_1, d8_2, d8_3, d8_4, d8_5, d8_6, d8_7, d8_8, d8_9, d8_10, d8_f⟩ := cells11 (CQ.out w8 L8.out.2)
  clear d7_0 d7_1 d7_2 d7_3 d7_4 d7_5 d7_6 d7_7 d7_8 d7_9 d7_10 d7_f o8 b8
  go_wp2_with fail
  refine (C9.out _).mono ?_
  rintro e w10 ⟨S10, rfl, hS10, b10⟩
  have L10 : Hid (OutAt w10 b (Px.sgn (Px.sgn (Px.sgn (Px.sgn (Px.wrE ex (Px.sgn (Px.sgn (Px.sgn o [99, 97, 108, 108]) x.word.data.toList) [40])) [41]) [97, 115]) x.asw.data.toList) [116, 114, 105, 101, 115]) ∧ Below b w w10) := ⟨L8.out.1.old b10, L8.out.2.trans (b10.mono (Nat.le_of_lt L8.out.1.lt))⟩
  have T10 : Hid (S10.data.toList = Px.dec x.n) := hS10
  obtain ⟨d10_0, d10_1, d10_2, d10_3, d10_4, d10_5, d10_6, d10_7, d10_8, d10_9, d10_10, d10_f⟩ := cells11 (CQ.out w10 L10.out.2)
  clear d8_0 d8_1 d8_2 d8_3 d8_4 d8_5 d8_6 d8_7 d8_8 d8_9 d8_10 d8_f hS10 b10
  go_wp2_with fail
  refine (C10.out _ S10 T10.out L10.out.1).mono ?_
  rintro e w9 ⟨rfl, o9, b9⟩
  have L9 : Hid (OutAt w9 b (Px.sgn (Px.sgn (Px.sgn (Px.sgn (Px.sgn (Px.wrE ex (Px.sgn (Px.sgn (Px.sgn o [99, 97, 108, 108]) x.word.data.toList) [40])) [41]) [97, 115]) x.asw.data.toList) [116, 114, 105, 101, 115]) (Px.dec x.n)) ∧ Below b w w9) := ⟨o9, L10.out.2.trans b9⟩
  obtain ⟨d9_0, d9_1, d9_2, d9_3, d9_4, d9_5, d9_6, d9_7, d9_8, d9_9, d9_10, d9_f⟩ := cells11 (CQ.out w9 L9.out.2)
  clear d10_0 d10_1 d10_2 d10_3 d10_4 d10_5 d10_6 d10_7 d10_8 d10_9 d10_10 d10_f o9 b9
  go_wp2_with fail
  refine (C11.out _ L9.out.1).mono ?_
  rintro e w11 ⟨rfl, o11, b11⟩
  have L11 : Hid (OutAt w11 b (Px.sgn (Px.sgn (Px.sgn (Px.sgn (Px.sgn (Px.sgn (Px.wrE ex (Px.sgn (Px.sgn (Px.sgn o [99, 97, 108, 108]) x.word.data.toList) [40])) [41]) [97, 115]) x.asw.data.toList) [116, 114, 105, 101, 115]) (Px.dec x.n)) [59]) ∧ Below b w w11) := ⟨o11, L9.out.2.trans b11⟩
  obtain ⟨d11_0, d11_1, d11_2, d11_3, d11_4, d11_5, d11_6, d11_7, d11_8, d11_9, d11_10, d11_f⟩ := cells11 (CQ.out w11 L11.out.2)
  clear d9_0 d9_1 d9_2 d9_3 d9_4 d9_5 d9_6 d9_7 d9_8 d9_9 d9_10 d9_f o11 b11
  go_wp2_with fail
  go_end0
  rw [EQ.out]
  exact ⟨rfl, L11.out.1, L11.out.2⟩

set_option maxRecDepth 100000 in
set_option maxHeartbeats 8000000 in
theorem outC_1110 (b : Nat) (x : Px.Sm) (hop : x.op = 99) (hE : x.ex ≠ none) (ha : 0 < x.asw.size) (hu : 0 < x.undo.size) (hT : x.n = 1) : OutC b x := by
  intro w o ok q hx hok h hw hg hl
  obtain ⟨hq, ve, v1, v2, q1, q2, hv, e3, e4, e5, e6, e7⟩ := hx
  have hqb := hok q hq
  unfold Px.szX at hl
  obtain ⟨ex, hex⟩ : ∃ ex, x.ex = some ex := Option.ne_none_iff_exists'.1 hE
  have hwe := hw.1 ex hex
  have hge := hg.2.2.1 ex hex
  rw [hex] at e3 hl
  obtain ⟨qe, rfl, hxe⟩ := e3
  simp only [Px.szO] at hl
  obtain ⟨d0_0, d0_1, d0_2, d0_3, d0_4, d0_5, d0_6, d0_7, d0_8, d0_9, d0_10, d0_f⟩ := cells11 hv
  have CQ : Hid (∀ W, Below b w W → W.heap[q]? = some (.cells (smCells x (ptr qe) v1 v2) 106)) := fun W hW => by rw [hW.block q hqb]; exact hv
  have hwl : x.word.data.toList.length = x.word.size := rfl
  have ha' : x.asw.toList.isEmpty = false := empty_not ha
  have hu' : x.undo.toList.isEmpty = false := empty_not hu
  have hT' : ((x.n : Int) == 1) = true := by rw [hT]; rfl
  have hal : x.asw.data.toList.length = x.asw.size := rfl
  have hul : x.undo.data.toList.length = x.undo.size := rfl
  have s1 := Px.sgn_len o [99, 97, 108, 108]
  have s2 := Px.sgn_len (Px.sgn o [99, 97, 108, 108]) x.word.data.toList
  have s3 := Px.sgn_len (Px.sgn (Px.sgn o [99, 97, 108, 108]) x.word.data.toList) [40]
  have s4 := Px.wrE_len ex (Px.sgn (Px.sgn (Px.sgn o [99, 97, 108, 108]) x.word.data.toList) [40])
  have s5 := Px.sgn_len (Px.wrE ex (Px.sgn (Px.sgn (Px.sgn o [99, 97, 108, 108]) x.word.data.toList) [40])) [41]
  have s6 := Px.sgn_len (Px.sgn (Px.wrE ex (Px.sgn (Px.sgn (Px.sgn o [99, 97, 108, 108]) x.word.data.toList) [40])) [41]) [97, 115]
  have s7 := Px.sgn_len (Px.sgn (Px.sgn (Px.wrE ex (Px.sgn (Px.sgn (Px.sgn o [99, 97, 108, 108]) x.word.data.toList) [40])) [41]) [97, 115]) x.asw.data.toList
  have s8 := Px.sgn_len (Px.sgn (Px.sgn (Px.sgn (Px.wrE ex (Px.sgn (Px.sgn (Px.sgn o [99, 97, 108, 108]) x.word.data.toList) [40])) [41]) [97, 115]) x.asw.data.toList) [117, 110, 100, 111]
  have s9 := Px.sgn_len (Px.sgn (Px.sgn (Px.sgn (Px.sgn (Px.wrE ex (Px.sgn (Px.sgn (Px.sgn o [99, 97, 108, 108]) x.word.data.toList) [40])) [41]) [97, 115]) x.asw.data.toList) [117, 110, 100, 111]) x.undo.data.toList
  have s10 := Px.sgn_len (Px.sgn (Px.sgn (Px.sgn (Px.sgn (Px.sgn (Px.wrE ex (Px.sgn (Px.sgn (Px.sgn o [99, 97, 108, 108]) x.word.data.toList) [40])) [41]) [97, 115]) x.asw.data.toList) [117, 110, 100, 111]) x.undo.data.toList) [59]
  simp only [List.length_cons, List.length_nil] at *
  have C1 : Hid (∀ W, OutAt W b o → Calls Tryz.prog 36 #[.pointer (some ⟨b, 0, none⟩), .string ⟨#[99, 97, 108, 108]⟩] W (OPost b W (Px.sgn o [99, 97, 108, 108]))) := fun W hO => outSign b _ ⟨#[99, 97, 108, 108]⟩ W hO (by decide) (by show _ + 4 ≤ _; omega)
  have C2 : Hid (∀ W, OutAt W b (Px.sgn o [99, 97, 108, 108]) → Calls Tryz.prog 36 #[.pointer (some ⟨b, 0, none⟩), .string x.word] W (OPost b W (Px.sgn (Px.sgn o [99, 97, 108, 108]) x.word.data.toList))) := fun W hO => outSign b _ x.word W hO (hg.1 (Or.inr hop)) (by show _ + x.word.size ≤ _; omega)
  have C3 : Hid (∀ W, OutAt W b (Px.sgn (Px.sgn o [99, 97, 108, 108]) x.word.data.toList) → Calls Tryz.prog 36 #[.pointer (some ⟨b, 0, none⟩), .string ⟨#[40]⟩] W (OPost b W (Px.sgn (Px.sgn (Px.sgn o [99, 97, 108, 108]) x.word.data.toList) [40]))) := fun W hO => outSign b _ ⟨#[40]⟩ W hO (by decide) (by show _ + 1 ≤ _; omega)
  have C4 : Hid (∀ W, Below b w W → OutAt W b (Px.sgn (Px.sgn (Px.sgn o [99, 97, 108, 108]) x.word.data.toList) [40]) → Calls Tryz.prog 37 #[.pointer (some ⟨b, 0, none⟩), .pointer (some ⟨qe, 0, none⟩), .int .i64 0] W (OPost b W (Px.wrE ex (Px.sgn (Px.sgn (Px.sgn o [99, 97, 108, 108]) x.word.data.toList) [40])))) := fun W hW hO => outE0 b ex hwe W _ ok qe (hxe.keep fun i hi => hW.block i (hok i hi)) hok hO hge (by omega)
  have C5 : Hid (∀ W, OutAt W b (Px.wrE ex (Px.sgn (Px.sgn (Px.sgn o [99, 97, 108, 108]) x.word.data.toList) [40])) → Calls Tryz.prog 36 #[.pointer (some ⟨b, 0, none⟩), .string ⟨#[41]⟩] W (OPost b W (Px.sgn (Px.wrE ex (Px.sgn (Px.sgn (Px.sgn o [99, 97, 108, 108]) x.word.data.toList) [40])) [41]))) := fun W hO => outSign b _ ⟨#[41]⟩ W hO (by decide) (by show _ + 1 ≤ _; omega)
  have C6 : Hid (∀ W, OutAt W b (Px.sgn (Px.wrE ex (Px.sgn (Px.sgn (Px.sgn o [99, 97, 108, 108]) x.word.data.toList) [40])) [41]) → Calls Tryz.prog 36 #[.pointer (some ⟨b, 0, none⟩), .string ⟨#[97, 115]⟩] W (OPost b W (Px.sgn (Px.sgn (Px.wrE ex (Px.sgn (Px.sgn (Px.sgn o [99, 97, 108, 108]) x.word.data.toList) [40])) [41]) [97, 115]))) := fun W hO => outSign b _ ⟨#[97, 115]⟩ W hO (by decide) (by show _ + 2 ≤ _; omega)
  have C7 : Hid (∀ W, OutAt W b (Px.sgn (Px.sgn (Px.wrE ex (Px.sgn (Px.sgn (Px.sgn o [99, 97, 108, 108]) x.word.data.toList) [40])) [41]) [97, 115]) → Calls Tryz.prog 36 #[.pointer (some ⟨b, 0, none⟩), .string x.asw] W (OPost b W (Px.sgn (Px.sgn (Px.sgn (Px.wrE ex (Px.sgn (Px.sgn (Px.sgn o [99, 97, 108, 108]) x.word.data.toList) [40])) [41]) [97, 115]) x.asw.data.toList))) := fun W hO => outSign b _ x.asw W hO ha (by show _ + x.asw.size ≤ _; omega)
  have C8 : Hid (∀ W, OutAt W b (Px.sgn (Px.sgn (Px.sgn (Px.wrE ex (Px.sgn (Px.sgn (Px.sgn o [99, 97, 108, 108]) x.word.data.toList) [40])) [41]) [97, 115]) x.asw.data.toList) → Calls Tryz.prog 36 #[.pointer (some ⟨b, 0, none⟩), .string ⟨#[117, 110, 100, 111]⟩] W (OPost b W (Px.sgn (Px.sgn (Px.sgn (Px.sgn (Px.wrE ex (Px.sgn (Px.sgn (Px.sgn o [99, 97, 108, 108]) x.word.data.toList) [40])) [41]) [97, 115]) x.asw.data.toList) [117, 110, 100, 111]))) := fun W hO => outSign b _ ⟨#[117, 110, 100, 111]⟩ W hO (by decide) (by show _ + 4 ≤ _; omega)
  have C9 : Hid (∀ W, OutAt W b (Px.sgn (Px.sgn (Px.sgn (Px.sgn (Px.wrE ex (Px.sgn (Px.sgn (Px.sgn o [99, 97, 108, 108]) x.word.data.toList) [40])) [41]) [97, 115]) x.asw.data.toList) [117, 110, 100, 111]) → Calls Tryz.prog 36 #[.pointer (some ⟨b, 0, none⟩), .string x.undo] W (OPost b W (Px.sgn (Px.sgn (Px.sgn (Px.sgn (Px.sgn (Px.wrE ex (Px.sgn (Px.sgn (Px.sgn o [99, 97, 108, 108]) x.word.data.toList) [40])) [41]) [97, 115]) x.asw.data.toList) [117, 110, 100, 111]) x.undo.data.toList))) := fun W hO => outSign b _ x.undo W hO hu (by show _ + x.undo.size ≤ _; omega)
  have C10 : Hid (∀ W, OutAt W b (Px.sgn (Px.sgn (Px.sgn (Px.sgn (Px.sgn (Px.wrE ex (Px.sgn (Px.sgn (Px.sgn o [99, 97, 108, 108]) x.word.data.toList) [40])) [41]) [97, 115]) x.asw.data.toList) [117, 110, 100, 111]) x.undo.data.toList) → Calls Tryz.prog 36 #[.pointer (some ⟨b, 0, none⟩), .string ⟨#[59]⟩] W (OPost b W (Px.sgn (Px.sgn (Px.sgn (Px.sgn (Px.sgn (Px.sgn (Px.wrE ex (Px.sgn (Px.sgn (Px.sgn o [99, 97, 108, 108]) x.word.data.toList) [40])) [41]) [97, 115]) x.asw.data.toList) [117, 110, 100, 111]) x.undo.data.toList) [59]))) := fun W hO => outSign b _ ⟨#[59]⟩ W hO (by decide) (by show _ + 1 ≤ _; omega)
  have L0 : Hid (OutAt w b o ∧ Below b w w) := ⟨h, Below.refl _ _⟩
  have EQ : Hid (Px.wrX x o = Px.sgn (Px.sgn (Px.sgn (Px.sgn (Px.sgn (Px.sgn (Px.wrE ex (Px.sgn (Px.sgn (Px.sgn o [99, 97, 108, 108]) x.word.data.toList) [40])) [41]) [97, 115]) x.asw.data.toList) [117, 110, 100, 111]) x.undo.data.toList) [59]) := by unfold Hid; rw [Px.wrX_eq, if_neg (by omega), if_pos hop, Px.wrTries, if_pos hT, Px.wrUndo, if_neg (by omega), Px.wrAs, if_neg (by omega), hex]; rfl
  clear h hok hg hw hl hv e4 e5 e6 e7 hxe hge hwe s1 s2 s3 s4 s5 s6 s7 s8 s9 s10
  unfold ptr at *
  go_enter Tryz.func38, Tryz.ntmps38
  go_wp2_with fail
  refine (C1.out _ L0.out.1).mono ?_
  rintro e w1 ⟨rfl, o1, b1⟩
  have L1 : Hid (OutAt w1 b (Px.sgn o [99, 97, 108, 108]) ∧ Below b w w1) := ⟨o1, L0.out.2.trans b1⟩
  obtain ⟨d1_0, d1_1, d1_2, d1_3, d1_4, d1_5, d1_6, d1_7, d1_8, d1_9, d1_10, d1_f⟩ := cells11 (CQ.out w1 L1.out.2)
  clear d0_0 d0_1 d0_2 d0_3 d0_4 d0_5 d0_6 d0_7 d0_8 d0_9 d0_10 d0_f o1 b1
  go_wp2_with fail
  refine (C2.out _ L1.out.1).mono ?_
  rintro e w2 ⟨rfl, o2, b2⟩
  have L2 : Hid (OutAt w2 b (Px.sgn (Px.sgn o [99, 97, 108, 108]) x.word.data.toList) ∧ Below b w w2) := ⟨o2, L1.out.2.trans b2⟩
  obtain ⟨d2_0, d2_1, d2_2, d2_3, d2_4, d2_5, d2_6, d2_7, d2_8, d2_9, d2_10, d2_f⟩ := cells11 (CQ.out w2 L2.out.2)
  clear d1_0 d1_1 d1_2 d1_3 d1_4 d1_5 d1_6 d1_7 d1_8 d1_9 d1_10 d1_f o2 b2
  go_wp2_with fail
  refine (C3.out _ L2.out.1).mono ?_
  rintro e w3 ⟨rfl, o3, b3⟩
  have L3 : Hid (OutAt w3 b (Px.sgn (Px.sgn (Px.sgn o [99, 97, 108, 108]) x.word.data.toList) [40]) ∧ Below b w w3) := ⟨o3, L2.out.2.trans b3⟩
  obtain ⟨d3_0, d3_1, d3_2, d3_3, d3_4, d3_5, d3_6, d3_7, d3_8, d3_9, d3_10, d3_f⟩ := cells11 (CQ.out w3 L3.out.2)
  clear d2_0 d2_1 d2_2 d2_3 d2_4 d2_5 d2_6 d2_7 d2_8 d2_9 d2_10 d2_f o3 b3
  go_wp2_with fail
  refine (C4.out _ L3.out.2 L3.out.1).mono ?_
  rintro e w4 ⟨rfl, o4, b4⟩
  have L4 : Hid (OutAt w4 b (Px.wrE ex (Px.sgn (Px.sgn (Px.sgn o [99, 97, 108, 108]) x.word.data.toList) [40])) ∧ Below b w w4) := ⟨o4, L3.out.2.trans b4⟩
  obtain ⟨d4_0, d4_1, d4_2, d4_3, d4_4, d4_5, d4_6, d4_7, d4_8, d4_9, d4_10, d4_f⟩ := cells11 (CQ.out w4 L4.out.2)
  clear d3_0 d3_1 d3_2 d3_3 d3_4 d3_5 d3_6 d3_7 d3_8 d3_9 d3_10 d3_f o4 b4
  go_wp2_with fail
  refine (C5.out _ L4.out.1).mono ?_
  rintro e w5 ⟨rfl, o5, b5⟩
  have L5 : Hid (OutAt w5 b (Px.sgn (Px.wrE ex (Px.sgn (Px.sgn (Px.sgn o [99, 97, 108, 108]) x.word.data.toList) [40])) [41]) ∧ Below b w w5) := ⟨o5, L4.out.2.trans b5⟩
  obtain ⟨d5_0, d5_1, d5_2, d5_3, d5_4, d5_5, d5_6, d5_7, d5_8, d5_9, d5_10, d5_f⟩ := cells11 (CQ.out w5 L5.out.2)
  clear d4_0 d4_1 d4_2 d4_3 d4_4 d4_5 d4_6 d4_7 d4_8 d4_9 d4_10 d4_f o5 b5
  go_wp2_with fail
  refine (C6.out _ L5.out.1).mono ?_
  rintro e w6 ⟨rfl, o6, b6⟩
  have L6 : Hid (OutAt w6 b (Px.sgn (Px.sgn (Px.wrE ex (Px.sgn (Px.sgn (Px.sgn o [99, 97, 108, 108]) x.word.data.toList) [40])) [41]) [97, 115]) ∧ Below b w w6) := ⟨o6, L5.out.2.trans b6⟩
  obtain ⟨d6_0, d6_1, d6_2, d6_3, d6_4, d6_5, d6_6, d6_7, d6_8, d6_9, d6_10, d6_f⟩ := cells11 (CQ.out w6 L6.out.2)
  clear d5_0 d5_1 d5_2 d5_3 d5_4 d5_5 d5_6 d5_7 d5_8 d5_9 d5_10 d5_f o6 b6
  go_wp2_with fail
  refine (C7.out _ L6.out.1).mono ?_
  rintro e w7 ⟨rfl, o7, b7⟩
  have L7 : Hid (OutAt w7 b (Px.sgn (Px.sgn (Px.sgn (Px.wrE ex (Px.sgn (Px.sgn (Px.sgn o [99, 97, 108, 108]) x.word.data.toList) [40])) [41]) [97, 115]) x.asw.data.toList) ∧ Below b w w7) := ⟨o7, L6.out.2.trans b7⟩
  obtain ⟨d7_0, d7_1, d7_2, d7_3, d7_4, d7_5, d7_6, d7_7, d7_8, d7_9, d7_10, d7_f⟩ := cells11 (CQ.out w7 L7.out.2)
  clear d6_0 d6_1 d6_2 d6_3 d6_4 d6_5 d6_6 d6_7 d6_8 d6_9 d6_10 d6_f o7 b7
  go_wp2_with fail
  refine (C8.out _ L7.out.1).mono ?_
  rintro e w8 ⟨rfl, o8, b8⟩
  have L8 : Hid (OutAt w8 b (Px.sgn (Px.sgn (Px.sgn (Px.sgn (Px.wrE ex (Px.sgn (Px.sgn (Px.sgn o [99, 97, 108, 108]) x.word.data.toList) [40])) [41]) [97, 115]) x.asw.data.toList) [117, 110, 100, 111]) ∧ Below b w w8) := ⟨o8, L7.out.2.trans b8⟩
  obtain ⟨d8_0, d8_1, d8_2, d8_3, d8_4, d8_5, d8_6, d8_7, d8_8, d8_9, d8_10, d8_f⟩ := cells11 (CQ.out w8 L8.out.2)
  clear d7_0 d7_1 d7_2 d7_3 d7_4 d7_5 d7_6 d7_7 d7_8 d7_9 d7_10 d7_f o8 b8
  go_wp2_with fail
  refine (C9.out _ L8.out.1).mono ?_
  rintro e w9 ⟨rfl, o9, b9⟩
  have L9 : Hid (OutAt w9 b (Px.sgn (Px.sgn (Px.sgn (Px.sgn (Px.sgn (Px.wrE ex (Px.sgn (Px.sgn (Px.sgn o [99, 97, 108, 108]) x.word.data.toList) [40])) [41]) [97, 115]) x.asw.data.toList) [117, 110, 100, 111]) x.undo.data.toList) ∧ Below b w w9) := ⟨o9, L8.out.2.trans b9⟩
  obtain ⟨d9_0, d9_1, d9_2, d9_3, d9_4, d9_5, d9_6, d9_7, d9_8, d9_9, d9_10, d9_f⟩ := cells11 (CQ.out w9 L9.out.2)
  clear d8_0 d8_1 d8_2 d8_3 d8_4 d8_5 d8_6 d8_7 d8_8 d8_9 d8_10 d8_f o9 b9
  go_wp2_with fail
  refine (C10.out _ L9.out.1).mono ?_
  rintro e w10 ⟨rfl, o10, b10⟩
  have L10 : Hid (OutAt w10 b (Px.sgn (Px.sgn (Px.sgn (Px.sgn (Px.sgn (Px.sgn (Px.wrE ex (Px.sgn (Px.sgn (Px.sgn o [99, 97, 108, 108]) x.word.data.toList) [40])) [41]) [97, 115]) x.asw.data.toList) [117, 110, 100, 111]) x.undo.data.toList) [59]) ∧ Below b w w10) := ⟨o10, L9.out.2.trans b10⟩
  obtain ⟨d10_0, d10_1, d10_2, d10_3, d10_4, d10_5, d10_6, d10_7, d10_8, d10_9, d10_10, d10_f⟩ := cells11 (CQ.out w10 L10.out.2)
  clear d9_0 d9_1 d9_2 d9_3 d9_4 d9_5 d9_6 d9_7 d9_8 d9_9 d9_10 d9_f o10 b10
  go_wp2_with fail
  go_end0
  rw [EQ.out]
  exact ⟨rfl, L10.out.1, L10.out.2⟩

set_option maxRecDepth 100000 in
set_option maxHeartbeats 8000000 in
theorem outC_1111 (b : Nat) (x : Px.Sm) (hop : x.op = 99) (hE : x.ex ≠ none) (ha : 0 < x.asw.size) (hu : 0 < x.undo.size) (hT : x.n ≠ 1) : OutC b x := by
  intro w o ok q hx hok h hw hg hl
  obtain ⟨hq, ve, v1, v2, q1, q2, hv, e3, e4, e5, e6, e7⟩ := hx
  have hqb := hok q hq
  unfold Px.szX at hl
  obtain ⟨ex, hex⟩ : ∃ ex, x.ex = some ex := Option.ne_none_iff_exists'.1 hE
  have hwe := hw.1 ex hex
  have hge := hg.2.2.1 ex hex
  rw [hex] at e3 hl
  obtain ⟨qe, rfl, hxe⟩ := e3
  simp only [Px.szO] at hl
  obtain ⟨d0_0, d0_1, d0_2, d0_3, d0_4, d0_5, d0_6, d0_7, d0_8, d0_9, d0_10, d0_f⟩ := cells11 hv
  have CQ : Hid (∀ W, Below b w W → W.heap[q]? = some (.cells (smCells x (ptr qe) v1 v2) 106)) := fun W hW => by rw [hW.block q hqb]; exact hv
  have hwl : x.word.data.toList.length = x.word.size := rfl
  have ha' : x.asw.toList.isEmpty = false := empty_not ha
  have hu' : x.undo.toList.isEmpty = false := empty_not hu
  have hT' : ((x.n : Int) == 1) = false := by rw [beq_eq_false_iff_ne]; omega
  have hal : x.asw.data.toList.length = x.asw.size := rfl
  have hul : x.undo.data.toList.length = x.undo.size := rfl
  have s1 := Px.sgn_len o [99, 97, 108, 108]
  have s2 := Px.sgn_len (Px.sgn o [99, 97, 108, 108]) x.word.data.toList
  have s3 := Px.sgn_len (Px.sgn (Px.sgn o [99, 97, 108, 108]) x.word.data.toList) [40]
  have s4 := Px.wrE_len ex (Px.sgn (Px.sgn (Px.sgn o [99, 97, 108, 108]) x.word.data.toList) [40])
  have s5 := Px.sgn_len (Px.wrE ex (Px.sgn (Px.sgn (Px.sgn o [99, 97, 108, 108]) x.word.data.toList) [40])) [41]
  have s6 := Px.sgn_len (Px.sgn (Px.wrE ex (Px.sgn (Px.sgn (Px.sgn o [99, 97, 108, 108]) x.word.data.toList) [40])) [41]) [97, 115]
  have s7 := Px.sgn_len (Px.sgn (Px.sgn (Px.wrE ex (Px.sgn (Px.sgn (Px.sgn o [99, 97, 108, 108]) x.word.data.toList) [40])) [41]) [97, 115]) x.asw.data.toList
  have s8 := Px.sgn_len (Px.sgn (Px.sgn (Px.sgn (Px.wrE ex (Px.sgn (Px.sgn (Px.sgn o [99, 97, 108, 108]) x.word.data.toList) [40])) [41]) [97, 115]) x.asw.data.toList) [117, 110, 100, 111]
  have s9 := Px.sgn_len (Px.sgn (Px.sgn (Px.sgn (Px.sgn (Px.wrE ex (Px.sgn (Px.sgn (Px.sgn o [99, 97, 108, 108]) x.word.data.toList) [40])) [41]) [97, 115]) x.asw.data.toList) [117, 110, 100, 111]) x.undo.data.toList
  have s10 := Px.sgn_len (Px.sgn (Px.sgn (Px.sgn (Px.sgn (Px.sgn (Px.wrE ex (Px.sgn (Px.sgn (Px.sgn o [99, 97, 108, 108]) x.word.data.toList) [40])) [41]) [97, 115]) x.asw.data.toList) [117, 110, 100, 111]) x.undo.data.toList) [116, 114, 105, 101, 115]
  have s11 := Px.sgn_len (Px.sgn (Px.sgn (Px.sgn (Px.sgn (Px.sgn (Px.sgn (Px.wrE ex (Px.sgn (Px.sgn (Px.sgn o [99, 97, 108, 108]) x.word.data.toList) [40])) [41]) [97, 115]) x.asw.data.toList) [117, 110, 100, 111]) x.undo.data.toList) [116, 114, 105, 101, 115]) (Px.dec x.n)
  have s12 := Px.dec_len x.n
  have s13 := dec_pos x.n
  have s14 := Px.sgn_len (Px.sgn (Px.sgn (Px.sgn (Px.sgn (Px.sgn (Px.sgn (Px.sgn (Px.wrE ex (Px.sgn (Px.sgn (Px.sgn o [99, 97, 108, 108]) x.word.data.toList) [40])) [41]) [97, 115]) x.asw.data.toList) [117, 110, 100, 111]) x.undo.data.toList) [116, 114, 105, 101, 115]) (Px.dec x.n)) [59]
  simp only [List.length_cons, List.length_nil] at *
  have C1 : Hid (∀ W, OutAt W b o → Calls Tryz.prog 36 #[.pointer (some ⟨b, 0, none⟩), .string ⟨#[99, 97, 108, 108]⟩] W (OPost b W (Px.sgn o [99, 97, 108, 108]))) := fun W hO => outSign b _ ⟨#[99, 97, 108, 108]⟩ W hO (by decide) (by show _ + 4 ≤ _; omega)
  have C2 : Hid (∀ W, OutAt W b (Px.sgn o [99, 97, 108, 108]) → Calls Tryz.prog 36 #[.pointer (some ⟨b, 0, none⟩), .string x.word] W (OPost b W (Px.sgn (Px.sgn o [99, 97, 108, 108]) x.word.data.toList))) := fun W hO => outSign b _ x.word W hO (hg.1 (Or.inr hop)) (by show _ + x.word.size ≤ _; omega)
  have C3 : Hid (∀ W, OutAt W b (Px.sgn (Px.sgn o [99, 97, 108, 108]) x.word.data.toList) → Calls Tryz.prog 36 #[.pointer (some ⟨b, 0, none⟩), .string ⟨#[40]⟩] W (OPost b W (Px.sgn (Px.sgn (Px.sgn o [99, 97, 108, 108]) x.word.data.toList) [40]))) := fun W hO => outSign b _ ⟨#[40]⟩ W hO (by decide) (by show _ + 1 ≤ _; omega)
  have C4 : Hid (∀ W, Below b w W → OutAt W b (Px.sgn (Px.sgn (Px.sgn o [99, 97, 108, 108]) x.word.data.toList) [40]) → Calls Tryz.prog 37 #[.pointer (some ⟨b, 0, none⟩), .pointer (some ⟨qe, 0, none⟩), .int .i64 0] W (OPost b W (Px.wrE ex (Px.sgn (Px.sgn (Px.sgn o [99, 97, 108, 108]) x.word.data.toList) [40])))) := fun W hW hO => outE0 b ex hwe W _ ok qe (hxe.keep fun i hi => hW.block i (hok i hi)) hok hO hge (by omega)
  have C5 : Hid (∀ W, OutAt W b (Px.wrE ex (Px.sgn (Px.sgn (Px.sgn o [99, 97, 108, 108]) x.word.data.toList) [40])) → Calls Tryz.prog 36 #[.pointer (some ⟨b, 0, none⟩), .string ⟨#[41]⟩] W (OPost b W (Px.sgn (Px.wrE ex (Px.sgn (Px.sgn (Px.sgn o [99, 97, 108, 108]) x.word.data.toList) [40])) [41]))) := fun W hO => outSign b _ ⟨#[41]⟩ W hO (by decide) (by show _ + 1 ≤ _; omega)
  have C6 : Hid (∀ W, OutAt W b (Px.sgn (Px.wrE ex (Px.sgn (Px.sgn (Px.sgn o [99, 97, 108, 108]) x.word.data.toList) [40])) [41]) → Calls Tryz.prog 36 #[.pointer (some ⟨b, 0, none⟩), .string ⟨#[97, 115]⟩] W (OPost b W (Px.sgn (Px.sgn (Px.wrE ex (Px.sgn (Px.sgn (Px.sgn o [99, 97, 108, 108]) x.word.data.toList) [40])) [41]) [97, 115]))) := fun W hO => outSign b _ ⟨#[97, 115]⟩ W hO (by decide) (by show _ + 2 ≤ _; omega)
  have C7 : Hid (∀ W, OutAt W b (Px.sgn (Px.sgn (Px.wrE ex (Px.sgn (Px.sgn (Px.sgn o [99, 97, 108, 108]) x.word.data.toList) [40])) [41]) [97, 115]) → Calls Tryz.prog 36 #[.pointer (some ⟨b, 0, none⟩), .string x.asw] W (OPost b W (Px.sgn (Px.sgn (Px.sgn (Px.wrE ex (Px.sgn (Px.sgn (Px.sgn o [99, 97, 108, 108]) x.word.data.toList) [40])) [41]) [97, 115]) x.asw.data.toList))) := fun W hO => outSign b _ x.asw W hO ha (by show _ + x.asw.size ≤ _; omega)
  have C8 : Hid (∀ W, OutAt W b (Px.sgn (Px.sgn (Px.sgn (Px.wrE ex (Px.sgn (Px.sgn (Px.sgn o [99, 97, 108, 108]) x.word.data.toList) [40])) [41]) [97, 115]) x.asw.data.toList) → Calls Tryz.prog 36 #[.pointer (some ⟨b, 0, none⟩), .string ⟨#[117, 110, 100, 111]⟩] W (OPost b W (Px.sgn (Px.sgn (Px.sgn (Px.sgn (Px.wrE ex (Px.sgn (Px.sgn (Px.sgn o [99, 97, 108, 108]) x.word.data.toList) [40])) [41]) [97, 115]) x.asw.data.toList) [117, 110, 100, 111]))) := fun W hO => outSign b _ ⟨#[117, 110, 100, 111]⟩ W hO (by decide) (by show _ + 4 ≤ _; omega)
  have C9 : Hid (∀ W, OutAt W b (Px.sgn (Px.sgn (Px.sgn (Px.sgn (Px.wrE ex (Px.sgn (Px.sgn (Px.sgn o [99, 97, 108, 108]) x.word.data.toList) [40])) [41]) [97, 115]) x.asw.data.toList) [117, 110, 100, 111]) → Calls Tryz.prog 36 #[.pointer (some ⟨b, 0, none⟩), .string x.undo] W (OPost b W (Px.sgn (Px.sgn (Px.sgn (Px.sgn (Px.sgn (Px.wrE ex (Px.sgn (Px.sgn (Px.sgn o [99, 97, 108, 108]) x.word.data.toList) [40])) [41]) [97, 115]) x.asw.data.toList) [117, 110, 100, 111]) x.undo.data.toList))) := fun W hO => outSign b _ x.undo W hO hu (by show _ + x.undo.size ≤ _; omega)
  have C10 : Hid (∀ W, OutAt W b (Px.sgn (Px.sgn (Px.sgn (Px.sgn (Px.sgn (Px.wrE ex (Px.sgn (Px.sgn (Px.sgn o [99, 97, 108, 108]) x.word.data.toList) [40])) [41]) [97, 115]) x.asw.data.toList) [117, 110, 100, 111]) x.undo.data.toList) → Calls Tryz.prog 36 #[.pointer (some ⟨b, 0, none⟩), .string ⟨#[116, 114, 105, 101, 115]⟩] W (OPost b W (Px.sgn (Px.sgn (Px.sgn (Px.sgn (Px.sgn (Px.sgn (Px.wrE ex (Px.sgn (Px.sgn (Px.sgn o [99, 97, 108, 108]) x.word.data.toList) [40])) [41]) [97, 115]) x.asw.data.toList) [117, 110, 100, 111]) x.undo.data.toList) [116, 114, 105, 101, 115]))) := fun W hO => outSign b _ ⟨#[116, 114, 105, 101, 115]⟩ W hO (by decide) (by show _ + 5 ≤ _; omega)
  have C11 : Hid (∀ W, Calls Tryz.prog 40 #[.int .i64 (x.n : Int)] W (DecPost x.n W)) := dec_any x.n hg.2.1
  have C12 : Hid (∀ W (S : ByteArray), S.data.toList = Px.dec x.n → OutAt W b (Px.sgn (Px.sgn (Px.sgn (Px.sgn (Px.sgn (Px.sgn (Px.wrE ex (Px.sgn (Px.sgn (Px.sgn o [99, 97, 108, 108]) x.word.data.toList) [40])) [41]) [97, 115]) x.asw.data.toList) [117, 110, 100, 111]) x.undo.data.toList) [116, 114, 105, 101, 115]) → Calls Tryz.prog 36 #[.pointer (some ⟨b, 0, none⟩), .string S] W (OPost b W (Px.sgn (Px.sgn (Px.sgn (Px.sgn (Px.sgn (Px.sgn (Px.sgn (Px.wrE ex (Px.sgn (Px.sgn (Px.sgn o [99, 97, 108, 108]) x.word.data.toList) [40])) [41]) [97, 115]) x.asw.data.toList) [117, 110, 100, 111]) x.undo.data.toList) [116, 114, 105, 101, 115]) (Px.dec x.n)))) := fun W S hS hO => by
    have hz : S.size = (Px.dec x.n).length := by rw [← hS]; rfl
    rw [← hS]
    exact outSign b _ S W hO (by omega) (by omega)
  have C13 : Hid (∀ W, OutAt W b (Px.sgn (Px.sgn (Px.sgn (Px.sgn (Px.sgn (Px.sgn (Px.sgn (Px.wrE ex (Px.sgn (Px.sgn (Px.sgn o [99, 97, 108, 108]) x.word.data.toList) [40])) [41]) [97, 115]) x.asw.data.toList) [117, 110, 100, 111]) x.undo.data.toList) [116, 114, 105, 101, 115]) (Px.dec x.n)) → Calls Tryz.prog 36 #[.pointer (some ⟨b, 0, none⟩), .string ⟨#[59]⟩] W (OPost b W (Px.sgn (Px.sgn (Px.sgn (Px.sgn (Px.sgn (Px.sgn (Px.sgn (Px.sgn (Px.wrE ex (Px.sgn (Px.sgn (Px.sgn o [99, 97, 108, 108]) x.word.data.toList) [40])) [41]) [97, 115]) x.asw.data.toList) [117, 110, 100, 111]) x.undo.data.toList) [116, 114, 105, 101, 115]) (Px.dec x.n)) [59]))) := fun W hO => outSign b _ ⟨#[59]⟩ W hO (by decide) (by show _ + 1 ≤ _; omega)
  have L0 : Hid (OutAt w b o ∧ Below b w w) := ⟨h, Below.refl _ _⟩
  have EQ : Hid (Px.wrX x o = Px.sgn (Px.sgn (Px.sgn (Px.sgn (Px.sgn (Px.sgn (Px.sgn (Px.sgn (Px.wrE ex (Px.sgn (Px.sgn (Px.sgn o [99, 97, 108, 108]) x.word.data.toList) [40])) [41]) [97, 115]) x.asw.data.toList) [117, 110, 100, 111]) x.undo.data.toList) [116, 114, 105, 101, 115]) (Px.dec x.n)) [59]) := by unfold Hid; rw [Px.wrX_eq, if_neg (by omega), if_pos hop, Px.wrTries, if_neg hT, Px.wrUndo, if_neg (by omega), Px.wrAs, if_neg (by omega), hex]; rfl
  clear h hok hg hw hl hv e4 e5 e6 e7 hxe hge hwe s1 s2 s3 s4 s5 s6 s7 s8 s9 s10 s11 s12 s13 s14
  unfold ptr at *
  go_enter Tryz.func38, Tryz.ntmps38
  go_wp2_with fail
  refine (C1.out _ L0.out.1).mono ?_
  rintro e w1 ⟨rfl, o1, b1⟩
  have L1 : Hid (OutAt w1 b (Px.sgn o [99, 97, 108, 108]) ∧ Below b w w1) := ⟨o1, L0.out.2.trans b1⟩
  obtain ⟨d1_0, d1_1, d1_2, d1_3, d1_4, d1_5, d1_6, d1_7, d1_8, d1_9, d1_10, d1_f⟩ := cells11 (CQ.out w1 L1.out.2)
  clear d0_0 d0_1 d0_2 d0_3 d0_4 d0_5 d0_6 d0_7 d0_8 d0_9 d0_10 d0_f o1 b1
  go_wp2_with fail
  refine (C2.out _ L1.out.1).mono ?_
  rintro e w2 ⟨rfl, o2, b2⟩
  have L2 : Hid (OutAt w2 b (Px.sgn (Px.sgn o [99, 97, 108, 108]) x.word.data.toList) ∧ Below b w w2) := ⟨o2, L1.out.2.trans b2⟩
  obtain ⟨d2_0, d2_1, d2_2, d2_3, d2_4, d2_5, d2_6, d2_7, d2_8, d2_9, d2_10, d2_f⟩ := cells11 (CQ.out w2 L2.out.2)
  clear d1_0 d1_1 d1_2 d1_3 d1_4 d1_5 d1_6 d1_7 d1_8 d1_9 d1_10 d1_f o2 b2
  go_wp2_with fail
  refine (C3.out _ L2.out.1).mono ?_
  rintro e w3 ⟨rfl, o3, b3⟩
  have L3 : Hid (OutAt w3 b (Px.sgn (Px.sgn (Px.sgn o [99, 97, 108, 108]) x.word.data.toList) [40]) ∧ Below b w w3) := ⟨o3, L2.out.2.trans b3⟩
  obtain ⟨d3_0, d3_1, d3_2, d3_3, d3_4, d3_5, d3_6, d3_7, d3_8, d3_9, d3_10, d3_f⟩ := cells11 (CQ.out w3 L3.out.2)
  clear d2_0 d2_1 d2_2 d2_3 d2_4 d2_5 d2_6 d2_7 d2_8 d2_9 d2_10 d2_f o3 b3
  go_wp2_with fail
  refine (C4.out _ L3.out.2 L3.out.1).mono ?_
  rintro e w4 ⟨rfl, o4, b4⟩
  have L4 : Hid (OutAt w4 b (Px.wrE ex (Px.sgn (Px.sgn (Px.sgn o [99, 97, 108, 108]) x.word.data.toList) [40])) ∧ Below b w w4) := ⟨o4, L3.out.2.trans b4⟩
  obtain ⟨d4_0, d4_1, d4_2, d4_3, d4_4, d4_5, d4_6, d4_7, d4_8, d4_9, d4_10, d4_f⟩ := cells11 (CQ.out w4 L4.out.2)
  clear d3_0 d3_1 d3_2 d3_3 d3_4 d3_5 d3_6 d3_7 d3_8 d3_9 d3_10 d3_f o4 b4
  go_wp2_with fail
  refine (C5.out _ L4.out.1).mono ?_
  rintro e w5 ⟨rfl, o5, b5⟩
  have L5 : Hid (OutAt w5 b (Px.sgn (Px.wrE ex (Px.sgn (Px.sgn (Px.sgn o [99, 97, 108, 108]) x.word.data.toList) [40])) [41]) ∧ Below b w w5) := ⟨o5, L4.out.2.trans b5⟩
  obtain ⟨d5_0, d5_1, d5_2, d5_3, d5_4, d5_5, d5_6, d5_7, d5_8, d5_9, d5_10, d5_f⟩ := cells11 (CQ.out w5 L5.out.2)
  clear d4_0 d4_1 d4_2 d4_3 d4_4 d4_5 d4_6 d4_7 d4_8 d4_9 d4_10 d4_f o5 b5
  go_wp2_with fail
  refine (C6.out _ L5.out.1).mono ?_
  rintro e w6 ⟨rfl, o6, b6⟩
  have L6 : Hid (OutAt w6 b (Px.sgn (Px.sgn (Px.wrE ex (Px.sgn (Px.sgn (Px.sgn o [99, 97, 108, 108]) x.word.data.toList) [40])) [41]) [97, 115]) ∧ Below b w w6) := ⟨o6, L5.out.2.trans b6⟩
  obtain ⟨d6_0, d6_1, d6_2, d6_3, d6_4, d6_5, d6_6, d6_7, d6_8, d6_9, d6_10, d6_f⟩ := cells11 (CQ.out w6 L6.out.2)
  clear d5_0 d5_1 d5_2 d5_3 d5_4 d5_5 d5_6 d5_7 d5_8 d5_9 d5_10 d5_f o6 b6
  go_wp2_with fail
  refine (C7.out _ L6.out.1).mono ?_
  rintro e w7 ⟨rfl, o7, b7⟩
  have L7 : Hid (OutAt w7 b (Px.sgn (Px.sgn (Px.sgn (Px.wrE ex (Px.sgn (Px.sgn (Px.sgn o [99, 97, 108, 108]) x.word.data.toList) [40])) [41]) [97, 115]) x.asw.data.toList) ∧ Below b w w7) := ⟨o7, L6.out.2.trans b7⟩
  obtain ⟨d7_0, d7_1, d7_2, d7_3, d7_4, d7_5, d7_6, d7_7, d7_8, d7_9, d7_10, d7_f⟩ := cells11 (CQ.out w7 L7.out.2)
  clear d6_0 d6_1 d6_2 d6_3 d6_4 d6_5 d6_6 d6_7 d6_8 d6_9 d6_10 d6_f o7 b7
  go_wp2_with fail
  refine (C8.out _ L7.out.1).mono ?_
  rintro e w8 ⟨rfl, o8, b8⟩
  have L8 : Hid (OutAt w8 b (Px.sgn (Px.sgn (Px.sgn (Px.sgn (Px.wrE ex (Px.sgn (Px.sgn (Px.sgn o [99, 97, 108, 108]) x.word.data.toList) [40])) [41]) [97, 115]) x.asw.data.toList) [117, 110, 100, 111]) ∧ Below b w w8) := ⟨o8, L7.out.2.trans b8⟩
  obtain ⟨d8_0, d8_1, d8_2, d8_3, d8_4, d8_5, d8_6, d8_7, d8_8, d8_9, d8_10, d8_f⟩ := cells11 (CQ.out w8 L8.out.2)
  clear d7_0 d7_1 d7_2 d7_3 d7_4 d7_5 d7_6 d7_7 d7_8 d7_9 d7_10 d7_f o8 b8
  go_wp2_with fail
  refine (C9.out _ L8.out.1).mono ?_
  rintro e w9 ⟨rfl, o9, b9⟩
  have L9 : Hid (OutAt w9 b (Px.sgn (Px.sgn (Px.sgn (Px.sgn (Px.sgn (Px.wrE ex (Px.sgn (Px.sgn (Px.sgn o [99, 97, 108, 108]) x.word.data.toList) [40])) [41]) [97, 115]) x.asw.data.toList) [117, 110, 100, 111]) x.undo.data.toList) ∧ Below b w w9) := ⟨o9, L8.out.2.trans b9⟩
  obtain ⟨d9_0, d9_1, d9_2, d9_3, d9_4, d9_5, d9_6, d9_7, d9_8, d9_9, d9_10, d9_f⟩ := cells11 (CQ.out w9 L9.out.2)
  clear d8_0 d8_1 d8_2 d8_3 d8_4 d8_5 d8_6 d8_7 d8_8 d8_9 d8_10 d8_f o9 b9
  go_wp2_with fail
  refine (C10.out _ L9.out.1).mono ?_
  rintro e w10 ⟨rfl, o10, b10⟩
  have L10 : Hid (OutAt w10 b (Px.sgn (Px.sgn (Px.sgn (Px.sgn (Px.sgn (Px.sgn (Px.wrE ex (Px.sgn (Px.sgn (Px.sgn o [99, 97, 108, 108]) x.word.data.toList) [40])) [41]) [97, 115]) x.asw.data.toList) [117, 110, 100, 111]) x.undo.data.toList) [116, 114, 105, 101, 115]) ∧ Below b w w10) := ⟨o10, L9.out.2.trans b10⟩
  obtain ⟨d10_0, d10_1, d10_2, d10_3, d10_4, d10_5, d10_6, d10_7, d10_8, d10_9, d10_10, d10_f⟩ := cells11 (CQ.out w10 L10.out.2)
  clear d9_0 d9_1 d9_2 d9_3 d9_4 d9_5 d9_6 d9_7 d9_8 d9_9 d9_10 d9_f o10 b10
  go_wp2_with fail
  refine (C11.out _).mono ?_
  rintro e w12 ⟨S12, rfl, hS12, b12⟩
  have L12 : Hid (OutAt w12 b (Px.sgn (Px.sgn (Px.sgn (Px.sgn (Px.sgn (Px.sgn (Px.wrE ex (Px.sgn (Px.sgn (Px.sgn o [99, 97, 108, 108]) x.word.data.toList) [40])) [41]) [97, 115]) x.asw.data.toList) [117, 110, 100, 111]) x.undo.data.toList) [116, 114, 105, 101, 115]) ∧ Below b w w12) := ⟨L10.out.1.old b12, L10.out.2.trans (b12.mono (Nat.le_of_lt L10.out.1.lt))⟩
  have T12 : Hid (S12.data.toList = Px.dec x.n) := hS12
  obtain ⟨d12_0, d12_1, d12_2, d12_3, d12_4, d12_5, d12_6, d12_7, d12_8, d12_9, d12_10, d12_f⟩ := cells11 (CQ.out w12 L12.out.2)
  clear d10_0 d10_1 d10_2 d10_3 d10_4 d10_5 d10_6 d10_7 d10_8 d10_9 d10_10 d10_f hS12 b12
  go_wp2_with fail
  refine (C12.out _ S12 T12.out L12.out.1).mono ?_
  rintro e w11 ⟨rfl, o11, b11⟩
  have L11 : Hid (OutAt w11 b (Px.sgn (Px.sgn (Px.sgn (Px.sgn (Px.sgn (Px.sgn (Px.sgn (Px.wrE ex (Px.sgn (Px.sgn (Px.sgn o [99, 97, 108, 108]) x.word.data.toList) [40])) [41]) [97, 115]) x.asw.data.toList) [117, 110, 100, 111]) x.undo.data.toList) [116, 114, 105, 101, 115]) (Px.dec x.n)) ∧ Below b w w11) := ⟨o11, L12.out.2.trans b11⟩
  obtain ⟨d11_0, d11_1, d11_2, d11_3, d11_4, d11_5, d11_6, d11_7, d11_8, d11_9, d11_10, d11_f⟩ := cells11 (CQ.out w11 L11.out.2)
  clear d12_0 d12_1 d12_2 d12_3 d12_4 d12_5 d12_6 d12_7 d12_8 d12_9 d12_10 d12_f o11 b11
  go_wp2_with fail
  refine (C13.out _ L11.out.1).mono ?_
  rintro e w13 ⟨rfl, o13, b13⟩
  have L13 : Hid (OutAt w13 b (Px.sgn (Px.sgn (Px.sgn (Px.sgn (Px.sgn (Px.sgn (Px.sgn (Px.sgn (Px.wrE ex (Px.sgn (Px.sgn (Px.sgn o [99, 97, 108, 108]) x.word.data.toList) [40])) [41]) [97, 115]) x.asw.data.toList) [117, 110, 100, 111]) x.undo.data.toList) [116, 114, 105, 101, 115]) (Px.dec x.n)) [59]) ∧ Below b w w13) := ⟨o13, L11.out.2.trans b13⟩
  obtain ⟨d13_0, d13_1, d13_2, d13_3, d13_4, d13_5, d13_6, d13_7, d13_8, d13_9, d13_10, d13_f⟩ := cells11 (CQ.out w13 L13.out.2)
  clear d11_0 d11_1 d11_2 d11_3 d11_4 d11_5 d11_6 d11_7 d11_8 d11_9 d11_10 d11_f o13 b13
  go_wp2_with fail
  go_end0
  rw [EQ.out]
  exact ⟨rfl, L13.out.1, L13.out.2⟩

theorem outC_ok (b : Nat) (x : Px.Sm) (hop : x.op = 99) : OutC b x := by
  by_cases hE : x.ex = none <;> by_cases ha : x.asw.size = 0 <;> by_cases hu : x.undo.size = 0 <;> by_cases hT : x.n = 1
  · exact outC_0000 b x hop hE ha hu hT
  · exact outC_0001 b x hop hE ha hu hT
  · exact outC_0010 b x hop hE ha (by omega) hT
  · exact outC_0011 b x hop hE ha (by omega) hT
  · exact outC_0100 b x hop hE (by omega) hu hT
  · exact outC_0101 b x hop hE (by omega) hu hT
  · exact outC_0110 b x hop hE (by omega) (by omega) hT
  · exact outC_0111 b x hop hE (by omega) (by omega) hT
  · exact outC_1000 b x hop hE ha hu hT
  · exact outC_1001 b x hop hE ha hu hT
  · exact outC_1010 b x hop hE ha (by omega) hT
  · exact outC_1011 b x hop hE ha (by omega) hT
  · exact outC_1100 b x hop hE (by omega) hu hT
  · exact outC_1101 b x hop hE (by omega) hu hT
  · exact outC_1110 b x hop hE (by omega) (by omega) hT
  · exact outC_1111 b x hop hE (by omega) (by omega) hT

set_option maxRecDepth 100000 in
theorem outX_call (b : Nat) (x : Px.Sm) (hop : x.op = 99) : OutX b x := by
  intro w o ok q hx hok h hw hg hl
  have C : Hid (Calls Tryz.prog 38 #[.pointer (some ⟨b, 0, none⟩), .pointer (some ⟨q, 0, none⟩)] w (OPost b w (Px.wrX x o))) := outC_ok b x hop w o ok q hx hok h hw hg hl
  obtain ⟨hq, ve, v1, v2, q1, q2, hv, _⟩ := hx
  obtain ⟨d0, _⟩ := cells11 hv
  rw [hop] at d0
  clear hok h hw hg hl hv
  go_enter Tryz.func22, Tryz.ntmps22
  go_wp2_with fail
  refine C.out.mono ?_
  rintro e w1 ⟨rfl, o1, b1⟩
  go_wp2_with fail
  go_end0
  exact ⟨rfl, o1, b1⟩

end Ref
end Go.Proofs.YtcogbbneodihkaaGreatDoor
