import Derived.Test.YtcogbbneodihkaaGreatDoorQ31
namespace Go.Proofs.YtcogbbneodihkaaGreatDoor
open Go.RowKit
namespace Ref

theorem dec_pos (n : Nat) : 0 < (Px.dec n).length := by rw [Px.dec_rec]; split <;> simp

set_option maxRecDepth 100000 in
set_option maxHeartbeats 8000000 in
theorem outX_fail (b : Nat) (x : Px.Sm) (hop : x.op = 102) : OutX b x := by
  intro w o ok q hx hok h hw hg hl
  obtain ⟨hq, ve, v1, v2, q1, q2, hv, e3, e4, e5, e6, e7⟩ := hx
  have hqb := hok q hq
  unfold Px.szX at hl
  obtain ⟨d0_0, d0_1, d0_2, d0_3, d0_4, d0_5, d0_6, d0_7, d0_8, d0_9, d0_10, d0_f⟩ := cells11 hv
  have CQ : Hid (∀ W, Below b w W → W.heap[q]? = some (.cells (smCells x ve v1 v2) 106)) := fun W hW => by rw [hW.block q hqb]; exact hv
  have hwl : x.word.data.toList.length = x.word.size := rfl
  have s1 := Px.sgn_len o [102, 97, 105, 108]
  have s2 := Px.sgn_len (Px.sgn o [102, 97, 105, 108]) [59]
  simp only [List.length_cons, List.length_nil] at *
  have C1 : Hid (∀ W, OutAt W b o → Calls Tryz.prog 36 #[.pointer (some ⟨b, 0, none⟩), .string ⟨#[102, 97, 105, 108]⟩] W (OPost b W (Px.sgn o [102, 97, 105, 108]))) := fun W hO => outSign b _ ⟨#[102, 97, 105, 108]⟩ W hO (by decide) (by show _ + 4 ≤ _; omega)
  have C2 : Hid (∀ W, OutAt W b (Px.sgn o [102, 97, 105, 108]) → Calls Tryz.prog 36 #[.pointer (some ⟨b, 0, none⟩), .string ⟨#[59]⟩] W (OPost b W (Px.sgn (Px.sgn o [102, 97, 105, 108]) [59]))) := fun W hO => outSign b _ ⟨#[59]⟩ W hO (by decide) (by show _ + 1 ≤ _; omega)
  have L0 : Hid (OutAt w b o ∧ Below b w w) := ⟨h, Below.refl _ _⟩
  have EQ : Hid (Px.wrX x o = Px.sgn (Px.sgn o [102, 97, 105, 108]) [59]) := by unfold Hid; rw [Px.wrX_eq, if_neg (by omega), if_neg (by omega), if_neg (by omega), if_neg (by omega), if_neg (by omega)]
  rw [hop] at d0_0
  clear h hok hg hw hl hv e4 e5 e6 e7 e3 s1 s2
  go_enter Tryz.func22, Tryz.ntmps22
  go_wp2_with fail
  refine (C1.out _ L0.out.1).mono ?_
  rintro e w1 ⟨rfl, o1, b1⟩
  have L1 : Hid (OutAt w1 b (Px.sgn o [102, 97, 105, 108]) ∧ Below b w w1) := ⟨o1, L0.out.2.trans b1⟩
  obtain ⟨d1_0, d1_1, d1_2, d1_3, d1_4, d1_5, d1_6, d1_7, d1_8, d1_9, d1_10, d1_f⟩ := cells11 (CQ.out w1 L1.out.2)
  clear d0_0 d0_1 d0_2 d0_3 d0_4 d0_5 d0_6 d0_7 d0_8 d0_9 d0_10 d0_f o1 b1
  go_wp2_with fail
  refine (C2.out _ L1.out.1).mono ?_
  rintro e w2 ⟨rfl, o2, b2⟩
  have L2 : Hid (OutAt w2 b (Px.sgn (Px.sgn o [102, 97, 105, 108]) [59]) ∧ Below b w w2) := ⟨o2, L1.out.2.trans b2⟩
  obtain ⟨d2_0, d2_1, d2_2, d2_3, d2_4, d2_5, d2_6, d2_7, d2_8, d2_9, d2_10, d2_f⟩ := cells11 (CQ.out w2 L2.out.2)
  clear d1_0 d1_1 d1_2 d1_3 d1_4 d1_5 d1_6 d1_7 d1_8 d1_9 d1_10 d1_f o2 b2
  go_wp2_with fail
  go_end0
  rw [EQ.out]
  exact ⟨rfl, L2.out.1, L2.out.2⟩

set_option maxRecDepth 100000 in
set_option maxHeartbeats 8000000 in
theorem outX_let (b : Nat) (x : Px.Sm) (hop : x.op = 108) : OutX b x := by
  intro w o ok q hx hok h hw hg hl
  obtain ⟨hq, ve, v1, v2, q1, q2, hv, e3, e4, e5, e6, e7⟩ := hx
  have hqb := hok q hq
  unfold Px.szX at hl
  obtain ⟨ex, hex⟩ : ∃ ex, x.ex = some ex := by
    rcases hw.2 with ⟨_, h1⟩ | h1 | ⟨_, h1⟩ | h1 | h1 | h1
    all_goals first | exact Option.ne_none_iff_exists'.1 h1 | omega
  have hwe := hw.1 ex hex
  have hge := hg.2.2.1 ex hex
  rw [hex] at e3 hl
  obtain ⟨qe, rfl, hxe⟩ := e3
  simp only [Px.szO] at hl
  obtain ⟨d0_0, d0_1, d0_2, d0_3, d0_4, d0_5, d0_6, d0_7, d0_8, d0_9, d0_10, d0_f⟩ := cells11 hv
  have CQ : Hid (∀ W, Below b w W → W.heap[q]? = some (.cells (smCells x (ptr qe) v1 v2) 106)) := fun W hW => by rw [hW.block q hqb]; exact hv
  have hwl : x.word.data.toList.length = x.word.size := rfl
  have s1 := Px.sgn_len o [108, 101, 116]
  have s2 := Px.sgn_len (Px.sgn o [108, 101, 116]) x.word.data.toList
  have s3 := Px.sgn_len (Px.sgn (Px.sgn o [108, 101, 116]) x.word.data.toList) [61]
  have s4 := Px.wrE_len ex (Px.sgn (Px.sgn (Px.sgn o [108, 101, 116]) x.word.data.toList) [61])
  have s5 := Px.sgn_len (Px.wrE ex (Px.sgn (Px.sgn (Px.sgn o [108, 101, 116]) x.word.data.toList) [61])) [59]
  simp only [List.length_cons, List.length_nil] at *
  have C1 : Hid (∀ W, OutAt W b o → Calls Tryz.prog 36 #[.pointer (some ⟨b, 0, none⟩), .string ⟨#[108, 101, 116]⟩] W (OPost b W (Px.sgn o [108, 101, 116]))) := fun W hO => outSign b _ ⟨#[108, 101, 116]⟩ W hO (by decide) (by show _ + 3 ≤ _; omega)
  have C2 : Hid (∀ W, OutAt W b (Px.sgn o [108, 101, 116]) → Calls Tryz.prog 36 #[.pointer (some ⟨b, 0, none⟩), .string x.word] W (OPost b W (Px.sgn (Px.sgn o [108, 101, 116]) x.word.data.toList))) := fun W hO => outSign b _ x.word W hO (hg.1 (Or.inl hop)) (by show _ + x.word.size ≤ _; omega)
  have C3 : Hid (∀ W, OutAt W b (Px.sgn (Px.sgn o [108, 101, 116]) x.word.data.toList) → Calls Tryz.prog 36 #[.pointer (some ⟨b, 0, none⟩), .string ⟨#[61]⟩] W (OPost b W (Px.sgn (Px.sgn (Px.sgn o [108, 101, 116]) x.word.data.toList) [61]))) := fun W hO => outSign b _ ⟨#[61]⟩ W hO (by decide) (by show _ + 1 ≤ _; omega)
  have C4 : Hid (∀ W, Below b w W → OutAt W b (Px.sgn (Px.sgn (Px.sgn o [108, 101, 116]) x.word.data.toList) [61]) → Calls Tryz.prog 37 #[.pointer (some ⟨b, 0, none⟩), .pointer (some ⟨qe, 0, none⟩), .int .i64 0] W (OPost b W (Px.wrE ex (Px.sgn (Px.sgn (Px.sgn o [108, 101, 116]) x.word.data.toList) [61])))) := fun W hW hO => outE0 b ex hwe W _ ok qe (hxe.keep fun i hi => hW.block i (hok i hi)) hok hO hge (by omega)
  have C5 : Hid (∀ W, OutAt W b (Px.wrE ex (Px.sgn (Px.sgn (Px.sgn o [108, 101, 116]) x.word.data.toList) [61])) → Calls Tryz.prog 36 #[.pointer (some ⟨b, 0, none⟩), .string ⟨#[59]⟩] W (OPost b W (Px.sgn (Px.wrE ex (Px.sgn (Px.sgn (Px.sgn o [108, 101, 116]) x.word.data.toList) [61])) [59]))) := fun W hO => outSign b _ ⟨#[59]⟩ W hO (by decide) (by show _ + 1 ≤ _; omega)
  have L0 : Hid (OutAt w b o ∧ Below b w w) := ⟨h, Below.refl _ _⟩
  have EQ : Hid (Px.wrX x o = Px.sgn (Px.wrE ex (Px.sgn (Px.sgn (Px.sgn o [108, 101, 116]) x.word.data.toList) [61])) [59]) := by unfold Hid; rw [Px.wrX_eq, if_pos hop, hex]; rfl
  rw [hop] at d0_0
  clear h hok hg hw hl hv e4 e5 e6 e7 hxe hge hwe s1 s2 s3 s4 s5
  unfold ptr at *
  go_enter Tryz.func22, Tryz.ntmps22
  go_wp2_with fail
  refine (C1.out _ L0.out.1).mono ?_
  rintro e w1 ⟨rfl, o1, b1⟩
  have L1 : Hid (OutAt w1 b (Px.sgn o [108, 101, 116]) ∧ Below b w w1) := ⟨o1, L0.out.2.trans b1⟩
  obtain ⟨d1_0, d1_1, d1_2, d1_3, d1_4, d1_5, d1_6, d1_7, d1_8, d1_9, d1_10, d1_f⟩ := cells11 (CQ.out w1 L1.out.2)
  clear d0_0 d0_1 d0_2 d0_3 d0_4 d0_5 d0_6 d0_7 d0_8 d0_9 d0_10 d0_f o1 b1
  go_wp2_with fail
  refine (C2.out _ L1.out.1).mono ?_
  rintro e w2 ⟨rfl, o2, b2⟩
  have L2 : Hid (OutAt w2 b (Px.sgn (Px.sgn o [108, 101, 116]) x.word.data.toList) ∧ Below b w w2) := ⟨o2, L1.out.2.trans b2⟩
  obtain ⟨d2_0, d2_1, d2_2, d2_3, d2_4, d2_5, d2_6, d2_7, d2_8, d2_9, d2_10, d2_f⟩ := cells11 (CQ.out w2 L2.out.2)
  clear d1_0 d1_1 d1_2 d1_3 d1_4 d1_5 d1_6 d1_7 d1_8 d1_9 d1_10 d1_f o2 b2
  go_wp2_with fail
  refine (C3.out _ L2.out.1).mono ?_
  rintro e w3 ⟨rfl, o3, b3⟩
  have L3 : Hid (OutAt w3 b (Px.sgn (Px.sgn (Px.sgn o [108, 101, 116]) x.word.data.toList) [61]) ∧ Below b w w3) := ⟨o3, L2.out.2.trans b3⟩
  obtain ⟨d3_0, d3_1, d3_2, d3_3, d3_4, d3_5, d3_6, d3_7, d3_8, d3_9, d3_10, d3_f⟩ := cells11 (CQ.out w3 L3.out.2)
  clear d2_0 d2_1 d2_2 d2_3 d2_4 d2_5 d2_6 d2_7 d2_8 d2_9 d2_10 d2_f o3 b3
  go_wp2_with fail
  refine (C4.out _ L3.out.2 L3.out.1).mono ?_
  rintro e w4 ⟨rfl, o4, b4⟩
  have L4 : Hid (OutAt w4 b (Px.wrE ex (Px.sgn (Px.sgn (Px.sgn o [108, 101, 116]) x.word.data.toList) [61])) ∧ Below b w w4) := ⟨o4, L3.out.2.trans b4⟩
  obtain ⟨d4_0, d4_1, d4_2, d4_3, d4_4, d4_5, d4_6, d4_7, d4_8, d4_9, d4_10, d4_f⟩ := cells11 (CQ.out w4 L4.out.2)
  clear d3_0 d3_1 d3_2 d3_3 d3_4 d3_5 d3_6 d3_7 d3_8 d3_9 d3_10 d3_f o4 b4
  go_wp2_with fail
  refine (C5.out _ L4.out.1).mono ?_
  rintro e w5 ⟨rfl, o5, b5⟩
  have L5 : Hid (OutAt w5 b (Px.sgn (Px.wrE ex (Px.sgn (Px.sgn (Px.sgn o [108, 101, 116]) x.word.data.toList) [61])) [59]) ∧ Below b w w5) := ⟨o5, L4.out.2.trans b5⟩
  obtain ⟨d5_0, d5_1, d5_2, d5_3, d5_4, d5_5, d5_6, d5_7, d5_8, d5_9, d5_10, d5_f⟩ := cells11 (CQ.out w5 L5.out.2)
  clear d4_0 d4_1 d4_2 d4_3 d4_4 d4_5 d4_6 d4_7 d4_8 d4_9 d4_10 d4_f o5 b5
  go_wp2_with fail
  go_end0
  rw [EQ.out]
  exact ⟨rfl, L5.out.1, L5.out.2⟩

set_option maxRecDepth 100000 in
set_option maxHeartbeats 8000000 in
theorem outX_try (b : Nat) (x : Px.Sm) (hop : x.op = 116) (i1 : OutS b x.one) (i2 : OutS b x.two) : OutX b x := by
  intro w o ok q hx hok h hw hg hl
  obtain ⟨hq, ve, v1, v2, q1, q2, hv, e3, e4, e5, e6, e7⟩ := hx
  have hqb := hok q hq
  unfold Px.szX at hl
  obtain ⟨a1, n1, k1, rfl⟩ : ∃ a n c, v1 = .slice a n c := by obtain ⟨a, c', h, _⟩ := e4.len; exact ⟨_, _, _, h⟩
  obtain ⟨a2, n2, k2, rfl⟩ : ∃ a n c, v2 = .slice a n c := by obtain ⟨a, c', h, _⟩ := e6.len; exact ⟨_, _, _, h⟩
  obtain ⟨d0_0, d0_1, d0_2, d0_3, d0_4, d0_5, d0_6, d0_7, d0_8, d0_9, d0_10, d0_f⟩ := cells11 hv
  have CQ : Hid (∀ W, Below b w W → W.heap[q]? = some (.cells (smCells x ve (.slice a1 n1 k1) (.slice a2 n2 k2)) 106)) := fun W hW => by rw [hW.block q hqb]; exact hv
  have hwl : x.word.data.toList.length = x.word.size := rfl
  have s1 := Px.sgn_len o [116, 114, 121]
  have s2 := Px.wrB_len (Px.wrS_len x.one) (Px.sgn o [116, 114, 121])
  have s3 := Px.sgn_len (Px.wrB x.one (Px.sgn o [116, 114, 121])) [101, 108, 115, 101]
  have s4 := Px.wrB_len (Px.wrS_len x.two) (Px.sgn (Px.wrB x.one (Px.sgn o [116, 114, 121])) [101, 108, 115, 101])
  simp only [List.length_cons, List.length_nil] at *
  have C1 : Hid (∀ W, OutAt W b o → Calls Tryz.prog 36 #[.pointer (some ⟨b, 0, none⟩), .string ⟨#[116, 114, 121]⟩] W (OPost b W (Px.sgn o [116, 114, 121]))) := fun W hO => outSign b _ ⟨#[116, 114, 121]⟩ W hO (by decide) (by show _ + 3 ≤ _; omega)
  have C2 : Hid (∀ W, Below b w W → OutAt W b (Px.sgn o [116, 114, 121]) → Calls Tryz.prog 39 #[.pointer (some ⟨b, 0, none⟩), .slice a1 n1 k1] W (OPost b W (Px.wrB x.one (Px.sgn o [116, 114, 121])))) := fun W hW hO => outB_ok b x.one i1 W _ ok _ q1 (e4.keep fun i hi => hW.block i (hok i hi)) (e5.keep fun i hi => hW.block i (hok i hi)) hok hO (by omega)
  have C3 : Hid (∀ W, OutAt W b (Px.wrB x.one (Px.sgn o [116, 114, 121])) → Calls Tryz.prog 36 #[.pointer (some ⟨b, 0, none⟩), .string ⟨#[101, 108, 115, 101]⟩] W (OPost b W (Px.sgn (Px.wrB x.one (Px.sgn o [116, 114, 121])) [101, 108, 115, 101]))) := fun W hO => outSign b _ ⟨#[101, 108, 115, 101]⟩ W hO (by decide) (by show _ + 4 ≤ _; omega)
  have C4 : Hid (∀ W, Below b w W → OutAt W b (Px.sgn (Px.wrB x.one (Px.sgn o [116, 114, 121])) [101, 108, 115, 101]) → Calls Tryz.prog 39 #[.pointer (some ⟨b, 0, none⟩), .slice a2 n2 k2] W (OPost b W (Px.wrB x.two (Px.sgn (Px.wrB x.one (Px.sgn o [116, 114, 121])) [101, 108, 115, 101])))) := fun W hW hO => outB_ok b x.two i2 W _ ok _ q2 (e6.keep fun i hi => hW.block i (hok i hi)) (e7.keep fun i hi => hW.block i (hok i hi)) hok hO (by omega)
  have L0 : Hid (OutAt w b o ∧ Below b w w) := ⟨h, Below.refl _ _⟩
  have EQ : Hid (Px.wrX x o = Px.wrB x.two (Px.sgn (Px.wrB x.one (Px.sgn o [116, 114, 121])) [101, 108, 115, 101])) := by unfold Hid; rw [Px.wrX_eq, if_neg (by omega), if_neg (by omega), if_neg (by omega), if_pos hop]
  rw [hop] at d0_0
  clear h hok hg hw hl hv e4 e5 e6 e7 e3 s1 s2 s3 s4
  go_enter Tryz.func22, Tryz.ntmps22
  go_wp2_with fail
  refine (C1.out _ L0.out.1).mono ?_
  rintro e w1 ⟨rfl, o1, b1⟩
  have L1 : Hid (OutAt w1 b (Px.sgn o [116, 114, 121]) ∧ Below b w w1) := ⟨o1, L0.out.2.trans b1⟩
  obtain ⟨d1_0, d1_1, d1_2, d1_3, d1_4, d1_5, d1_6, d1_7, d1_8, d1_9, d1_10, d1_f⟩ := cells11 (CQ.out w1 L1.out.2)
  clear d0_0 d0_1 d0_2 d0_3 d0_4 d0_5 d0_6 d0_7 d0_8 d0_9 d0_10 d0_f o1 b1
  go_wp2_with fail
  refine (C2.out _ L1.out.2 L1.out.1).mono ?_
  rintro e w2 ⟨rfl, o2, b2⟩
  have L2 : Hid (OutAt w2 b (Px.wrB x.one (Px.sgn o [116, 114, 121])) ∧ Below b w w2) := ⟨o2, L1.out.2.trans b2⟩
  obtain ⟨d2_0, d2_1, d2_2, d2_3, d2_4, d2_5, d2_6, d2_7, d2_8, d2_9, d2_10, d2_f⟩ := cells11 (CQ.out w2 L2.out.2)
  clear d1_0 d1_1 d1_2 d1_3 d1_4 d1_5 d1_6 d1_7 d1_8 d1_9 d1_10 d1_f o2 b2
  go_wp2_with fail
  refine (C3.out _ L2.out.1).mono ?_
  rintro e w3 ⟨rfl, o3, b3⟩
  have L3 : Hid (OutAt w3 b (Px.sgn (Px.wrB x.one (Px.sgn o [116, 114, 121])) [101, 108, 115, 101]) ∧ Below b w w3) := ⟨o3, L2.out.2.trans b3⟩
  obtain ⟨d3_0, d3_1, d3_2, d3_3, d3_4, d3_5, d3_6, d3_7, d3_8, d3_9, d3_10, d3_f⟩ := cells11 (CQ.out w3 L3.out.2)
  clear d2_0 d2_1 d2_2 d2_3 d2_4 d2_5 d2_6 d2_7 d2_8 d2_9 d2_10 d2_f o3 b3
  go_wp2_with fail
  refine (C4.out _ L3.out.2 L3.out.1).mono ?_
  rintro e w4 ⟨rfl, o4, b4⟩
  have L4 : Hid (OutAt w4 b (Px.wrB x.two (Px.sgn (Px.wrB x.one (Px.sgn o [116, 114, 121])) [101, 108, 115, 101])) ∧ Below b w w4) := ⟨o4, L3.out.2.trans b4⟩
  obtain ⟨d4_0, d4_1, d4_2, d4_3, d4_4, d4_5, d4_6, d4_7, d4_8, d4_9, d4_10, d4_f⟩ := cells11 (CQ.out w4 L4.out.2)
  clear d3_0 d3_1 d3_2 d3_3 d3_4 d3_5 d3_6 d3_7 d3_8 d3_9 d3_10 d3_f o4 b4
  go_wp2_with fail
  go_end0
  rw [EQ.out]
  exact ⟨rfl, L4.out.1, L4.out.2⟩

set_option maxRecDepth 100000 in
set_option maxHeartbeats 8000000 in
theorem outX_rep (b : Nat) (x : Px.Sm) (hop : x.op = 114) (i1 : OutS b x.one) : OutX b x := by
  intro w o ok q hx hok h hw hg hl
  obtain ⟨hq, ve, v1, v2, q1, q2, hv, e3, e4, e5, e6, e7⟩ := hx
  have hqb := hok q hq
  unfold Px.szX at hl
  obtain ⟨a1, n1, k1, rfl⟩ : ∃ a n c, v1 = .slice a n c := by obtain ⟨a, c', h, _⟩ := e4.len; exact ⟨_, _, _, h⟩
  obtain ⟨d0_0, d0_1, d0_2, d0_3, d0_4, d0_5, d0_6, d0_7, d0_8, d0_9, d0_10, d0_f⟩ := cells11 hv
  have CQ : Hid (∀ W, Below b w W → W.heap[q]? = some (.cells (smCells x ve (.slice a1 n1 k1) v2) 106)) := fun W hW => by rw [hW.block q hqb]; exact hv
  have hwl : x.word.data.toList.length = x.word.size := rfl
  have s1 := Px.sgn_len o [114, 101, 112, 101, 97, 116]
  have s2 := Px.sgn_len (Px.sgn o [114, 101, 112, 101, 97, 116]) (Px.dec x.n)
  have s3 := Px.dec_len x.n
  have s4 := dec_pos x.n
  have s5 := Px.wrB_len (Px.wrS_len x.one) (Px.sgn (Px.sgn o [114, 101, 112, 101, 97, 116]) (Px.dec x.n))
  simp only [List.length_cons, List.length_nil] at *
  have C1 : Hid (∀ W, OutAt W b o → Calls Tryz.prog 36 #[.pointer (some ⟨b, 0, none⟩), .string ⟨#[114, 101, 112, 101, 97, 116]⟩] W (OPost b W (Px.sgn o [114, 101, 112, 101, 97, 116]))) := fun W hO => outSign b _ ⟨#[114, 101, 112, 101, 97, 116]⟩ W hO (by decide) (by show _ + 6 ≤ _; omega)
  have C2 : Hid (∀ W, Calls Tryz.prog 40 #[.int .i64 (x.n : Int)] W (DecPost x.n W)) := dec_any x.n hg.2.1
  have C3 : Hid (∀ W (S : ByteArray), S.data.toList = Px.dec x.n → OutAt W b (Px.sgn o [114, 101, 112, 101, 97, 116]) → Calls Tryz.prog 36 #[.pointer (some ⟨b, 0, none⟩), .string S] W (OPost b W (Px.sgn (Px.sgn o [114, 101, 112, 101, 97, 116]) (Px.dec x.n)))) := fun W S hS hO => by
    have hz : S.size = (Px.dec x.n).length := by rw [← hS]; rfl
    rw [← hS]
    exact outSign b _ S W hO (by omega) (by omega)
  have C4 : Hid (∀ W, Below b w W → OutAt W b (Px.sgn (Px.sgn o [114, 101, 112, 101, 97, 116]) (Px.dec x.n)) → Calls Tryz.prog 39 #[.pointer (some ⟨b, 0, none⟩), .slice a1 n1 k1] W (OPost b W (Px.wrB x.one (Px.sgn (Px.sgn o [114, 101, 112, 101, 97, 116]) (Px.dec x.n))))) := fun W hW hO => outB_ok b x.one i1 W _ ok _ q1 (e4.keep fun i hi => hW.block i (hok i hi)) (e5.keep fun i hi => hW.block i (hok i hi)) hok hO (by omega)
  have L0 : Hid (OutAt w b o ∧ Below b w w) := ⟨h, Below.refl _ _⟩
  have EQ : Hid (Px.wrX x o = Px.wrB x.one (Px.sgn (Px.sgn o [114, 101, 112, 101, 97, 116]) (Px.dec x.n))) := by unfold Hid; rw [Px.wrX_eq, if_neg (by omega), if_neg (by omega), if_neg (by omega), if_neg (by omega), if_pos hop]
  rw [hop] at d0_0
  clear h hok hg hw hl hv e4 e5 e6 e7 e3 s1 s2 s3 s4 s5
  go_enter Tryz.func22, Tryz.ntmps22
  go_wp2_with fail
  refine (C1.out _ L0.out.1).mono ?_
  rintro e w1 ⟨rfl, o1, b1⟩
  have L1 : Hid (OutAt w1 b (Px.sgn o [114, 101, 112, 101, 97, 116]) ∧ Below b w w1) := ⟨o1, L0.out.2.trans b1⟩
  obtain ⟨d1_0, d1_1, d1_2, d1_3, d1_4, d1_5, d1_6, d1_7, d1_8, d1_9, d1_10, d1_f⟩ := cells11 (CQ.out w1 L1.out.2)
  clear d0_0 d0_1 d0_2 d0_3 d0_4 d0_5 d0_6 d0_7 d0_8 d0_9 d0_10 d0_f o1 b1
  go_wp2_with fail
  refine (C2.out _).mono ?_
  rintro e w3 ⟨S3, rfl, hS3, b3⟩
  have L3 : Hid (OutAt w3 b (Px.sgn o [114, 101, 112, 101, 97, 116]) ∧ Below b w w3) := ⟨L1.out.1.old b3, L1.out.2.trans (b3.mono (Nat.le_of_lt L1.out.1.lt))⟩
  have T3 : Hid (S3.data.toList = Px.dec x.n) := hS3
  obtain ⟨d3_0, d3_1, d3_2, d3_3, d3_4, d3_5, d3_6, d3_7, d3_8, d3_9, d3_10, d3_f⟩ := cells11 (CQ.out w3 L3.out.2)
  clear d1_0 d1_1 d1_2 d1_3 d1_4 d1_5 d1_6 d1_7 d1_8 d1_9 d1_10 d1_f hS3 b3
  go_wp2_with fail
  refine (C3.out _ S3 T3.out L3.out.1).mono ?_
  rintro e w2 ⟨rfl, o2, b2⟩
  have L2 : Hid (OutAt w2 b (Px.sgn (Px.sgn o [114, 101, 112, 101, 97, 116]) (Px.dec x.n)) ∧ Below b w w2) := ⟨o2, L3.out.2.trans b2⟩
  obtain ⟨d2_0, d2_1, d2_2, d2_3, d2_4, d2_5, d2_6, d2_7, d2_8, d2_9, d2_10, d2_f⟩ := cells11 (CQ.out w2 L2.out.2)
  clear d3_0 d3_1 d3_2 d3_3 d3_4 d3_5 d3_6 d3_7 d3_8 d3_9 d3_10 d3_f o2 b2
  go_wp2_with fail
  refine (C4.out _ L2.out.2 L2.out.1).mono ?_
  rintro e w4 ⟨rfl, o4, b4⟩
  have L4 : Hid (OutAt w4 b (Px.wrB x.one (Px.sgn (Px.sgn o [114, 101, 112, 101, 97, 116]) (Px.dec x.n))) ∧ Below b w w4) := ⟨o4, L2.out.2.trans b4⟩
  obtain ⟨d4_0, d4_1, d4_2, d4_3, d4_4, d4_5, d4_6, d4_7, d4_8, d4_9, d4_10, d4_f⟩ := cells11 (CQ.out w4 L4.out.2)
  clear d2_0 d2_1 d2_2 d2_3 d2_4 d2_5 d2_6 d2_7 d2_8 d2_9 d2_10 d2_f o4 b4
  go_wp2_with fail
  go_end0
  rw [EQ.out]
  exact ⟨rfl, L4.out.1, L4.out.2⟩

set_option maxRecDepth 100000 in
set_option maxHeartbeats 8000000 in
theorem outX_if1 (b : Nat) (x : Px.Sm) (hop : x.op = 105) (h2 : x.two = []) (i1 : OutS b x.one) : OutX b x := by
  intro w o ok q hx hok h hw hg hl
  obtain ⟨hq, ve, v1, v2, q1, q2, hv, e3, e4, e5, e6, e7⟩ := hx
  have hqb := hok q hq
  unfold Px.szX at hl
  obtain ⟨ex, hex⟩ : ∃ ex, x.ex = some ex := by
    rcases hw.2 with ⟨_, h1⟩ | h1 | ⟨_, h1⟩ | h1 | h1 | h1
    all_goals first | exact Option.ne_none_iff_exists'.1 h1 | omega
  have hwe := hw.1 ex hex
  have hge := hg.2.2.1 ex hex
  rw [hex] at e3 hl
  obtain ⟨qe, rfl, hxe⟩ := e3
  simp only [Px.szO] at hl
  obtain ⟨a1, n1, k1, rfl⟩ : ∃ a n c, v1 = .slice a n c := by obtain ⟨a, c', h, _⟩ := e4.len; exact ⟨_, _, _, h⟩
  obtain ⟨a2, n2, k2, rfl⟩ : ∃ a n c, v2 = .slice a n c := by obtain ⟨a, c', h, _⟩ := e6.len; exact ⟨_, _, _, h⟩
  obtain ⟨d0_0, d0_1, d0_2, d0_3, d0_4, d0_5, d0_6, d0_7, d0_8, d0_9, d0_10, d0_f⟩ := cells11 hv
  have CQ : Hid (∀ W, Below b w W → W.heap[q]? = some (.cells (smCells x (ptr qe) (.slice a1 n1 k1) (.slice a2 n2 k2)) 106)) := fun W hW => by rw [hW.block q hqb]; exact hv
  have hwl : x.word.data.toList.length = x.word.size := rfl
  have s1 := Px.sgn_len o [105, 102]
  have s2 := Px.wrE_len ex (Px.sgn o [105, 102])
  have s3 := Px.wrB_len (Px.wrS_len x.one) (Px.wrE ex (Px.sgn o [105, 102]))
  simp only [List.length_cons, List.length_nil] at *
  have C1 : Hid (∀ W, OutAt W b o → Calls Tryz.prog 36 #[.pointer (some ⟨b, 0, none⟩), .string ⟨#[105, 102]⟩] W (OPost b W (Px.sgn o [105, 102]))) := fun W hO => outSign b _ ⟨#[105, 102]⟩ W hO (by decide) (by show _ + 2 ≤ _; omega)
  have C2 : Hid (∀ W, Below b w W → OutAt W b (Px.sgn o [105, 102]) → Calls Tryz.prog 37 #[.pointer (some ⟨b, 0, none⟩), .pointer (some ⟨qe, 0, none⟩), .int .i64 0] W (OPost b W (Px.wrE ex (Px.sgn o [105, 102])))) := fun W hW hO => outE0 b ex hwe W _ ok qe (hxe.keep fun i hi => hW.block i (hok i hi)) hok hO hge (by omega)
  have C3 : Hid (∀ W, Below b w W → OutAt W b (Px.wrE ex (Px.sgn o [105, 102])) → Calls Tryz.prog 39 #[.pointer (some ⟨b, 0, none⟩), .slice a1 n1 k1] W (OPost b W (Px.wrB x.one (Px.wrE ex (Px.sgn o [105, 102]))))) := fun W hW hO => outB_ok b x.one i1 W _ ok _ q1 (e4.keep fun i hi => hW.block i (hok i hi)) (e5.keep fun i hi => hW.block i (hok i hi)) hok hO (by omega)
  have L0 : Hid (OutAt w b o ∧ Below b w w) := ⟨h, Below.refl _ _⟩
  have EQ : Hid (Px.wrX x o = Px.wrB x.one (Px.wrE ex (Px.sgn o [105, 102]))) := by unfold Hid; rw [Px.wrX_eq, if_neg (by omega), if_neg (by omega), if_pos hop, hex, h2]; rfl
  have hn2 : n2 = 0 := by
    obtain ⟨a, c', h3, _⟩ := e6.len
    rw [h2] at e7
    cases SmsAt.nil_iff.1 e7
    cases h3
    rfl
  subst hn2
  rw [hop] at d0_0
  clear h hok hg hw hl hv e4 e5 e6 e7 hxe hge hwe s1 s2 s3
  unfold ptr at *
  go_enter Tryz.func22, Tryz.ntmps22
  go_wp2_with fail
  refine (C1.out _ L0.out.1).mono ?_
  rintro e w1 ⟨rfl, o1, b1⟩
  have L1 : Hid (OutAt w1 b (Px.sgn o [105, 102]) ∧ Below b w w1) := ⟨o1, L0.out.2.trans b1⟩
  obtain ⟨d1_0, d1_1, d1_2, d1_3, d1_4, d1_5, d1_6, d1_7, d1_8, d1_9, d1_10, d1_f⟩ := cells11 (CQ.out w1 L1.out.2)
  clear d0_0 d0_1 d0_2 d0_3 d0_4 d0_5 d0_6 d0_7 d0_8 d0_9 d0_10 d0_f o1 b1
  go_wp2_with fail
  refine (C2.out _ L1.out.2 L1.out.1).mono ?_
  rintro e w2 ⟨rfl, o2, b2⟩
  have L2 : Hid (OutAt w2 b (Px.wrE ex (Px.sgn o [105, 102])) ∧ Below b w w2) := ⟨o2, L1.out.2.trans b2⟩
  obtain ⟨d2_0, d2_1, d2_2, d2_3, d2_4, d2_5, d2_6, d2_7, d2_8, d2_9, d2_10, d2_f⟩ := cells11 (CQ.out w2 L2.out.2)
  clear d1_0 d1_1 d1_2 d1_3 d1_4 d1_5 d1_6 d1_7 d1_8 d1_9 d1_10 d1_f o2 b2
  go_wp2_with fail
  refine (C3.out _ L2.out.2 L2.out.1).mono ?_
  rintro e w3 ⟨rfl, o3, b3⟩
  have L3 : Hid (OutAt w3 b (Px.wrB x.one (Px.wrE ex (Px.sgn o [105, 102]))) ∧ Below b w w3) := ⟨o3, L2.out.2.trans b3⟩
  obtain ⟨d3_0, d3_1, d3_2, d3_3, d3_4, d3_5, d3_6, d3_7, d3_8, d3_9, d3_10, d3_f⟩ := cells11 (CQ.out w3 L3.out.2)
  clear d2_0 d2_1 d2_2 d2_3 d2_4 d2_5 d2_6 d2_7 d2_8 d2_9 d2_10 d2_f o3 b3
  go_wp2_with fail
  go_end0
  rw [EQ.out]
  exact ⟨rfl, L3.out.1, L3.out.2⟩

set_option maxRecDepth 100000 in
set_option maxHeartbeats 8000000 in
theorem outX_if2 (b : Nat) (x : Px.Sm) (hop : x.op = 105) (h2 : x.two ≠ []) (i1 : OutS b x.one) (i2 : OutS b x.two) : OutX b x := by
  intro w o ok q hx hok h hw hg hl
  obtain ⟨hq, ve, v1, v2, q1, q2, hv, e3, e4, e5, e6, e7⟩ := hx
  have hqb := hok q hq
  unfold Px.szX at hl
  obtain ⟨ex, hex⟩ : ∃ ex, x.ex = some ex := by
    rcases hw.2 with ⟨_, h1⟩ | h1 | ⟨_, h1⟩ | h1 | h1 | h1
    all_goals first | exact Option.ne_none_iff_exists'.1 h1 | omega
  have hwe := hw.1 ex hex
  have hge := hg.2.2.1 ex hex
  rw [hex] at e3 hl
  obtain ⟨qe, rfl, hxe⟩ := e3
  simp only [Px.szO] at hl
  obtain ⟨a1, n1, k1, rfl⟩ : ∃ a n c, v1 = .slice a n c := by obtain ⟨a, c', h, _⟩ := e4.len; exact ⟨_, _, _, h⟩
  obtain ⟨a2, n2, k2, rfl⟩ : ∃ a n c, v2 = .slice a n c := by obtain ⟨a, c', h, _⟩ := e6.len; exact ⟨_, _, _, h⟩
  obtain ⟨d0_0, d0_1, d0_2, d0_3, d0_4, d0_5, d0_6, d0_7, d0_8, d0_9, d0_10, d0_f⟩ := cells11 hv
  have CQ : Hid (∀ W, Below b w W → W.heap[q]? = some (.cells (smCells x (ptr qe) (.slice a1 n1 k1) (.slice a2 n2 k2)) 106)) := fun W hW => by rw [hW.block q hqb]; exact hv
  have hwl : x.word.data.toList.length = x.word.size := rfl
  have s1 := Px.sgn_len o [105, 102]
  have s2 := Px.wrE_len ex (Px.sgn o [105, 102])
  have s3 := Px.wrB_len (Px.wrS_len x.one) (Px.wrE ex (Px.sgn o [105, 102]))
  have s4 := Px.sgn_len (Px.wrB x.one (Px.wrE ex (Px.sgn o [105, 102]))) [101, 108, 115, 101]
  have s5 := Px.wrB_len (Px.wrS_len x.two) (Px.sgn (Px.wrB x.one (Px.wrE ex (Px.sgn o [105, 102]))) [101, 108, 115, 101])
  simp only [List.length_cons, List.length_nil] at *
  have C1 : Hid (∀ W, OutAt W b o → Calls Tryz.prog 36 #[.pointer (some ⟨b, 0, none⟩), .string ⟨#[105, 102]⟩] W (OPost b W (Px.sgn o [105, 102]))) := fun W hO => outSign b _ ⟨#[105, 102]⟩ W hO (by decide) (by show _ + 2 ≤ _; omega)
  have C2 : Hid (∀ W, Below b w W → OutAt W b (Px.sgn o [105, 102]) → Calls Tryz.prog 37 #[.pointer (some ⟨b, 0, none⟩), .pointer (some ⟨qe, 0, none⟩), .int .i64 0] W (OPost b W (Px.wrE ex (Px.sgn o [105, 102])))) := fun W hW hO => outE0 b ex hwe W _ ok qe (hxe.keep fun i hi => hW.block i (hok i hi)) hok hO hge (by omega)
  have C3 : Hid (∀ W, Below b w W → OutAt W b (Px.wrE ex (Px.sgn o [105, 102])) → Calls Tryz.prog 39 #[.pointer (some ⟨b, 0, none⟩), .slice a1 n1 k1] W (OPost b W (Px.wrB x.one (Px.wrE ex (Px.sgn o [105, 102]))))) := fun W hW hO => outB_ok b x.one i1 W _ ok _ q1 (e4.keep fun i hi => hW.block i (hok i hi)) (e5.keep fun i hi => hW.block i (hok i hi)) hok hO (by omega)
  have C4 : Hid (∀ W, OutAt W b (Px.wrB x.one (Px.wrE ex (Px.sgn o [105, 102]))) → Calls Tryz.prog 36 #[.pointer (some ⟨b, 0, none⟩), .string ⟨#[101, 108, 115, 101]⟩] W (OPost b W (Px.sgn (Px.wrB x.one (Px.wrE ex (Px.sgn o [105, 102]))) [101, 108, 115, 101]))) := fun W hO => outSign b _ ⟨#[101, 108, 115, 101]⟩ W hO (by decide) (by show _ + 4 ≤ _; omega)
  have C5 : Hid (∀ W, Below b w W → OutAt W b (Px.sgn (Px.wrB x.one (Px.wrE ex (Px.sgn o [105, 102]))) [101, 108, 115, 101]) → Calls Tryz.prog 39 #[.pointer (some ⟨b, 0, none⟩), .slice a2 n2 k2] W (OPost b W (Px.wrB x.two (Px.sgn (Px.wrB x.one (Px.wrE ex (Px.sgn o [105, 102]))) [101, 108, 115, 101])))) := fun W hW hO => outB_ok b x.two i2 W _ ok _ q2 (e6.keep fun i hi => hW.block i (hok i hi)) (e7.keep fun i hi => hW.block i (hok i hi)) hok hO (by omega)
  have L0 : Hid (OutAt w b o ∧ Below b w w) := ⟨h, Below.refl _ _⟩
  have EQ : Hid (Px.wrX x o = Px.wrB x.two (Px.sgn (Px.wrB x.one (Px.wrE ex (Px.sgn o [105, 102]))) [101, 108, 115, 101])) := by unfold Hid; rw [Px.wrX_eq, if_neg (by omega), if_neg (by omega), if_pos hop, hex, if_neg (by simpa using h2)]; rfl
  have hn2 : (0 : Int) < n2 := by
    obtain ⟨a, c', h3, _⟩ := e6.len
    have h4 := e7.len
    have h5 : 0 < x.two.length := List.length_pos_iff.2 h2
    cases h3
    omega
  rw [hop] at d0_0
  clear h hok hg hw hl hv e4 e5 e6 e7 hxe hge hwe s1 s2 s3 s4 s5
  unfold ptr at *
  go_enter Tryz.func22, Tryz.ntmps22
  go_wp2_with fail
  refine (C1.out _ L0.out.1).mono ?_
  rintro e w1 ⟨rfl, o1, b1⟩
  have L1 : Hid (OutAt w1 b (Px.sgn o [105, 102]) ∧ Below b w w1) := ⟨o1, L0.out.2.trans b1⟩
  obtain ⟨d1_0, d1_1, d1_2, d1_3, d1_4, d1_5, d1_6, d1_7, d1_8, d1_9, d1_10, d1_f⟩ := cells11 (CQ.out w1 L1.out.2)
  clear d0_0 d0_1 d0_2 d0_3 d0_4 d0_5 d0_6 d0_7 d0_8 d0_9 d0_10 d0_f o1 b1
  go_wp2_with fail
  refine (C2.out _ L1.out.2 L1.out.1).mono ?_
  rintro e w2 ⟨rfl, o2, b2⟩
  have L2 : Hid (OutAt w2 b (Px.wrE ex (Px.sgn o [105, 102])) ∧ Below b w w2) := ⟨o2, L1.out.2.trans b2⟩
  obtain ⟨d2_0, d2_1, d2_2, d2_3, d2_4, d2_5, d2_6, d2_7, d2_8, d2_9, d2_10, d2_f⟩ := cells11 (CQ.out w2 L2.out.2)
  clear d1_0 d1_1 d1_2 d1_3 d1_4 d1_5 d1_6 d1_7 d1_8 d1_9 d1_10 d1_f o2 b2
  go_wp2_with fail
  refine (C3.out _ L2.out.2 L2.out.1).mono ?_
  rintro e w3 ⟨rfl, o3, b3⟩
  have L3 : Hid (OutAt w3 b (Px.wrB x.one (Px.wrE ex (Px.sgn o [105, 102]))) ∧ Below b w w3) := ⟨o3, L2.out.2.trans b3⟩
  obtain ⟨d3_0, d3_1, d3_2, d3_3, d3_4, d3_5, d3_6, d3_7, d3_8, d3_9, d3_10, d3_f⟩ := cells11 (CQ.out w3 L3.out.2)
  clear d2_0 d2_1 d2_2 d2_3 d2_4 d2_5 d2_6 d2_7 d2_8 d2_9 d2_10 d2_f o3 b3
  go_wp2_with fail
  refine (C4.out _ L3.out.1).mono ?_
  rintro e w4 ⟨rfl, o4, b4⟩
  have L4 : Hid (OutAt w4 b (Px.sgn (Px.wrB x.one (Px.wrE ex (Px.sgn o [105, 102]))) [101, 108, 115, 101]) ∧ Below b w w4) := ⟨o4, L3.out.2.trans b4⟩
  obtain ⟨d4_0, d4_1, d4_2, d4_3, d4_4, d4_5, d4_6, d4_7, d4_8, d4_9, d4_10, d4_f⟩ := cells11 (CQ.out w4 L4.out.2)
  clear d3_0 d3_1 d3_2 d3_3 d3_4 d3_5 d3_6 d3_7 d3_8 d3_9 d3_10 d3_f o4 b4
  go_wp2_with fail
  refine (C5.out _ L4.out.2 L4.out.1).mono ?_
  rintro e w5 ⟨rfl, o5, b5⟩
  have L5 : Hid (OutAt w5 b (Px.wrB x.two (Px.sgn (Px.wrB x.one (Px.wrE ex (Px.sgn o [105, 102]))) [101, 108, 115, 101])) ∧ Below b w w5) := ⟨o5, L4.out.2.trans b5⟩
  obtain ⟨d5_0, d5_1, d5_2, d5_3, d5_4, d5_5, d5_6, d5_7, d5_8, d5_9, d5_10, d5_f⟩ := cells11 (CQ.out w5 L5.out.2)
  clear d4_0 d4_1 d4_2 d4_3 d4_4 d4_5 d4_6 d4_7 d4_8 d4_9 d4_10 d4_f o5 b5
  go_wp2_with fail
  go_end0
  rw [EQ.out]
  exact ⟨rfl, L5.out.1, L5.out.2⟩

end Ref
end Go.Proofs.YtcogbbneodihkaaGreatDoor
