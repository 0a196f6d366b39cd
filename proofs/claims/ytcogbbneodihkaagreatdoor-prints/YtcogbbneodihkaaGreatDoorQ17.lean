import Derived.Test.YtcogbbneodihkaaGreatDoorP16
import Derived.Test.YtcogbbneodihkaaGreatDoorP06
import Derived.Deep.DeepCutAuto
import Derived.Test.YtcogbbneodihkaaGreatDoorP09
import Derived.Test.YtcogbbneodihkaaGreatDoorP15
import Derived.Test.YtcogbbneodihkaaGreatDoorCards
import Derived.Test.YtcogbbneodihkaaGreatDoorTie
import Derived.ProofKit
import Derived.Deep.DeepHandedRow
namespace Go.Proofs.YtcogbbneodihkaaGreatDoor
open Go.RowKit
namespace Ref

theorem SmsAt.get {w : World} {l : List Px.Sm} {ok : Nat → Prop} {qs : List Nat} (h : SmsAt w l ok qs) (k : Nat) (hk : k < l.length) : ∃ q, qs[k]? = some q ∧ SmAt w l[k] ok q := by
  induction l generalizing qs k with
  | nil => simp at hk
  | cons x l ih =>
    obtain ⟨q, qs', rfl, h1, h2⟩ := h.uncons
    cases k with
    | zero => exact ⟨q, rfl, h1⟩
    | succ k =>
      obtain ⟨q', g1, g2⟩ := ih h2 k (by simpa using hk)
      exact ⟨q', g1, g2⟩

theorem SlAt.cell {w : World} {v : Value} {qs : List Nat} {ok : Nat → Prop} (h : SlAt w v qs ok) {k q : Nat} (hk : qs[k]? = some q) : ∃ g cap, v = .slice (some ⟨g, 0, none⟩) qs.length cap ∧ ok g ∧ w.cell? ⟨g, k, none⟩ = some (.pointer (some ⟨q, 0, none⟩)) := by
  rcases h with ⟨h1, h2⟩ | ⟨g, cap, cur, h1, h2, h3, h4, h5, h6, h7⟩
  · subst h2; simp at hk
  · refine ⟨g, cap, h1, h2, ?_⟩
    have hl : k < qs.length := (List.getElem?_eq_some_iff.1 hk).1
    have e1 : cur[k]? = (qs.map ptr)[k]? := by
      rw [← h7, List.getElem?_take_of_lt hl]; simp
    simp only [World.cell?, h3]
    rw [e1]
    simp [hk, ptr]

theorem SlAt.len {w : World} {v : Value} {qs : List Nat} {ok : Nat → Prop} (h : SlAt w v qs ok) : ∃ a c, v = .slice a qs.length c ∧ qs.length ≤ maxLen := by
  rcases h with ⟨h1, h2⟩ | ⟨g, cap, cur, h1, h2, h3, h4, h5, h6, h7⟩
  · subst h2; exact ⟨none, 0, h1, by simp⟩
  · exact ⟨_, cap, h1, by omega⟩

def LookOk (c : Nat) (x : Px.Sm) : Prop := ∀ (k : Px.Lk) (w : World) (ok : Nat → Prop) (q : Nat), SmAt w x ok q → (∀ i, ok i → i < c) → LkAt w c k → Px.WfH x → Px.WfS x.one → Px.WfS x.two → k.vars.length + 1 + Px.cnt x.one + Px.cnt x.two ≤ 1000000 →
  Calls Tryz.prog 35 #[.pointer (some ⟨c, 0, none⟩), .pointer (some ⟨q, 0, none⟩)] w fun e w' => e = .returned (.tuple #[]) ∧ LkAt w' c (Px.lookX x k) ∧ Below c w w'

def LooksOk (c : Nat) (l : List Px.Sm) : Prop := ∀ (k : Px.Lk) (w : World) (ok : Nat → Prop) (v : Value) (qs : List Nat), SlAt w v qs ok → SmsAt w l ok qs → (∀ i, ok i → i < c) → LkAt w c k → Px.WfS l → k.vars.length + Px.cnt l ≤ 1000000 →
  Calls Tryz.prog 20 #[.pointer (some ⟨c, 0, none⟩), v] w fun e w' => e = .returned (.tuple #[]) ∧ LkAt w' c (Px.lookS l k) ∧ Below c w w'

theorem WfS_get {l : List Px.Sm} (h : Px.WfS l) (k : Nat) (hk : k < l.length) : Px.WfH l[k] ∧ Px.WfS l[k].one ∧ Px.WfS l[k].two := by
  induction l generalizing k with
  | nil => simp at hk
  | cons x l ih =>
    obtain ⟨h1, h2, h3, h4⟩ := Px.WfS_cons.1 h
    cases k with
    | zero => exact ⟨h1, h2, h3⟩
    | succ k => exact ih h4 k (by simpa using hk)

theorem looks_ok (c : Nat) (l : List Px.Sm) (hx : ∀ i (hi : i < l.length), LookOk c l[i]) : LooksOk c l := by
  intro k w ok v qs hs hm hok hl hw hc
  obtain ⟨va, vc, rfl, hml⟩ := hs.len
  unfold maxLen at hml
  have hlen := hm.len
  have H : Hid (SlAt w (.slice va qs.length vc) qs ok ∧ SmsAt w l ok qs ∧ (∀ i, ok i → i < c) ∧ LkAt w c k ∧ Px.WfS l) := ⟨hs, hm, hok, hl, hw⟩
  have HX : Hid (∀ i (hi : i < l.length), LookOk c l[i]) := hx
  have HLen : Hid (qs.length = l.length) := hlen
  clear hs hm hok hl hw hx hlen
  go_enter Tryz.func20, Tryz.ntmps20
  go_wp2_with fail
  go_loopw [4] (fun i wr => ∃ n : Nat, n ≤ qs.length ∧ i = .int .i64 n ∧ Hid (Below c w wr ∧ ∃ k', LkAt wr c k' ∧ Px.lookS (l.drop n) k' = Px.lookS l k ∧ k'.vars.length + Px.cnt (l.drop n) ≤ 1000000)) (fun i _ => qs.length - (intOf i).toNat)
  case atStart => exact ⟨0, by omega, rfl, Below.refl _ _, k, H.out.2.2.2.1, rfl, hc⟩
  case round =>
    obtain ⟨n, hn, rfl, hr⟩ := hrel
    obtain ⟨hb, k', hk', he, hv⟩ := hr.out
    clear hr
    by_cases hlt : n < qs.length
    · have hnl : n < l.length := by have := HLen.out; omega
      obtain ⟨q, hq1, hq2⟩ := H.out.2.1.get n hnl
      obtain ⟨g, cap, hgv, hg, hcell⟩ := H.out.1.cell hq1
      cases hgv
      have hcr : wr.cell? ⟨g, n, none⟩ = some (.pointer (some ⟨q, 0, none⟩)) := by rw [hb.cell (p := ⟨g, n, none⟩) (H.out.2.2.1 g hg)]; exact hcell
      have hq3 : SmAt wr l[n] ok q := hq2.keep fun i hi => hb.block i (H.out.2.2.1 i hi)
      have hdrop : l.drop n = l[n] :: l.drop (n + 1) := List.drop_eq_getElem_cons hnl
      rw [hdrop, Px.lookS_cons] at he
      rw [hdrop, Px.cnt_cons] at hv
      have HH : Hid (Below c w wr ∧ LkAt wr c k' ∧ Px.lookS (l.drop (n + 1)) (Px.lookX l[n] k') = Px.lookS l k ∧ SmAt wr l[n] ok q ∧ k'.vars.length + (1 + Px.cnt l[n].one + Px.cnt l[n].two + Px.cnt (l.drop (n + 1))) ≤ 1000000) := ⟨hb, hk', he, hq3, hv⟩
      clear hb hk' he hq3 hcell hq2 hdrop hv
      go_wp2_with fail
      refine (HX.out n hnl k' _ ok q HH.out.2.2.2.1 H.out.2.2.1 HH.out.2.1 (WfS_get H.out.2.2.2.2 n hnl).1 (WfS_get H.out.2.2.2.2 n hnl).2.1 (WfS_get H.out.2.2.2.2 n hnl).2.2 ?hcnt).mono ?_
      case hcnt => have := HH.out.2.2.2.2; omega
      rintro e w1 ⟨rfl, l1, b1⟩
      have L1 : Hid (_ ∧ _) := ⟨l1, b1⟩
      clear l1 b1
      go_wp2_with fail
      refine ⟨⟨n + 1, by omega, by go_num, HH.out.1.trans L1.out.2, Px.lookX l[n] k', L1.out.1, HH.out.2.2.1, ?_⟩, by simp [intOf]; omega⟩
      have hvx := Px.lookS_vars [l[n]] k'
      rw [Px.lookS_cons, Px.lookS_nil, Px.cnt_cons, Px.cnt_nil] at hvx
      have := HH.out.2.2.2.2
      omega
    · have hnl : l.drop n = [] := List.drop_of_length_le (by have := HLen.out; omega)
      rw [hnl, Px.lookS_nil] at he
      have HH : Hid (Below c w wr ∧ LkAt wr c (Px.lookS l k)) := ⟨hb, by rw [← he]; exact hk'⟩
      clear hb hk' he hnl hv
      go_wp2_with fail
      go_end0
      exact ⟨rfl, HH.out.2, HH.out.1⟩

end Ref
end Go.Proofs.YtcogbbneodihkaaGreatDoor

namespace Go.Proofs.YtcogbbneodihkaaGreatDoor
open Go.RowKit
namespace Ref

theorem LkAt.lt {w : World} {c : Nat} {k : Px.Lk} (h : LkAt w c k) : c < w.heap.size := by
  obtain ⟨_, _, _, _, _, h1⟩ := h.cells; exact h1

theorem look_fail (c : Nat) (x : Px.Sm) (hop : x.op = 102) : LookOk c x := by
  intro k w ok q hx hok hl hw h1 h2 hc
  obtain ⟨hq, ve, v1, v2, q1, q2, hv, _⟩ := hx
  obtain ⟨d0, d1, d2, d3, d4, d5, d6, d7, d8, d9, d10, df⟩ := cells11 hv
  rw [hop] at d0
  have HL : Hid (LkAt w c k) := hl
  have e1 : Hid (Px.lookX x k = k) := by unfold Hid Px.lookX; simp [hop]
  clear hl hv hok hw h1 h2
  go_enter Tryz.func35, Tryz.ntmps35
  go_wp2_with fail
  go_end0
  rw [e1.out]
  exact ⟨rfl, HL.out, Below.refl _ _⟩

theorem look_try (c : Nat) (x : Px.Sm) (hop : x.op = 116) (i1 : LooksOk c x.one) (i2 : LooksOk c x.two) : LookOk c x := by
  intro k w ok q hx hok hl hw h1 h2 hc
  obtain ⟨hq, ve, v1, v2, q1, q2, hv, e3, e4, e5, e6, e7⟩ := hx
  obtain ⟨d0, d1, d2, d3, d4, d5, d6, d7, d8, d9, d10, df⟩ := cells11 hv
  rw [hop] at d0
  have hqc := hok q hq
  have HL : Hid (LkAt w c k ∧ (∀ i, ok i → i < c) ∧ (SlAt w v1 q1 ok ∧ SmsAt w x.one ok q1) ∧ (SlAt w v2 q2 ok ∧ SmsAt w x.two ok q2) ∧ Px.WfS x.one ∧ Px.WfS x.two ∧ w.heap[q]? = some (.cells (smCells x ve v1 v2) 106)) := ⟨hl, hok, ⟨e4, e5⟩, ⟨e6, e7⟩, h1, h2, hv⟩
  have hv1 := Px.lookS_vars x.one k
  have eX : Hid (Px.lookX x k = Px.lookS x.two (Px.lookS x.one k)) := by unfold Hid Px.lookX; simp [hop]
  clear hl hv hok hw h1 h2 e3 e4 e5 e6 e7
  obtain ⟨a1, n1, c1, rfl⟩ : ∃ a n c, v1 = .slice a n c := by obtain ⟨a, c', h, _⟩ := HL.out.2.2.1.1.len; exact ⟨_, _, _, h⟩
  obtain ⟨a2, n2, c2, rfl⟩ : ∃ a n c, v2 = .slice a n c := by obtain ⟨a, c', h, _⟩ := HL.out.2.2.2.1.1.len; exact ⟨_, _, _, h⟩
  go_enter Tryz.func35, Tryz.ntmps35
  go_wp2_with fail
  refine (i1 k _ ok _ q1 HL.out.2.2.1.1 HL.out.2.2.1.2 HL.out.2.1 HL.out.1 HL.out.2.2.2.2.1 (by omega)).mono ?_
  rintro e w1 ⟨rfl, l1, b1⟩
  have hh1 : w1.heap[q]? = _ := (b1.block q hqc).trans HL.out.2.2.2.2.2.2
  obtain ⟨f0, f1, f2, f3, f4, f5, f6, f7, f8, f9, f10, ff⟩ := cells11 hh1
  have hk : ∀ i, ok i → w1.heap[i]? = w.heap[i]? := fun i hi => b1.block i (HL.out.2.1 i hi)
  have L1 : Hid (LkAt w1 c (Px.lookS x.one k) ∧ Below c w w1 ∧ SlAt w1 _ q2 ok ∧ SmsAt w1 x.two ok q2) := ⟨l1, b1, HL.out.2.2.2.1.1.keep hk, HL.out.2.2.2.1.2.keep hk⟩
  clear l1 b1 hh1 hk d0 d1 d2 d3 d4 d5 d6 d7 d8 d9 d10 df
  go_wp2_with fail
  refine (i2 _ _ ok _ q2 L1.out.2.2.1 L1.out.2.2.2 HL.out.2.1 L1.out.1 HL.out.2.2.2.2.2.1 (by omega)).mono ?_
  rintro e w2 ⟨rfl, l2, b2⟩
  have L2 : Hid (_ ∧ _) := ⟨l2, b2⟩
  clear l2 b2
  go_wp2_with fail
  go_end0
  rw [eX.out]
  exact ⟨rfl, L2.out.1, L1.out.2.1.trans L2.out.2⟩

theorem look_rep (c : Nat) (x : Px.Sm) (hop : x.op = 114) (i1 : LooksOk c x.one) : LookOk c x := by
  intro k w ok q hx hok hl hw h1 h2 hc
  obtain ⟨hq, ve, v1, v2, q1, q2, hv, e3, e4, e5, e6, e7⟩ := hx
  obtain ⟨d0, d1, d2, d3, d4, d5, d6, d7, d8, d9, d10, df⟩ := cells11 hv
  rw [hop] at d0
  have hqc := hok q hq
  have HL : Hid (LkAt w c k ∧ (∀ i, ok i → i < c) ∧ (SlAt w v1 q1 ok ∧ SmsAt w x.one ok q1) ∧ Px.WfS x.one ∧ w.heap[q]? = some (.cells (smCells x ve v1 v2) 106)) := ⟨hl, hok, ⟨e4, e5⟩, h1, hv⟩
  clear hl hv hok hw h1 h2 e3 e4 e5 e6 e7
  obtain ⟨a1, n1, c1, rfl⟩ : ∃ a n c, v1 = .slice a n c := by obtain ⟨a, c', h, _⟩ := HL.out.2.2.1.1.len; exact ⟨_, _, _, h⟩
  by_cases h9 : 9 < x.n
  · have eX : Hid (Px.lookX x k = Px.lookS x.one (Px.say 4 x.nPl k)) := by unfold Hid Px.lookX; simp [hop, h9]
    have hv1 := Px.say_vars 4 x.nPl k
    have HV : Hid (_) := hv1
    clear hv1
    go_enter Tryz.func35, Tryz.ntmps35
    go_wp2_with fail
    refine (say_any c 4 x.nPl k _ HL.out.1).mono ?_
    rintro e w1 ⟨rfl, l1, b1⟩
    have hh1 : w1.heap[q]? = _ := (b1.block q hqc).trans HL.out.2.2.2.2
    obtain ⟨f0, f1, f2, f3, f4, f5, f6, f7, f8, f9, f10, ff⟩ := cells11 hh1
    have hk : ∀ i, ok i → w1.heap[i]? = w.heap[i]? := fun i hi => b1.block i (HL.out.2.1 i hi)
    have L1 : Hid (LkAt w1 c (Px.say 4 x.nPl k) ∧ Below c w w1 ∧ SlAt w1 _ q1 ok ∧ SmsAt w1 x.one ok q1) := ⟨l1, b1, HL.out.2.2.1.1.keep hk, HL.out.2.2.1.2.keep hk⟩
    clear l1 b1 hh1 hk d0 d1 d2 d3 d4 d5 d6 d7 d8 d9 d10 df
    go_wp2_with fail
    refine (i1 _ _ ok _ q1 L1.out.2.2.1 L1.out.2.2.2 HL.out.2.1 L1.out.1 HL.out.2.2.2.1 (by rw [HV.out]; omega)).mono ?_
    rintro e w2 ⟨rfl, l2, b2⟩
    have L2 : Hid (_ ∧ _) := ⟨l2, b2⟩
    clear l2 b2
    go_wp2_with fail
    go_end0
    rw [eX.out]
    exact ⟨rfl, L2.out.1, L1.out.2.1.trans L2.out.2⟩
  · have eX : Hid (Px.lookX x k = Px.lookS x.one k) := by unfold Hid Px.lookX; simp [hop, h9]
    go_enter Tryz.func35, Tryz.ntmps35
    go_wp2_with fail
    refine (i1 k _ ok _ q1 HL.out.2.2.1.1 HL.out.2.2.1.2 HL.out.2.1 HL.out.1 HL.out.2.2.2.1 (by omega)).mono ?_
    rintro e w2 ⟨rfl, l2, b2⟩
    have L2 : Hid (_ ∧ _) := ⟨l2, b2⟩
    clear l2 b2
    go_wp2_with fail
    go_end0
    rw [eX.out]
    exact ⟨rfl, L2.out⟩

set_option maxRecDepth 100000 in
theorem look_let (c : Nat) (x : Px.Sm) (hop : x.op = 108) : LookOk c x := by
  intro k w ok q hx hok hl hw h1 h2 hc
  obtain ⟨hq, ve, v1, v2, q1, q2, hv, e3, e4, e5, e6, e7⟩ := hx
  obtain ⟨d0, d1, d2, d3, d4, d5, d6, d7, d8, d9, d10, df⟩ := cells11 hv
  rw [hop] at d0
  have hqc := hok q hq
  obtain ⟨ex, hex⟩ : ∃ ex, x.ex = some ex := by
    rcases hw.2 with h | h | h | h | h | h
    · cases hx : x.ex with
      | none => exact absurd hx h.2
      | some e => exact ⟨e, rfl⟩
    all_goals omega
  rw [hex] at e3
  obtain ⟨qe, rfl, hxe⟩ := e3
  have hwe : Px.WfE ex := hw.1 ex hex
  have eX : Hid (Px.lookX x k = Px.giveV x.word x.pl (Px.kindE ex k).1 (Px.kindE ex k).2) := by unfold Hid Px.lookX; simp [hop, hex]
  have HV : Hid ((Px.kindE ex k).2.vars = k.vars) := Px.kindE_vars ex k
  have HL : Hid (LkAt w c k ∧ (∀ i, ok i → i < c) ∧ ExAt w ex ok qe ∧ w.heap[q]? = some (.cells (smCells x (ptr qe) v1 v2) 106)) := ⟨hl, hok, hxe, hv⟩
  unfold ptr at d3
  clear hl hv hok hw h1 h2 e4 e5 e6 e7 hxe hex
  generalize hr : Px.kindE ex k = r at *
  have HR : Hid (Px.kindE ex k = r) := hr
  clear hr
  go_enter Tryz.func35, Tryz.ntmps35
  go_wp2_with fail
  refine (kind_ok c ex hwe k _ ok qe HL.out.2.2.1 HL.out.2.1 HL.out.1).mono ?_
  rw [HR.out]
  rintro e w1 ⟨rfl, l1, b1⟩
  have hh1 : w1.heap[q]? = _ := (b1.block q hqc).trans HL.out.2.2.2
  obtain ⟨f0, f1, f2, f3, f4, f5, f6, f7, f8, f9, f10, ff⟩ := cells11 hh1
  have L1 : Hid (LkAt w1 c r.2 ∧ Below c w w1) := ⟨l1, b1⟩
  clear l1 b1 hh1 d0 d1 d2 d3 d4 d5 d6 d7 d8 d9 d10 df
  go_wp2_with fail
  go_region_with (go_at_call 59; refine (give_any c x.word x.pl r.1 r.2 _ L1.out.1.drew (by rw [HV.out]; omega)).mono ?_; rintro e w2 ⟨rfl, l2, b2⟩; have L2 : Hid (_ ∧ _) := ⟨l2, b2⟩; clear l2 b2)
  all_goals
    go_wp2_with fail
    go_end0
    rw [eX.out]
    exact ⟨rfl, L2.out.1, L1.out.2.drew.trans L2.out.2⟩

end Ref
end Go.Proofs.YtcogbbneodihkaaGreatDoor

namespace Go.Proofs.YtcogbbneodihkaaGreatDoor
open Go.RowKit
namespace Ref

set_option maxRecDepth 100000 in
theorem look_if (c : Nat) (x : Px.Sm) (hop : x.op = 105) (i1 : LooksOk c x.one) (i2 : LooksOk c x.two) : LookOk c x := by
  intro k w ok q hx hok hl hw h1 h2 hc
  obtain ⟨hq, ve, v1, v2, q1, q2, hv, e3, e4, e5, e6, e7⟩ := hx
  obtain ⟨d0, d1, d2, d3, d4, d5, d6, d7, d8, d9, d10, df⟩ := cells11 hv
  rw [hop] at d0
  have hqc := hok q hq
  obtain ⟨ex, hex⟩ : ∃ ex, x.ex = some ex := by
    rcases hw.2 with h | h | h | h | h | h
    · omega
    · omega
    · cases hx : x.ex with
      | none => exact absurd hx h.2
      | some e => exact ⟨e, rfl⟩
    all_goals omega
  rw [hex] at e3
  obtain ⟨qe, rfl, hxe⟩ := e3
  have hwe : Px.WfE ex := hw.1 ex hex
  obtain ⟨hqe, vk, hve⟩ := hxe.root
  have hqec := hok qe hqe
  have eX : Hid (Px.lookX x k = Px.lookS x.two (Px.lookS x.one (Px.mustE (some ex) 98 k))) := by unfold Hid Px.lookX; simp [hop, hex]
  have HV : Hid ((Px.mustE (some ex) 98 k).vars = k.vars) := Px.mustE_vars _ _ _
  have eM : Hid (Px.mustE (some ex) 98 k = if Px.isK (Px.kindE ex k).1 98 then (Px.kindE ex k).2 else Px.say 6 ex.pl (Px.kindE ex k).2) := rfl
  have HL : Hid (LkAt w c k ∧ (∀ i, ok i → i < c) ∧ ExAt w ex ok qe ∧ (SlAt w v1 q1 ok ∧ SmsAt w x.one ok q1) ∧ (SlAt w v2 q2 ok ∧ SmsAt w x.two ok q2) ∧ Px.WfS x.one ∧ Px.WfS x.two ∧ w.heap[q]? = some (.cells (smCells x (ptr qe) v1 v2) 106) ∧ w.heap[qe]? = some (.cells #[.int .u8 (ex.op : Int), .int .i64 (ex.n : Int), .string ex.word, .int .i64 (ex.pl : Int), .int .i64 (ex.own : Int), vk] 141)) := ⟨hl, hok, hxe, ⟨e4, e5⟩, ⟨e6, e7⟩, h1, h2, hv, hve⟩
  unfold ptr at d3
  clear hl hv hok hw h1 h2 e4 e5 e6 e7 hxe hex hve
  have hv1 := Px.lookS_vars x.one (Px.mustE (some ex) 98 k)
  rw [HV.out] at hv1
  obtain ⟨a1, n1, c1, rfl⟩ : ∃ a n c, v1 = .slice a n c := by obtain ⟨a, c', h, _⟩ := HL.out.2.2.2.1.1.len; exact ⟨_, _, _, h⟩
  obtain ⟨a2, n2, c2, rfl⟩ : ∃ a n c, v2 = .slice a n c := by obtain ⟨a, c', h, _⟩ := HL.out.2.2.2.2.1.1.len; exact ⟨_, _, _, h⟩
  generalize hM : Px.mustE (some ex) 98 k = M at *
  clear hM
  generalize hr : Px.kindE ex k = r at *
  have HR : Hid (Px.kindE ex k = r) := hr
  clear hr
  go_enter Tryz.func35, Tryz.ntmps35
  go_wp2_with fail
  refine (kind_ok c ex hwe k _ ok qe HL.out.2.2.1 HL.out.2.1 HL.out.1).mono ?_
  rw [HR.out]
  rintro e w1 ⟨rfl, l1, b1⟩
  have hh1 : w1.heap[q]? = _ := (b1.block q hqc).trans HL.out.2.2.2.2.2.2.2.1
  have hg1 : w1.heap[qe]? = _ := (b1.block qe hqec).trans HL.out.2.2.2.2.2.2.2.2
  obtain ⟨f0, f1, f2, f3, f4, f5, f6, f7, f8, f9, f10, ff⟩ := cells11 hh1
  obtain ⟨g0, g1, g2, g3, g4, g5, gf⟩ := cells6 hg1
  unfold ptr at f3
  have L1 : Hid (LkAt w1 c r.2 ∧ Below c w w1) := ⟨l1, b1⟩
  clear l1 b1 hh1 hg1 d0 d1 d2 d3 d4 d5 d6 d7 d8 d9 d10 df
  go_wp2_with fail
  refine (is_any r.1 98 _).mono ?_
  rintro e w' ⟨rfl, rfl⟩
  go_upto_if 98 with fail
  go_cut [] (fun wc => Hid (LkAt wc c M ∧ Below c w wc))
  case first =>
    cases hi : Px.isK r.1 98
    · go_wp2_with fail
      refine (say_any c 6 ex.pl r.2 _ L1.out.1).mono ?_
      rintro e w2 ⟨rfl, l2, b2⟩
      have L2 : Hid (_ ∧ _) := ⟨l2, b2⟩
      clear l2 b2
      go_wp2_with fail
      go_meet
      case rel =>
        refine ⟨?_, L1.out.2.trans L2.out.2⟩
        rw [eM.out, hi]
        exact L2.out.1
    · go_wp2_with fail
      go_meet
      case rel =>
        refine ⟨?_, L1.out.2⟩
        rw [eM.out, hi]
        exact L1.out.1
  case rest =>
  have C1 : Hid (LkAt wc c M ∧ Below c w wc) := hcut
  have hh2 : wc.heap[q]? = _ := (C1.out.2.block q hqc).trans HL.out.2.2.2.2.2.2.2.1
  obtain ⟨j0, j1, j2, j3, j4, j5, j6, j7, j8, j9, j10, jf⟩ := cells11 hh2
  have hk2 : ∀ i, ok i → wc.heap[i]? = w.heap[i]? := fun i hi => C1.out.2.block i (HL.out.2.1 i hi)
  have S1 : Hid ((SlAt wc _ q1 ok ∧ SmsAt wc x.one ok q1)) := ⟨HL.out.2.2.2.1.1.keep hk2, HL.out.2.2.2.1.2.keep hk2⟩
  clear hcut hh2 hk2 f0 f1 f2 f3 f4 f5 f6 f7 f8 f9 f10 ff g0 g1 g2 g3 g4 g5 gf
  go_wp2_with fail
  refine (i1 M _ ok _ q1 S1.out.1 S1.out.2 HL.out.2.1 C1.out.1 HL.out.2.2.2.2.2.1 (by rw [HV.out]; omega)).mono ?_
  rintro e w3 ⟨rfl, l3, b3⟩
  have bb : Below c w w3 := C1.out.2.trans b3
  have hh3 : w3.heap[q]? = _ := (bb.block q hqc).trans HL.out.2.2.2.2.2.2.2.1
  obtain ⟨m0, m1, m2, m3, m4, m5, m6, m7, m8, m9, m10, mf⟩ := cells11 hh3
  have hk3 : ∀ i, ok i → w3.heap[i]? = w.heap[i]? := fun i hi => bb.block i (HL.out.2.1 i hi)
  have S2 : Hid (LkAt w3 c (Px.lookS x.one M) ∧ Below c w w3 ∧ (SlAt w3 _ q2 ok ∧ SmsAt w3 x.two ok q2)) := ⟨l3, bb, HL.out.2.2.2.2.1.1.keep hk3, HL.out.2.2.2.2.1.2.keep hk3⟩
  clear l3 b3 bb hh3 hk3 j0 j1 j2 j3 j4 j5 j6 j7 j8 j9 j10 jf
  go_wp2_with fail
  refine (i2 _ _ ok _ q2 S2.out.2.2.1 S2.out.2.2.2 HL.out.2.1 S2.out.1 HL.out.2.2.2.2.2.2.1 (by omega)).mono ?_
  rintro e w4 ⟨rfl, l4, b4⟩
  have L4 : Hid (_ ∧ _) := ⟨l4, b4⟩
  clear l4 b4
  go_wp2_with fail
  go_end0
  rw [eX.out]
  exact ⟨rfl, L4.out.1, S2.out.2.1.trans L4.out.2⟩

end Ref
end Go.Proofs.YtcogbbneodihkaaGreatDoor

namespace Go.Proofs.YtcogbbneodihkaaGreatDoor
open Go.RowKit
namespace Ref

set_option maxRecDepth 100000 in
set_option maxHeartbeats 2000000 in
theorem look_call (c : Nat) (x : Px.Sm) (hop : x.op = 99) : LookOk c x := by
  intro k w ok q hx hok hl hw h1 h2 hc
  obtain ⟨hq, ve, v1, v2, q1, q2, hv, e3, e4, e5, e6, e7⟩ := hx
  obtain ⟨d0, d1, d2, d3, d4, d5, d6, d7, d8, d9, d10, df⟩ := cells11 hv
  rw [hop] at d0
  have hqc := hok q hq
  have HW : Hid (Px.WfO x.ex) := hw.1
  generalize hM1 : Px.mustE x.ex 105 k = M1
  generalize hM2 : (if x.asw.toList.isEmpty then M1 else Px.giveV x.asw x.asPl 105 M1) = M2
  have eX : Hid (Px.lookX x k = if x.n < 1 ∨ 5 < x.n then Px.say 4 x.nPl M2 else M2) := by unfold Hid Px.lookX; rw [if_neg (by omega), if_pos hop]; simp only [hM1, hM2]
  have EM1 : Hid (Px.mustE x.ex 105 k = M1) := hM1
  have EM2 : Hid ((if x.asw.toList.isEmpty then M1 else Px.giveV x.asw x.asPl 105 M1) = M2) := hM2
  have HV : Hid (M1.vars = k.vars) := by unfold Hid; rw [← hM1]; exact Px.mustE_vars _ _ _
  clear hM1 hM2
  have HL : Hid (LkAt w c k ∧ (∀ i, ok i → i < c) ∧ ExO w x.ex ok ve ∧ w.heap[q]? = some (.cells (smCells x ve v1 v2) 106)) := ⟨hl, hok, e3, hv⟩
  clear hl hv hok hw h1 h2 e4 e5 e6 e7 e3
  obtain ⟨pe, rfl⟩ : ∃ pe, ve = .pointer pe := by
    have := HL.out.2.2.1
    cases hx : x.ex with
    | none => rw [hx] at this; exact ⟨_, this⟩
    | some e => rw [hx] at this; obtain ⟨qe, h, _⟩ := this; exact ⟨_, h⟩
  go_enter Tryz.func35, Tryz.ntmps35
  go_upto_if 36 with fail
  go_cut [5] (fun _ wc => Hid (LkAt wc c M1 ∧ Below c w wc))
  case first =>
    cases hex : x.ex with
    | none =>
      have hpe : (Value.pointer pe) = .pointer none := by have := HL.out.2.2.1; rw [hex] at this; exact this
      cases hpe
      have hm : Hid (k = M1) := by unfold Hid; rw [← EM1.out, hex]; rfl
      clear hex
      go_wp2_with fail
      go_meet
      case rel =>
        refine ⟨?_, Below.refl _ _⟩
        rw [← hm.out]; exact HL.out.1
    | some ex =>
      obtain ⟨qe, hpe, hxe⟩ : ∃ qe, Value.pointer pe = ptr qe ∧ ExAt w ex ok qe := by have := HL.out.2.2.1; rw [hex] at this; exact this
      unfold ptr at hpe
      cases hpe
      have hwe : Px.WfE ex := HW.out ex hex
      obtain ⟨hqe, vk, hve⟩ := hxe.root
      have hqec := HL.out.2.1 qe hqe
      have hm : Hid (M1 = if Px.isK (Px.kindE ex k).1 105 then (Px.kindE ex k).2 else Px.say 6 ex.pl (Px.kindE ex k).2) := by unfold Hid; rw [← EM1.out, hex]; rfl
      have XE : Hid (ExAt w ex ok qe ∧ w.heap[qe]? = some (.cells #[.int .u8 (ex.op : Int), .int .i64 (ex.n : Int), .string ex.word, .int .i64 (ex.pl : Int), .int .i64 (ex.own : Int), vk] 141)) := ⟨hxe, hve⟩
      clear hex hxe hve
      generalize hr : Px.kindE ex k = r at *
      have HR : Hid (Px.kindE ex k = r) := hr
      clear hr
      go_wp2_with fail
      refine (kind_ok c ex hwe k _ ok qe XE.out.1 HL.out.2.1 HL.out.1).mono ?_
      rw [HR.out]
      rintro e w1 ⟨rfl, l1, b1⟩
      have hh1 : w1.heap[q]? = _ := (b1.block q hqc).trans HL.out.2.2.2
      have hg1 : w1.heap[qe]? = _ := (b1.block qe hqec).trans XE.out.2
      obtain ⟨f0, f1, f2, f3, f4, f5, f6, f7, f8, f9, f10, ff⟩ := cells11 hh1
      obtain ⟨g0, g1, g2, g3, g4, g5, gf⟩ := cells6 hg1
      have L1 : Hid (LkAt w1 c r.2 ∧ Below c w w1) := ⟨l1, b1⟩
      clear l1 b1 hh1 hg1 d0 d1 d2 d3 d4 d5 d6 d7 d8 d9 d10 df
      cases hi : Px.isK r.1 105
      · go_wp2_with fail
        refine (is_any r.1 105 _).mono ?_
        rintro e w' ⟨rfl, rfl⟩
        go_wp2_with fail
        refine (say_any c 6 ex.pl r.2 _ L1.out.1).mono ?_
        rintro e w2 ⟨rfl, l2, b2⟩
        have L2 : Hid (_ ∧ _) := ⟨l2, b2⟩
        clear l2 b2
        go_wp2_with fail
        go_meet
        case rel =>
          refine ⟨?_, L1.out.2.trans L2.out.2⟩
          rw [hm.out, hi]
          exact L2.out.1
      · go_wp2_with fail
        refine (is_any r.1 105 _).mono ?_
        rintro e w' ⟨rfl, rfl⟩
        go_wp2_with fail
        go_meet
        case rel =>
          refine ⟨?_, L1.out.2⟩
          rw [hm.out, hi]
          exact L1.out.1
  case rest =>
  have C1 : Hid (LkAt wc c M1 ∧ Below c w wc) := hcut
  have hh2 : wc.heap[q]? = _ := (C1.out.2.block q hqc).trans HL.out.2.2.2
  obtain ⟨j0, j1, j2, j3, j4, j5, j6, j7, j8, j9, j10, jf⟩ := cells11 hh2
  clear hcut hh2 d0 d1 d2 d3 d4 d5 d6 d7 d8 d9 d10 df
  go_upto_if 59 with fail
  go_cut [] (fun wd => Hid (LkAt wd c M2 ∧ Below c w wd))
  case first =>
    cases ha : x.asw.toList.isEmpty
    · go_wp2_with fail
      go_region_with (go_at_call 59; refine (give_any c x.asw x.asPl 105 M1 _ C1.out.1.drew (by rw [HV.out]; omega)).mono ?_; rintro e w2 ⟨rfl, l2, b2⟩; have L2 : Hid (_ ∧ _) := ⟨l2, b2⟩; clear l2 b2)
      all_goals
        go_wp2_with fail
        go_meet
        case rel =>
          refine ⟨?_, C1.out.2.drew.trans L2.out.2⟩
          rw [← EM2.out, ha]
          exact L2.out.1
    · go_wp2_with fail
      go_meet
      case rel =>
        refine ⟨?_, C1.out.2⟩
        rw [← EM2.out, ha]
        exact C1.out.1
  case rest =>
  have C2 : Hid (LkAt wc c M2 ∧ Below c w wc) := hcut
  have hh3 : wc.heap[q]? = _ := (C2.out.2.block q hqc).trans HL.out.2.2.2
  obtain ⟨m0, m1, m2, m3, m4, m5, m6, m7, m8, m9, m10, mf⟩ := cells11 hh3
  clear hcut hh3 j0 j1 j2 j3 j4 j5 j6 j7 j8 j9 j10 jf
  by_cases hn1 : x.n < 1
  · have t1 : (x.n : Int) < 1 := by omega
    go_wp2_with fail
    refine (say_any c 4 x.nPl M2 _ C2.out.1).mono ?_
    rintro e w2 ⟨rfl, l2, b2⟩
    have L2 : Hid (_ ∧ _) := ⟨l2, b2⟩
    clear l2 b2
    go_wp2_with fail
    go_end0
    rw [eX.out, if_pos (by omega)]
    exact ⟨rfl, L2.out.1, C2.out.2.trans L2.out.2⟩
  · have t1 : ¬ (x.n : Int) < 1 := by omega
    by_cases hn2 : 5 < x.n
    · have t2 : (5 : Int) < x.n := by omega
      go_wp2_with fail
      refine (say_any c 4 x.nPl M2 _ C2.out.1).mono ?_
      rintro e w2 ⟨rfl, l2, b2⟩
      have L2 : Hid (_ ∧ _) := ⟨l2, b2⟩
      clear l2 b2
      go_wp2_with fail
      go_end0
      rw [eX.out, if_pos (by omega)]
      exact ⟨rfl, L2.out.1, C2.out.2.trans L2.out.2⟩
    · have t2 : ¬ (5 : Int) < x.n := by omega
      go_wp2_with fail
      go_end0
      rw [eX.out, if_neg (by omega)]
      exact ⟨rfl, C2.out.1, C2.out.2⟩

theorem look_one (c : Nat) (x : Px.Sm) (i1 : LooksOk c x.one) (i2 : LooksOk c x.two) : LookOk c x := by
  intro k w ok q hx hok hl hw h1 h2 hc
  rcases hw.2 with h | h | h | h | h | h
  · exact look_let c x h.1 k w ok q hx hok hl hw h1 h2 hc
  · exact look_call c x h k w ok q hx hok hl hw h1 h2 hc
  · exact look_if c x h.1 i1 i2 k w ok q hx hok hl hw h1 h2 hc
  · exact look_try c x h i1 i2 k w ok q hx hok hl hw h1 h2 hc
  · exact look_rep c x h i1 k w ok q hx hok hl hw h1 h2 hc
  · exact look_fail c x h k w ok q hx hok hl hw h1 h2 hc

theorem look_each (c : Nat) (l : List Px.Sm) : ∀ i (hi : i < l.length), LookOk c l[i] := by
  match l with
  | [] => intro i hi; simp at hi
  | ⟨op, word, pl, ex, asw, asPl, undo, n, nPl, one, two⟩ :: rest =>
    intro i hi
    cases i with
    | zero => exact look_one c _ (looks_ok c one (look_each c one)) (looks_ok c two (look_each c two))
    | succ i => exact look_each c rest i (by simpa using hi)

theorem look_all (c : Nat) (l : List Px.Sm) : LooksOk c l := looks_ok c l (look_each c l)

/-- What is told of a text: the error and its place. -/
def ckOf (s : ByteArray) : Nat × Nat := Px.check s

end Ref
end Go.Proofs.YtcogbbneodihkaaGreatDoor

namespace Go.Proofs.YtcogbbneodihkaaGreatDoor
open Go.RowKit
namespace Ref

theorem read_any (s : ByteArray) (w : World) (hs : s.size ≤ maxLen) : Calls Tryz.prog 19 #[.string s] w (RdPost s w) := by
  by_cases h : 300 < s.size
  · exact read_long s w h hs
  · exact read_short s w (by omega)

/-- The statements and the variables, or the error and its place. -/
def LdPost (s : ByteArray) (w : World) (e : Ending) (w' : World) : Prop :=
  Below w.heap.size w w' ∧ ∃ a n c a' n' c', e = .returned (.tuple #[.slice a n c, .slice a' n' c', .int .i64 ((Px.check s).1 : Int), .int .i64 ((Px.check s).2 : Int)]) ∧
    ((Px.check s).1 = 0 → ∃ l qs, Px.read s = .ok l ∧ SlAt w' (.slice a n c) qs (In w w') ∧ SmsAt w' l (In w w') qs)

set_option maxHeartbeats 1000000 in
theorem looked_any (s : ByteArray) (w : World) (hs : s.size ≤ maxLen) : Calls Tryz.prog 12 #[.string s] w (LdPost s w) := by
  go_enter Tryz.func12, Tryz.ntmps12
  go_wp2_with fail
  refine (read_any s _ hs).mono ?_
  rintro e w1 ⟨hb, a, n, c, x, p, rfl, hr⟩
  cases hrd : Px.read s with
  | error r =>
    obtain ⟨c', p'⟩ := r
    rw [hrd] at hr
    obtain ⟨rfl, rfl, rfl, rfl, rfl⟩ := hr
    have hx0 : x ≠ 0 := by
      unfold Px.read at hrd
      split at hrd
      · cases hrd; omega
      · split at hrd
        · cases hrd; omega
        · split at hrd
          · cases hrd; omega
          · cases hrd
    have t1 : ((x : Int) != 0) = true := by rw [bne_iff_ne]; omega
    have ck : Hid (Px.check s = (x, p)) := by unfold Hid Px.check; rw [hrd]
    have B : Hid (_) := hb
    clear hrd hb
    go_wp2_with fail
    refine bodyPost_ret (v := .tuple #[.slice none 0 0, .slice none 0 0, .int .i64 (x : Int), .int .i64 (p : Int)]) (by simp [results, Tryz.results12, go_sem]) rfl ?_
    refine ⟨B.out, none, 0, 0, none, 0, 0, by rw [ck.out], fun h => ?_⟩
    rw [ck.out] at h
    exact absurd h hx0
  | ok l =>
    rw [hrd] at hr
    obtain ⟨rfl, rfl, qs, h1, h2⟩ := hr
    obtain ⟨wf, hcnt⟩ := Px.read_makes hrd
    generalize hK : Px.lookS l ⟨[], 0, 0⟩ = K
    have ck : Hid (Px.check s = if K.e = 0 then (0, 0) else (K.e, K.pl)) := by unfold Hid Px.check; rw [hrd]; simp only [hK]
    have HH : Hid (Below w.heap.size w w1 ∧ SlAt w1 (.slice a n c) qs (In w w1) ∧ SmsAt w1 l (In w w1) qs ∧ Px.WfS l ∧ Px.read s = .ok l ∧ Px.lookS l ⟨[], 0, 0⟩ = K) := ⟨hb, h1, h2, wf, hrd, hK⟩
    have HL : Hid (LkAt (w1.alloc (.cells #[.slice none 0 0, .int .i64 0, .int .i64 0] 60)) w1.heap.size ⟨[], 0, 0⟩) := by
      refine ⟨none, 0, 0, ?_, World.ownsRow_nil _ _ _ _⟩
      show (w1.heap.push _)[w1.heap.size]? = _
      rw [Array.getElem?_push, if_pos rfl]
      rfl
    clear hb h1 h2 wf hrd hK
    go_wp2_with fail
    refine (look_all w1.heap.size l ⟨[], 0, 0⟩ _ (In w w1) _ qs (HH.out.2.1.keep fun i hi => Below.heap_alloc _ _ _ hi.2) (HH.out.2.2.1.keep fun i hi => Below.heap_alloc _ _ _ hi.2) (fun i hi => hi.2) HL.out HH.out.2.2.2.1 (by simp; omega)).mono ?_
    rw [HH.out.2.2.2.2.2]
    rintro e w2 ⟨rfl, l2, b2⟩
    obtain ⟨va, vn, vc, g1, g2⟩ := l2.ex
    obtain ⟨c0, c1, c2, cf⟩ := cells3 g1
    have bW : Below w.heap.size w w2 := (HH.out.1.alloc HH.out.1.size _).trans (b2.mono HH.out.1.size)
    have hkeep : ∀ i, In w w1 i → w2.heap[i]? = w1.heap[i]? := fun i hi => by rw [b2.block i hi.2, Below.heap_alloc _ _ _ hi.2]
    have hz2 : w1.heap.size < w2.heap.size := lt_of_cell c0
    have H2 : Hid (Below w.heap.size w w2 ∧ SlAt w2 (.slice a n c) qs (In w w2) ∧ SmsAt w2 l (In w w2) qs) := ⟨bW, (HH.out.2.1.keep hkeep).mono fun i hi => ⟨hi.1, by have := hi.2; omega⟩, (HH.out.2.2.1.keep hkeep).mono fun i hi => ⟨hi.1, by have := hi.2; omega⟩⟩
    clear l2 b2 g1 g2 bW hkeep
    by_cases hE : K.e = 0
    · have t1 : ((K.e : Int) != 0) = false := by rw [hE]; rfl
      have HE : Hid (K.e = 0) := hE
      clear hE
      go_wp2_with fail
      go_region
      go_wp2_with fail
      refine bodyPost_ret (v := .tuple #[.slice a n c, .slice va vn vc, .int .i64 0, .int .i64 0]) (by simp [results, Tryz.results12, go_sem]) rfl ?_
      refine ⟨H2.out.1.drew, a, n, c, va, vn, vc, by rw [ck.out, if_pos HE.out]; rfl, fun h => ⟨l, qs, HH.out.2.2.2.2.1, H2.out.2.1, H2.out.2.2.keep fun _ _ => rfl⟩⟩
    · have t1 : ((K.e : Int) != 0) = true := by rw [bne_iff_ne]; omega
      have HE : Hid (¬ K.e = 0) := hE
      clear hE
      go_wp2_with fail
      go_region
      go_wp2_with fail
      refine bodyPost_ret (v := .tuple #[.slice none 0 0, .slice none 0 0, .int .i64 (K.e : Int), .int .i64 (K.pl : Int)]) (by simp [results, Tryz.results12, go_sem]) rfl ?_
      refine ⟨H2.out.1.drew, none, 0, 0, none, 0, 0, by rw [ck.out, if_neg HE.out], fun h => ?_⟩
      rw [ck.out, if_neg HE.out] at h
      exact absurd h HE.out

theorem check_any (s : ByteArray) (w : World) (hs : s.size ≤ maxLen) : Calls Tryz.prog 6 #[.string s] w fun e w' => e = .returned (.tuple #[.int .i64 ((Px.check s).1 : Int), .int .i64 ((Px.check s).2 : Int)]) ∧ Below w.heap.size w w' := by
  go_enter Tryz.func6, Tryz.ntmps6
  go_wp2_with fail
  refine (looked_any s _ hs).mono ?_
  rintro e w1 ⟨hb, a, n, c, a', n', c', rfl, hr⟩
  have HB : Hid (_) := hb
  clear hb hr
  go_wp2_with fail
  go_ret2
  exact ⟨rfl, HB.out⟩

end Ref
end Go.Proofs.YtcogbbneodihkaaGreatDoor

namespace Go.Proofs.YtcogbbneodihkaaGreatDoor
open Go.RowKit
namespace Law

theorem num_any (e : Int) (w : World) : Calls Tryz.prog 7 #[.int .i64 e] w fun r w' => r = .returned (.int .i64 e) ∧ w' = w := by
  go_enter Tryz.func7, Tryz.ntmps7
  go_wp2_with fail
  go_ret
  exact ⟨rfl, rfl⟩

set_option maxRecDepth 100000 in
theorem checks_walk (E : Nat → Addr) (s : ByteArray) (w : World) (hs : s.size ≤ maxLen) (g : Lg.Gw w E) :
    Calls Tryz.prog 3 #[.string s] w fun e w' => e = .returned (.bool true) ∧ Below w.heap.size w w' := by
  have H1 : Hid (Calls Tryz.prog 5 #[.string s] w fun e w' => e = .returned (.tuple #[.int .i64 ((Px.check s).1 : Int), .int .i64 ((Px.check s).2 : Int)]) ∧ Below w.heap.size w w') :=
    Lg.check_any E (fun l hl c m B => Lg.block_ok c m B E l hl) s w hs g
  have H2 : Hid (∀ W, Calls Tryz.prog 6 #[.string s] W fun e w' => e = .returned (.tuple #[.int .i64 ((Px.check s).1 : Int), .int .i64 ((Px.check s).2 : Int)]) ∧ Below W.heap.size W w') := fun W => Ref.check_any s W hs
  clear g hs
  generalize Px.check s = r at *
  obtain ⟨a, b⟩ := r
  go_enter Tryz.func3, Tryz.ntmps3
  go_wp2_with fail
  refine H1.out.mono ?_
  rintro e w1 ⟨rfl, b1⟩
  go_wp2_with fail
  refine (H2.out _).mono ?_
  rintro e w2 ⟨rfl, b2⟩
  have HB : Hid (Below w.heap.size w w2) := b1.trans (b2.mono b1.size)
  clear b1 b2
  go_wp2_with fail
  refine (num_any _ _).mono ?_
  rintro e w3 ⟨rfl, rfl⟩
  go_wp2_with fail
  go_ret
  exact ⟨rfl, HB.out⟩

end Law
end Go.Proofs.YtcogbbneodihkaaGreatDoor

namespace Go.Proofs.YtcogbbneodihkaaGreatDoor
open Go.ChangeShapes Go.WideShapes Go.ChangeAt Go.RowKit
namespace Law

theorem own : ownKnob Tryz.prog.godebug = none := by kernel_rfl

/-- A variable, laid. -/
def lay (w : World) (g : Nat) (cs : Array Value) : World := { w with heap := w.heap.modify g fun
  | .cells _ t frozen => .cells cs t frozen
  | o => o }
def low (P : Program) : Nat := (World.holding P default ⟨#[], #[], []⟩).heap.size
def errB (b : ByteArray) : Obj := .cells #[.string b] 232
def errV (P : Program) (i : Nat) : Array Value := #[.iface 230 (.pointer (some ⟨low P + i, 0, none⟩))]
def errBs : Array Obj := #[errB ⟨#[116, 104, 101, 32, 116, 101, 120, 116, 32, 105, 115, 32, 116, 111, 111, 32, 108, 111, 110, 103]⟩, errB ⟨#[116, 104, 101, 32, 116, 101, 120, 116, 32, 105, 115, 32, 110, 111, 32, 101, 114, 114, 97, 110, 100]⟩, errB ⟨#[98, 108, 111, 99, 107, 115, 32, 97, 110, 100, 32, 98, 114, 97, 99, 107, 101, 116, 115, 32, 115, 116, 97, 110, 100, 32, 116, 111, 111, 32, 100, 101, 101, 112]⟩, errB ⟨#[97, 32, 110, 117, 109, 98, 101, 114, 32, 116, 104, 97, 116, 32, 109, 97, 121, 32, 110, 111, 116, 32, 115, 116, 97, 110, 100, 32, 116, 104, 101, 114, 101]⟩, errB ⟨#[97, 32, 119, 111, 114, 100, 32, 116, 104, 97, 116, 32, 105, 115, 32, 103, 105, 118, 101, 110, 32, 110, 111, 119, 104, 101, 114, 101, 32, 97, 104, 101, 97, 100]⟩, errB ⟨#[110, 111, 116, 32, 111, 102, 32, 116, 104, 101, 32, 107, 105, 110, 100, 32, 116, 104, 97, 116, 32, 105, 116, 32, 109, 117, 115, 116, 32, 98, 101]⟩, errB ⟨#[118, 97, 108, 117, 101, 32, 111, 117, 116, 32, 111, 102, 32, 114, 97, 110, 103, 101]⟩, errB ⟨#[105, 110, 118, 97, 108, 105, 100, 32, 115, 121, 110, 116, 97, 120]⟩]
def math_bits_deBruijn32tab_cells : Array Value := #[.int .u8 0, .int .u8 1, .int .u8 28, .int .u8 2, .int .u8 29, .int .u8 14, .int .u8 24, .int .u8 3, .int .u8 30, .int .u8 22, .int .u8 20, .int .u8 15, .int .u8 25, .int .u8 17, .int .u8 4, .int .u8 8, .int .u8 31, .int .u8 27, .int .u8 13, .int .u8 23, .int .u8 21, .int .u8 19, .int .u8 16, .int .u8 7, .int .u8 26, .int .u8 12, .int .u8 18, .int .u8 6, .int .u8 11, .int .u8 5, .int .u8 10, .int .u8 9]
def math_bits_deBruijn64tab_cells : Array Value := #[.int .u8 0, .int .u8 1, .int .u8 56, .int .u8 2, .int .u8 57, .int .u8 49, .int .u8 28, .int .u8 3, .int .u8 61, .int .u8 58, .int .u8 42, .int .u8 50, .int .u8 38, .int .u8 29, .int .u8 17, .int .u8 4, .int .u8 62, .int .u8 47, .int .u8 59, .int .u8 36, .int .u8 45, .int .u8 43, .int .u8 51, .int .u8 22, .int .u8 53, .int .u8 39, .int .u8 33, .int .u8 30, .int .u8 24, .int .u8 18, .int .u8 12, .int .u8 5, .int .u8 63, .int .u8 55, .int .u8 48, .int .u8 27, .int .u8 60, .int .u8 41, .int .u8 37, .int .u8 16, .int .u8 46, .int .u8 35, .int .u8 44, .int .u8 21, .int .u8 52, .int .u8 32, .int .u8 23, .int .u8 11, .int .u8 54, .int .u8 26, .int .u8 40, .int .u8 15, .int .u8 34, .int .u8 20, .int .u8 31, .int .u8 10, .int .u8 25, .int .u8 14, .int .u8 19, .int .u8 9, .int .u8 13, .int .u8 8, .int .u8 7, .int .u8 6]
def internal_strconv_uint64pow10_cells : Array Value := #[.int .u64 1, .int .u64 10, .int .u64 100, .int .u64 1000, .int .u64 10000, .int .u64 100000, .int .u64 1000000, .int .u64 10000000, .int .u64 100000000, .int .u64 1000000000, .int .u64 10000000000, .int .u64 100000000000, .int .u64 1000000000000, .int .u64 10000000000000, .int .u64 100000000000000, .int .u64 1000000000000000, .int .u64 10000000000000000, .int .u64 100000000000000000, .int .u64 1000000000000000000, .int .u64 10000000000000000000]
def errand_lang_ops_cells : Array Value := #[.string ⟨#[43]⟩, .int .i64 1, .int .i64 1, .int .i64 1, .string ⟨#[45]⟩, .int .i64 1, .int .i64 1, .int .i64 1, .string ⟨#[42]⟩, .int .i64 2, .int .i64 1, .int .i64 1, .string ⟨#[47]⟩, .int .i64 2, .int .i64 1, .int .i64 1, .string ⟨#[60]⟩, .int .i64 0, .int .i64 1, .int .i64 2, .string ⟨#[61]⟩, .int .i64 0, .int .i64 0, .int .i64 2, .string ⟨#[35]⟩, .int .i64 0, .int .i64 0, .int .i64 2]
/-- A world that stands as the program's text lays it. -/
def laidWorld (P : Program) (os : Os) : World :=
  let w := World.holding P os ⟨errBs, #[], []⟩
  let w := lay w 0 (errV P 0)
  let w := lay w 1 (errV P 1)
  let w := lay w 3 (errV P 2)
  let w := lay w 4 (errV P 3)
  let w := lay w 5 (errV P 4)
  let w := lay w 6 (errV P 5)
  let w := lay w 10 (errV P 6)
  let w := lay w 9 (errV P 7)
  let w := lay w 12 math_bits_deBruijn32tab_cells
  let w := lay w 13 math_bits_deBruijn64tab_cells
  let w := lay w 11 internal_strconv_uint64pow10_cells
  let w := lay w 8 errand_lang_ops_cells
  lay w 2 #[.iface 116 (.agg #[.pointer (some ⟨14, 36, none⟩)])]

set_option maxRecDepth 100000 in
theorem laid_met (os : Os) : laidMetH Tryz.prog Rows.checksRow.laid ((laidWorld Tryz.prog os).forCall (fun _ _ => 0) ⟨#[], #[.string ⟨#[]⟩], []⟩).memory :=
  laidMetH_of_parts (laidMet_of_run' 8 (by kernel_rfl) (by kernel_rfl)) (by kernel_rfl)
theorem reads (os : Os) {H : Type} (enc : TypeId × Value → H) : ∃ places, DataW.whole enc Tryz.prog ((laidWorld Tryz.prog os).forCall (fun _ _ => 0) ⟨#[], #[.string ⟨#[]⟩], []⟩).memory Tryz.f3.params.toList Rows.checksSpec.vars false #[Value.string ⟨#[]⟩].toList 8 = some ([.lit (.string [])], [], places) :=
  ⟨[], by kernel_rfl⟩

end Law
end Go.Proofs.YtcogbbneodihkaaGreatDoor
