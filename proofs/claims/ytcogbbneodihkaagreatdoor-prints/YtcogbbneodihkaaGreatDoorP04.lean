import Derived.Test.YtcogbbneodihkaaGreatDoorP03
import Derived.Test.YtcogbbneodihkaaGreatDoorP02
import Derived.Maps.AppendAt
import Derived.Test.YtcogbbneodihkaaGreatDoorP00
namespace Go.Proofs.YtcogbbneodihkaaGreatDoor
open Go.RowKit
namespace Lg

theorem fin_err {α β : Type} {q p : Nat} (h : fin (.error q : Except Nat (α × Px.Ps)) = .error p) : fin (.error q : Except Nat (β × Px.Ps)) = .error p := by
  cases h; rfl

theorem kd_eq3 {k : Nat} : ((kd k : Int) == 3) = (k == 110) := by
  have := @kd_three k
  cases h : (k == 110) <;> rw [h] at this <;> simpa using this
theorem kd_eq2 {k : Nat} : ((kd k : Int) == 2) = (k == 119) := by
  have := @kd_two k
  cases h : (k == 119) <;> rw [h] at this <;> simpa using this

theorem dom_down {s : ByteArray} {n : Nat} {st st' : Px.Ps} (h : Ref.Dom s (n + 1) st) (tk : Px.Tk s st'.t) (lt : st.t.a < st'.t.a) (hn : st'.nest = st.nest ∨ st'.nest = st.nest + 1) : Ref.Dom s n st' := by
  have h1 := h.room
  have h2 := h.n0
  have h3 := h.n1
  have h4 := tk.ab
  have h5 := tk.le
  exact ⟨tk, by omega, by omega, by omega⟩

abbrev AtomX (b : Nat) (s : ByteArray) (eT eN : Addr) (n : Nat) : Prop := PartX b s n eT eN 109 (Px.atom s n)

theorem atom_num (b : Nat) (s : ByteArray) (eT eN : Addr) (n : Nat) (hs : s.size ≤ maxLen) (st : Px.Ps) (w : World) (r : Rd w b s st eT eN) (hk : st.t.k = 110) :
    Calls Tryz.prog 109 #[.pointer (some ⟨b, 0, none⟩)] w (Out b s eT eN w (Px.atom s (n + 1) st) (XV w)) := by
  obtain ⟨td, c0, c1, c2, c3, c4, c5, f⟩ := r.cells
  have R : Hid (Rd w b s st eT eN) := r
  have t1 : ((kd st.t.k : Int) == 3) = true := by rw [kd_eq3, hk]; rfl
  have E : Hid (Px.atom s (n + 1) st = .ok (Px.leaf 110 (Px.valOf (s.extract st.t.a st.t.b).toList) Px.nowt st.t.a, Px.nx s st) ∧ kindU s 110 st = .ok (st.t, Px.nx s st)) := ⟨by rw [Px.atom, if_pos hk]; rfl, by rw [kindU, if_pos hk]⟩
  clear r hk
  go_enter Tryz.func109, Tryz.ntmps109
  go_wp2_with fail
  refine (number_any b s st eT eN _ R.out hs).mono ?_
  rintro e w1 ⟨k1, ⟨x, st1, v, he, rfl, ⟨q, rfl, hv⟩, r1⟩ | ⟨p, hp, ht⟩⟩
  · rw [E.out.2] at he
    cases he
    have H1 : Hid (_ ∧ _ ∧ _) := ⟨k1, hv, r1⟩
    clear k1 hv r1 c0 c1 c2 c3 c4 c5 f
    unfold Ref.ptr
    go_wp2_with fail
    go_ret
    exact ⟨H1.out.1, Or.inl ⟨_, _, _, E.out.1, rfl, ⟨q, H1.out.2.1.1, Or.inl ⟨rfl, rfl, H1.out.2.1.2⟩⟩, H1.out.2.2⟩⟩
  · obtain ⟨c, rfl⟩ := ht.form
    exact ⟨rfl, k1, Or.inr ⟨p, by rw [E.out.1]; rw [E.out.2] at hp; exact fin_ok hp, ht⟩⟩

theorem atom_word (b : Nat) (s : ByteArray) (eT eN : Addr) (n : Nat) (hs : s.size ≤ maxLen) (st : Px.Ps) (w : World) (r : Rd w b s st eT eN) (hk : st.t.k = 119) :
    Calls Tryz.prog 109 #[.pointer (some ⟨b, 0, none⟩)] w (Out b s eT eN w (Px.atom s (n + 1) st) (XV w)) := by
  obtain ⟨td, c0, c1, c2, c3, c4, c5, f⟩ := r.cells
  have R : Hid (Rd w b s st eT eN) := r
  have t1 : ((kd st.t.k : Int) == 3) = false := by rw [kd_eq3, hk]; rfl
  have t2 : ((kd st.t.k : Int) == 2) = true := by rw [kd_eq2, hk]; rfl
  have E : Hid (Px.atom s (n + 1) st = .ok (Px.leaf 119 0 (s.extract st.t.a st.t.b) st.t.a, Px.nx s st) ∧ kindU s 119 st = .ok (st.t, Px.nx s st)) := ⟨by rw [Px.atom, if_neg (by omega), if_pos hk]; rfl, by rw [kindU, if_pos hk]⟩
  clear r hk
  go_enter Tryz.func109, Tryz.ntmps109
  go_wp2_with fail
  refine (variable_any b s st eT eN _ R.out hs).mono ?_
  rintro e w1 ⟨k1, ⟨x, st1, v, he, rfl, ⟨q, rfl, hv⟩, r1⟩ | ⟨p, hp, ht⟩⟩
  · rw [E.out.2] at he
    cases he
    have H1 : Hid (_ ∧ _ ∧ _) := ⟨k1, hv, r1⟩
    clear k1 hv r1 c0 c1 c2 c3 c4 c5 f
    unfold Ref.ptr
    go_wp2_with fail
    go_ret
    exact ⟨H1.out.1, Or.inl ⟨_, _, _, E.out.1, rfl, ⟨q, H1.out.2.1.1, Or.inr (Or.inl ⟨rfl, rfl, H1.out.2.1.2⟩)⟩, H1.out.2.2⟩⟩
  · obtain ⟨c, rfl⟩ := ht.form
    exact ⟨rfl, k1, Or.inr ⟨p, by rw [E.out.1]; rw [E.out.2] at hp; exact fin_ok hp, ht⟩⟩

theorem atom_true (b : Nat) (s : ByteArray) (eT eN : Addr) (n : Nat) (hs : s.size ≤ maxLen) (st : Px.Ps) (w : World) (r : Rd w b s st eT eN) (h1 : Px.onB s st.t ⟨#[116, 114, 117, 101]⟩ = true) :
    Calls Tryz.prog 109 #[.pointer (some ⟨b, 0, none⟩)] w (Out b s eT eN w (Px.atom s (n + 1) st) (XV w)) := by
  obtain ⟨td, c0, c1, c2, c3, c4, c5, f⟩ := r.cells
  have R : Hid (Rd w b s st eT eN) := r
  have hk := Px.onB_k h1
  have t1 : ((kd st.t.k : Int) == 3) = false := by rw [kd_eq3, hk]; rfl
  have t2 : ((kd st.t.k : Int) == 2) = false := by rw [kd_eq2, hk]; rfl
  have E : Hid (Px.atom s (n + 1) st = .ok (Px.leaf 116 1 Px.nowt st.t.a, Px.nx s st)) := by unfold Hid; rw [Px.atom, if_neg (by omega), if_neg (by omega), if_pos h1]
  clear r hk
  go_enter Tryz.func109, Tryz.ntmps109
  go_wp2_with fail
  refine (take_yes b s _ st eT eN _ R.out hs h1).mono ?_
  rintro e w1 ⟨k1, ⟨x, st1, v, he, rfl, rfl, r1⟩ | ⟨p, hp, ht⟩⟩
  · cases he
    have H1 : Hid (_ ∧ _) := ⟨k1, r1⟩
    have z := k1.size
    clear k1 r1 c0 c1 c2 c3 c4 c5 f
    go_wp2_with fail
    go_ret
    exact ⟨H1.out.1.alloc _, Or.inl ⟨_, _, _, E.out, rfl, ⟨w1.heap.size, ⟨z, by simp⟩, Or.inr (Or.inr ⟨rfl, rfl, new1⟩)⟩, H1.out.2.alloc _⟩⟩
  · obtain ⟨c, rfl⟩ := ht.form
    exact ⟨rfl, k1, Or.inr ⟨p, by rw [E.out]; exact fin_ok hp, ht⟩⟩

theorem atom_false (b : Nat) (s : ByteArray) (eT eN : Addr) (n : Nat) (hs : s.size ≤ maxLen) (st : Px.Ps) (w : World) (r : Rd w b s st eT eN) (h1 : Px.onB s st.t ⟨#[116, 114, 117, 101]⟩ = false) (h2 : Px.onB s st.t ⟨#[102, 97, 108, 115, 101]⟩ = true) :
    Calls Tryz.prog 109 #[.pointer (some ⟨b, 0, none⟩)] w (Out b s eT eN w (Px.atom s (n + 1) st) (XV w)) := by
  obtain ⟨td, c0, c1, c2, c3, c4, c5, f⟩ := r.cells
  have R : Hid (Rd w b s st eT eN) := r
  have hk := Px.onB_k h2
  have t1 : ((kd st.t.k : Int) == 3) = false := by rw [kd_eq3, hk]; rfl
  have t2 : ((kd st.t.k : Int) == 2) = false := by rw [kd_eq2, hk]; rfl
  have E : Hid (Px.atom s (n + 1) st = .ok (Px.leaf 116 0 Px.nowt st.t.a, Px.nx s st)) := by unfold Hid; rw [Px.atom, if_neg (by omega), if_neg (by omega), if_neg (by simp [h1]), if_pos h2]
  clear r hk
  go_enter Tryz.func109, Tryz.ntmps109
  go_wp2_with fail
  refine (take_no b s _ st eT eN _ R.out h1).mono ?_
  rintro e w1 ⟨rfl, rfl⟩
  go_wp2_with fail
  refine (take_yes b s _ st eT eN _ R.out hs h2).mono ?_
  rintro e w1 ⟨k1, ⟨x, st1, v, he, rfl, rfl, r1⟩ | ⟨p, hp, ht⟩⟩
  · cases he
    have H1 : Hid (_ ∧ _) := ⟨k1, r1⟩
    have z := k1.size
    clear k1 r1 c0 c1 c2 c3 c4 c5 f
    go_wp2_with fail
    go_ret
    exact ⟨H1.out.1.alloc _, Or.inl ⟨_, _, _, E.out, rfl, ⟨w1.heap.size, ⟨z, by simp⟩, Or.inr (Or.inr ⟨rfl, rfl, new1⟩)⟩, H1.out.2.alloc _⟩⟩
  · obtain ⟨c, rfl⟩ := ht.form
    exact ⟨rfl, k1, Or.inr ⟨p, by rw [E.out]; exact fin_ok hp, ht⟩⟩

theorem atom_not (b : Nat) (s : ByteArray) (eT eN : Addr) (n : Nat) (ih : AtomX b s eT eN n) (hs : s.size ≤ maxLen) (st : Px.Ps) (w : World) (hD : Ref.Dom s (n + 1) st) (r : Rd w b s st eT eN) (h1 : Px.onB s st.t ⟨#[116, 114, 117, 101]⟩ = false) (h2 : Px.onB s st.t ⟨#[102, 97, 108, 115, 101]⟩ = false) (h3 : Px.onB s st.t ⟨#[110, 111, 116]⟩ = true) :
    Calls Tryz.prog 109 #[.pointer (some ⟨b, 0, none⟩)] w (Out b s eT eN w (Px.atom s (n + 1) st) (XV w)) := by
  obtain ⟨td, c0, c1, c2, c3, c4, c5, f⟩ := r.cells
  have hb := r.lt
  have R : Hid (Rd w b s st eT eN ∧ AtomX b s eT eN n) := ⟨r, ih⟩
  have hk := Px.onB_k h3
  have t1 : ((kd st.t.k : Int) == 3) = false := by rw [kd_eq3, hk]; rfl
  have t2 : ((kd st.t.k : Int) == 2) = false := by rw [kd_eq2, hk]; rfl
  have E : Hid (Px.atom s (n + 1) st = match Px.atom s n (Px.nx s st) with
      | .error p => .error p
      | .ok (k, st') => .ok (⟨33, 0, Px.nowt, st.t.a, st.t.a, some k, none⟩, st')) := by unfold Hid; rw [Px.atom, if_neg (by omega), if_neg (by omega), if_neg (by simp [h1]), if_neg (by simp [h2]), if_pos h3]; cases Px.atom s n (Px.nx s st) <;> rfl
  have D1 : Hid (Ref.Dom s n (Px.nx s st)) := dom_down hD (Px.good_on hD.tk h3).tk (Px.good_on hD.tk h3).lt (Or.inl rfl)
  clear r hk ih hD
  go_enter Tryz.func109, Tryz.ntmps109
  go_wp2_with fail
  refine (take_no b s _ st eT eN _ R.out.1 h1).mono ?_
  rintro e w1 ⟨rfl, rfl⟩
  go_wp2_with fail
  refine (take_no b s _ st eT eN _ R.out.1 h2).mono ?_
  rintro e w1 ⟨rfl, rfl⟩
  go_wp2_with fail
  refine (take_yes b s _ st eT eN _ R.out.1 hs h3).mono ?_
  rintro e w1 ⟨k1, ⟨x, st1, v, he, rfl, rfl, r1⟩ | ⟨p, hp, ht⟩⟩
  · cases he
    have H1 : Hid (_ ∧ _) := ⟨k1, r1⟩
    clear k1 r1 c0 c1 c2 c3 c4 c5 f
    go_wp2_with fail
    refine (R.out.2 (Px.nx s st) _ D1.out H1.out.2).mono ?_
    rintro e w2 ⟨k2, ⟨x, st2, v, he, rfl, hv, r2⟩ | ⟨p, hp, ht⟩⟩
    · obtain ⟨tl, ql, rfl⟩ := XAt.form hv
      have E2 : Hid (Px.atom s (n + 1) st = .ok (⟨33, 0, Px.nowt, st.t.a, st.t.a, some x, none⟩, st2)) := by unfold Hid; rw [E.out, he]
      have z1 := H1.out.1.size
      have z2 := k2.size
      have X2 : Hid (XAt w2 x (Ref.In w1 w2) (.iface tl (Ref.ptr ql)) ∧ Kp b w1 w2 ∧ Rd w2 b s st2 eT eN) := ⟨hv, k2, r2⟩
      clear he hv k2 r2
      unfold Ref.ptr at X2 ⊢
      go_wp2_with fail
      go_ret
      refine ⟨(H1.out.1.trans X2.out.2.1).alloc _, Or.inl ⟨_, _, _, E2.out, rfl, ?_, X2.out.2.2.alloc _⟩⟩
      refine ⟨rfl, w2.heap.size, tl, ql, ⟨by omega, by simp⟩, rfl, new1, ?_⟩
      exact (X2.out.1.keep fun i hi => Below.heap_alloc _ _ _ hi.2).mono fun i hi => ⟨by have := hi.1; omega, by have := hi.2; simp; omega⟩
    · obtain ⟨c, rfl⟩ := ht.form
      refine ⟨rfl, H1.out.1.trans k2, Or.inr ⟨p, ?_, ht.low H1.out.1.size⟩⟩
      rw [E.out]
      rcases fin_cases hp with h4 | ⟨y, st3, h4, h5, rfl⟩
      · rw [h4]; rfl
      · rw [h4]; exact fin_63 _ h5
  · obtain ⟨c, rfl⟩ := ht.form
    refine ⟨rfl, k1, Or.inr ⟨p, ?_, ht⟩⟩
    obtain ⟨h4, rfl⟩ := fin_ok_k hp
    rw [E.out]
    rcases fin_cases (atom_late s n _ h4) with h5 | ⟨y, st3, h5, h6, h7⟩
    · rw [h5]; rfl
    · rw [h5, h7]; exact fin_63 _ h6

/-- A bracket, what stands in it, and its end. -/
def parX (s : ByteArray) (a : Nat) (r : Except Nat (Px.Ex × Px.Ps)) : Except Nat (Px.Ex × Px.Ps) :=
  match r with
  | .error p => .error p
  | .ok (e, st') => if Px.onB s st'.t ⟨#[41]⟩ then .ok ({ e with pl := a }, Px.upp (Px.nx s st')) else .error st'.t.a

theorem parX_fin {s : ByteArray} {a p : Nat} {r : Except Nat (Px.Ex × Px.Ps)} (h : fin r = .error p) : fin (parX s a r) = .error p := by
  rcases fin_cases h with rfl | ⟨x, st, rfl, h1, rfl⟩
  · rfl
  · unfold parX; simp only; rw [if_neg (by simp [onB_63 h1])]; rfl

theorem atom_par (b : Nat) (s : ByteArray) (eT eN : Addr) (n : Nat) (ih : PartX b s n eT eN 88 (Px.expr s (Px.atom s n))) (hs : s.size ≤ maxLen) (st : Px.Ps) (w : World) (hD : Ref.Dom s (n + 1) st) (r : Rd w b s st eT eN) (h0 : ¬ st.t.k = 110) (h0' : ¬ st.t.k = 119) (h1 : Px.onB s st.t ⟨#[116, 114, 117, 101]⟩ = false) (h2 : Px.onB s st.t ⟨#[102, 97, 108, 115, 101]⟩ = false) (h3 : Px.onB s st.t ⟨#[110, 111, 116]⟩ = false) :
    Calls Tryz.prog 109 #[.pointer (some ⟨b, 0, none⟩)] w (Out b s eT eN w (Px.atom s (n + 1) st) (XV w)) := by
  obtain ⟨td, c0, c1, c2, c3, c4, c5, f⟩ := r.cells
  have hb := r.lt
  have R : Hid (Rd w b s st eT eN ∧ PartX b s n eT eN 88 (Px.expr s (Px.atom s n))) := ⟨r, ih⟩
  have t1 : ((kd st.t.k : Int) == 3) = false := by rw [kd_eq3]; simpa using h0
  have t2 : ((kd st.t.k : Int) == 2) = false := by rw [kd_eq2]; simpa using h0'
  have E : Hid (Px.atom s (n + 1) st = if Px.onB s st.t ⟨#[40]⟩ = true then parX s st.t.a (Px.expr s (Px.atom s n) (Px.nx s (Px.dn st))) else .error st.t.a) := by
    unfold Hid; rw [Px.atom, if_neg h0, if_neg h0', if_neg (by simp [h1]), if_neg (by simp [h2]), if_neg (by simp [h3])]
    split
    · unfold parX; cases Px.expr s (Px.atom s n) (Px.nx s (Px.dn st)) <;> rfl
    · rfl
  have HD : Hid (_) := hD
  have hn0 := hD.n0
  have hn1 : st.nest ≤ 1000000 := by have := hD.n1; omega
  clear r h0 h0' ih hD
  go_enter Tryz.func109, Tryz.ntmps109
  go_wp2_with fail
  refine (take_no b s _ st eT eN _ R.out.1 h1).mono ?_
  rintro e w1 ⟨rfl, rfl⟩
  go_wp2_with fail
  refine (take_no b s _ st eT eN _ R.out.1 h2).mono ?_
  rintro e w1 ⟨rfl, rfl⟩
  go_wp2_with fail
  refine (take_no b s _ st eT eN _ R.out.1 h3).mono ?_
  rintro e w1 ⟨rfl, rfl⟩
  go_wp2_with fail
  refine (open_any b s _ st eT eN _ R.out.1 hs hn0 hn1).mono ?_
  rintro e w1 ⟨k1, ⟨x, st1, v, he, rfl, rfl, r1⟩ | ⟨p, hp, ht⟩⟩
  · have ho : Px.onB s st.t ⟨#[40]⟩ = true ∧ st1 = Px.nx s (Px.dn st) := by
      unfold openU at he
      split at he
      · rename_i ho; cases he; exact ⟨ho, rfl⟩
      · cases he
    obtain ⟨ho, rfl⟩ := ho
    have E1 : Hid (Px.atom s (n + 1) st = parX s st.t.a (Px.expr s (Px.atom s n) (Px.nx s (Px.dn st)))) := by unfold Hid; rw [E.out, if_pos ho]
    have D1 : Hid (Ref.Dom s n (Px.nx s (Px.dn st))) := dom_down HD.out (Px.good_on HD.out.tk ho).tk (Px.good_on HD.out.tk ho).lt (Or.inr rfl)
    have H1 : Hid (_ ∧ _) := ⟨k1, r1⟩
    clear k1 r1 c0 c1 c2 c3 c4 c5 f ho he
    go_wp2_with fail
    refine (R.out.2 _ _ D1.out H1.out.2).mono ?_
    rintro e w2 ⟨k2, ⟨x, st2, v, he, rfl, hv, r2⟩ | ⟨p, hp, ht⟩⟩
    · obtain ⟨tl, ql, rfl⟩ := XAt.form hv
      have gd := Px.expr_goes (Px.atom_goes s n) _ _ _ D1.out.tk he
      have gn : st2.nest = st.nest + 1 := gd.nest
      have X2 : Hid (XAt w2 x (Ref.In w1 w2) (.iface tl (Ref.ptr ql)) ∧ Kp b w1 w2 ∧ Rd w2 b s st2 eT eN ∧ Px.expr s (Px.atom s n) (Px.nx s (Px.dn st)) = .ok (x, st2)) := ⟨hv, k2, r2, he⟩
      clear he hv k2 r2 gd
      unfold Ref.ptr at X2 ⊢
      go_wp2_with fail
      refine (shut_any b s _ st2 eT eN _ X2.out.2.2.1 hs (by omega) (by omega)).mono ?_
      rintro e w3 ⟨k3, ⟨u, st3, v, he, rfl, rfl, r3⟩ | ⟨p, hp, ht⟩⟩
      · have ho : Px.onB s st2.t ⟨#[41]⟩ = true ∧ st3 = Px.upp (Px.nx s st2) := by
          unfold shutU at he
          split at he
          · rename_i ho; cases he; exact ⟨ho, rfl⟩
          · cases he
        obtain ⟨ho, rfl⟩ := ho
        have E3 : Hid (Px.atom s (n + 1) st = .ok ({ x with pl := st.t.a }, Px.upp (Px.nx s st2))) := by unfold Hid; rw [E1.out, X2.out.2.2.2]; unfold parX; simp only; rw [if_pos ho]
        have H3 : Hid (_ ∧ _) := ⟨k3, r3⟩
        have z1 := H1.out.1.size
        clear k3 r3 ho he
        go_wp2_with fail
        go_ret
        have k12 := X2.out.2.1.trans H3.out.1
        refine ⟨H1.out.1.trans k12, Or.inl ⟨_, _, _, E3.out, rfl, ?_, H3.out.2⟩⟩
        exact XAt.place ((XAt.kp X2.out.1 (by omega) H3.out.1).mono fun i hi => ⟨by have := hi.1; omega, hi.2⟩) _
      · obtain ⟨c, rfl⟩ := ht.form
        refine ⟨rfl, (H1.out.1.trans X2.out.2.1).trans k3, Or.inr ⟨p, ?_, ht.low (H1.out.1.trans X2.out.2.1).size⟩⟩
        rw [E1.out, X2.out.2.2.2]
        unfold shutU at hp
        unfold parX
        simp only
        split at hp
        · rename_i ho; rw [if_pos ho]; exact fin_ok hp
        · rename_i ho; rw [if_neg ho]; exact fin_err hp
    · obtain ⟨c, rfl⟩ := ht.form
      exact ⟨rfl, H1.out.1.trans k2, Or.inr ⟨p, by rw [E1.out]; exact parX_fin hp, ht.low H1.out.1.size⟩⟩
  · obtain ⟨c, rfl⟩ := ht.form
    refine ⟨rfl, k1, Or.inr ⟨p, ?_, ht⟩⟩
    rw [E.out]
    unfold openU at hp
    split at hp
    · rename_i ho
      rw [if_pos ho]
      obtain ⟨h4, rfl⟩ := fin_ok_k hp
      exact parX_fin (expr_late s (atom_late s n) _ h4)
    · rename_i ho
      rw [if_neg ho]
      exact fin_err hp

theorem atom_any (b : Nat) (s : ByteArray) (eT eN : Addr) (hs : s.size ≤ maxLen) (n : Nat) : AtomX b s eT eN n := by
  induction n with
  | zero => intro st w hD r; have := hD.room; omega
  | succ n ih =>
    intro st w hD r
    by_cases h0 : st.t.k = 110
    · exact atom_num b s eT eN n hs st w r h0
    · by_cases h0' : st.t.k = 119
      · exact atom_word b s eT eN n hs st w r h0'
      · cases h1 : Px.onB s st.t ⟨#[116, 114, 117, 101]⟩
        · cases h2 : Px.onB s st.t ⟨#[102, 97, 108, 115, 101]⟩
          · cases h3 : Px.onB s st.t ⟨#[110, 111, 116]⟩
            · exact atom_par b s eT eN n (expr_any b s n eT eN _ ih (Px.atom_goes s n) (atom_late s n) hs) hs st w hD r h0 h0' h1 h2 h3
            · exact atom_not b s eT eN n ih hs st w hD r h1 h2 h3
          · exact atom_false b s eT eN n hs st w r h1 h2
        · exact atom_true b s eT eN n hs st w r h1

/-- A whole expr. -/
theorem exprOf_any (b : Nat) (s : ByteArray) (eT eN : Addr) (hs : s.size ≤ maxLen) (st : Px.Ps) (w : World) (r : Rd w b s st eT eN) (hn0 : 0 ≤ st.nest) (hn1 : st.nest + (s.size + 1 : Nat) ≤ 1000000) :
    Calls Tryz.prog 88 #[.pointer (some ⟨b, 0, none⟩)] w (Out b s eT eN w (Px.exprOf s st) (XV w)) :=
  expr_any b s (s.size + 1) eT eN _ (atom_any b s eT eN hs (s.size + 1)) (Px.atom_goes s _) (atom_late s _) hs st w ⟨r.tk, by omega, hn0, hn1⟩ r

end Lg
end Go.Proofs.YtcogbbneodihkaaGreatDoor

namespace Go.Proofs.YtcogbbneodihkaaGreatDoor
open Go.RowKit
namespace Ref

structure DomS (s : ByteArray) (n : Nat) (st : Px.Ps) : Prop where
  tk : Px.Tk s st.t
  room : s.size - st.t.a < n
  n0 : 0 ≤ st.nest
  n1 : st.nest + n + (s.size + 1 : Nat) ≤ 1000000

theorem DomS.good0 {s : ByteArray} {n : Nat} {st st' : Px.Ps} (h : DomS s n st) (g : Px.Good0 s st st') : DomS s n st' :=
  ⟨g.tk, by have := h.room; have := g.le; omega, by rw [g.nest]; exact h.n0, by rw [g.nest]; exact h.n1⟩
theorem DomS.good {s : ByteArray} {n : Nat} {st st' : Px.Ps} (h : DomS s n st) (g : Px.Good s st st') : DomS s n st' := h.good0 g.zero

def StmtOk (b : Nat) (s : ByteArray) (n : Nat) (g : Px.Ps → Except Nat (Px.Sm × Px.Ps)) : Prop :=
  ∀ (st : Px.Ps) (w : World), DomS s n st → PenAt w b s st.t (-1) st.nest st.deep →
    Calls Tryz.prog 34 #[.pointer (some ⟨b, 0, none⟩)] w (StPost b s w (g st))

theorem infoStm : (Tryz.prog.info? 67).map (fun i => (i.zero, i.size, i.bytes)) = some (some (.pointer none), 1, 8) := by kernel_rfl

theorem kp_grown {b : Nat} {w w1 w2 : World} {row : Option Nat} (h : Kp b w w1) (hg : w1.grownBy w2 row) (hr : ∀ k, row = some k → w.heap.size ≤ k) : Kp b w w2 :=
  ⟨hg.os.trans h.os, hg.tape.trans h.tape, hg.output.trans h.output, Nat.le_trans h.size hg.size, fun k hk hb => (hg.block k (Nat.lt_of_lt_of_le hk h.size) (fun e => by have := hr k e.symm; omega)).trans (h.block k hk hb)⟩

/-- One statement more. -/
theorem ls_step {b : Nat} {s : ByteArray} {n : Nat} {g : Px.Ps → Except Nat (Px.Sm × Px.Ps)} {stop : Px.Ps → Bool} {R : Except Nat (List Px.Sm × Px.Ps)} {w wr w1 w2 : World} {v v' : Value} {qs : List Nat} {q : Nat} {l : List Px.Sm} {st : Px.Ps} {m : Nat}
    (hb : b < w.heap.size) (hg : Px.Goes s g) (KR : Kp b w wr) (hown : wr.ownsRow w.heap.size 67 1 v qs.length (qs.map ptr)) (L : SmsAt wr l (fun k => In w wr k ∧ some k ≠ v.ownBlock) qs) (hq : qs.length ≤ st.t.a) (hD : DomS s n st) (hm : s.size - st.t.a < m + 1)
    (CH : (match g st with
      | .error p => .error p
      | .ok (x, st') => Px.stmts s g stop m (l ++ [x]) st') = R)
    (H1 : StPost b s wr (g st) (.returned (ptr q)) w1)
    (hown' : w2.ownsRow w.heap.size 67 1 v' (qs.length + 1) (qs.map ptr ++ [ptr q])) (hgrow : (w1.alloc (.cells #[ptr q] 67)).grownBy w2 v.ownBlock) (hloc : v'.ownBlock = v.ownBlock ∨ v'.ownBlock = some (w1.heap.size + 1)) :
    LsRel b s g stop (DomS s n) R w w2 v' ∧ penM s b w2 < s.size + 1 - st.t.a := by
  obtain ⟨k1, q', he, h1⟩ := H1
  obtain rfl : q = q' := by simpa [ptr] using he
  have hob : ∀ k, v.ownBlock = some k → w.heap.size ≤ k ∧ k < wr.heap.size := hown.lt
  have kw1 : Kp b w w1 := KR.trans k1
  have kw2 : Kp b w w2 := kp_grown (kw1.alloc _) hgrow (fun k hk => (hob k hk).1)
  have s1 := KR.size
  have s2 := k1.size
  have s3 : w1.heap.size + 1 ≤ w2.heap.size := by have := hgrow.size; simpa using this
  have hpen : ∀ {t : Px.Tok} {bad nest deep : Int}, PenAt w1 b s t bad nest deep → PenAt w2 b s t bad nest deep := fun p => ⟨by
    have hl := p.lt
    rw [hgrow.block b (by simp; omega) (fun e => by have := (hob b e.symm).1; omega), Below.heap_alloc _ _ _ hl]; exact p.h⟩
  have hkeep : ∀ k, k < w1.heap.size → some k ≠ v.ownBlock → w2.heap[k]? = w1.heap[k]? := fun k hk hne => by
    rw [hgrow.block k (by simp; omega) hne, Below.heap_alloc _ _ _ hk]
  have hlen : (qs ++ [q]).length = qs.length + 1 := by simp
  have hmap : (qs ++ [q]).map ptr = qs.map ptr ++ [ptr q] := by simp
  have hd1 := hD.tk.le
  have hd2 := hD.tk.ab
  have hdr := hD.room
  refine (show (LsRel b s g stop (DomS s n) R w w2 v' ∧ penM s b w2 < s.size + 1 - st.t.a) from ?_)
  cases hr : g st with
  | error p =>
    rw [hr] at CH h1
    obtain ⟨t, nest, deep, hp⟩ := h1
    refine ⟨⟨kw2, qs ++ [q], by rw [hlen, hmap]; exact hown', Or.inr ⟨p, t, nest, deep, CH.symm, by rw [hlen]; omega, hpen hp⟩⟩, ?_⟩
    rw [penM_bad (hpen hp) (by omega)]
    omega
  | ok r =>
    obtain ⟨x, st'⟩ := r
    rw [hr] at CH h1
    obtain ⟨hx, hp⟩ := h1
    have g1 := hg _ _ _ hD.tk hr
    have g2 := g1.lt
    have g3 := g1.tk.ab
    have g4 := g1.tk.le
    have hnew : ∀ k, k < w1.heap.size → some k ≠ v.ownBlock → some k ≠ v'.ownBlock := by
      intro k hk hne
      rcases hloc with h | h
      · rw [h]; exact hne
      · rw [h]; simp; omega
    refine ⟨⟨kw2, qs ++ [q], by rw [hlen, hmap]; exact hown', Or.inl ⟨l ++ [x], st', m, ?_, by rw [hlen]; omega, hpen hp, hD.good g1, CH, by omega⟩⟩, ?_⟩
    · refine SmsAt.snoc ?_ ?_
      · have e1 : SmsAt w1 l (fun k => In w wr k ∧ some k ≠ v.ownBlock) qs := L.keep fun k hk => k1.block k hk.1.2 (by have := hk.1.1; omega)
        have e2 : SmsAt w2 l (fun k => In w wr k ∧ some k ≠ v.ownBlock) qs := e1.keep fun k hk => hkeep k (by have := hk.1.2; omega) hk.2
        exact e2.mono fun k hk => ⟨⟨hk.1.1, by have := hk.1.2; omega⟩, hnew k (by have := hk.1.2; omega) hk.2⟩
      · have hne : ∀ k, In wr w1 k → some k ≠ v.ownBlock := fun k hk e => by have := (hob k e.symm).2; have := hk.1; omega
        have e2 : SmAt w2 x (In wr w1) q := hx.keep fun k hk => hkeep k hk.2 (hne k hk)
        exact e2.mono fun k hk => ⟨⟨by have := hk.1; omega, by have := hk.2; omega⟩, hnew k hk.2 (hne k hk)⟩
    · rw [penM_ok (hpen hp)]
      omega

/-- The list, read. -/
theorem own_sl {w : World} {base : Nat} {v : Value} {qs : List Nat} {ok : Nat → Prop} (h : w.ownsRow base 67 1 v qs.length (qs.map ptr)) (hk : ∀ k, v.ownBlock = some k → ok k) : SlAt w v qs ok := by
  rcases h.2 with ⟨h1, h2⟩ | ⟨g, cap, cur, h1, h2, h3, h4, h5, h6, h7⟩
  · exact Or.inl ⟨h1, List.length_eq_zero_iff.1 h2⟩
  · refine Or.inr ⟨g, cap, cur, h1, hk g (by rw [h1]; rfl), h3, h4, h5, by omega, ?_⟩
    rw [Nat.mul_one] at h7
    exact h7

theorem own_shape {w : World} {base : Nat} {e : TypeId} {v : Value} {n : Nat} {xs : List Value} (h : w.ownsRow base e 1 v n xs) : ∃ a k c, v = .slice a k c := by
  rcases h.2 with ⟨h1, _⟩ | ⟨g, cap, cur, h1, _⟩
  · exact ⟨_, _, _, h1⟩
  · exact ⟨_, _, _, h1⟩

theorem own_keep {w w' : World} {base : Nat} {e : TypeId} {v : Value} {n : Nat} {xs : List Value} (h : w.ownsRow base e 1 v n xs) (hk : ∀ k, v.ownBlock = some k → w'.heap[k]? = w.heap[k]?) : w'.ownsRow base e 1 v n xs := by
  refine ⟨h.1, ?_⟩
  rcases h.2 with h1 | ⟨g, cap, cur, h1, h2, h3, h4⟩
  · exact Or.inl h1
  · exact Or.inr ⟨g, cap, cur, h1, h2, by rw [hk g (by rw [h1]; rfl)]; exact h3, h4⟩

set_option maxRecDepth 100000 in
set_option maxHeartbeats 2000000 in
theorem block_on (b : Nat) (s : ByteArray) (n : Nat) (g : Px.Ps → Except Nat (Px.Sm × Px.Ps)) (hst : StmtOk b s n g) (hg : Px.Goes s g) (hs3 : s.size ≤ 300) (st : Px.Ps) (w : World) (hD : DomS s (n + 1) st) (p : PenAt w b s st.t (-1) st.nest st.deep) (ho : Px.onB s st.t ⟨#[123]⟩ = true) :
    Calls Tryz.prog 56 #[.pointer (some ⟨b, 0, none⟩)] w (BlPost b s w (Px.block s g st)) := by
  obtain ⟨i0, hi, hz0, hz1, hz2⟩ := info_parts infoStm
  have hs : s.size ≤ maxLen := by unfold maxLen; omega
  have hb := p.lt
  have HG : Hid (Px.Goes s g) := hg
  have HD : Hid (DomS s (n + 1) st ∧ PenAt w b s st.t (-1) st.nest st.deep) := ⟨hD, p⟩
  have hn0 := hD.n0
  have hn1 : st.nest ≤ 1000000 := by have := hD.n1; omega
  have D1 : Hid (DomS s n (Px.nx s (Px.dn st))) := by
    have g1 := Px.good_on hD.tk ho
    have h1 := hD.room
    have h2 := g1.lt
    have h3 := g1.tk.ab
    have h4 := g1.tk.le
    have h5 := hD.n1
    have h6 : st.t.a < (Px.nx s (Px.dn st)).t.a := h2
    have h7 : (Px.nx s (Px.dn st)).t.a ≤ s.size := by have : (Px.nx s (Px.dn st)).t = (Px.nx s st).t := rfl; rw [this]; omega
    refine ⟨g1.tk, by omega, ?_, ?_⟩
    · show 0 ≤ st.nest + 1; omega
    · show st.nest + 1 + n + (s.size + 1 : Nat) ≤ 1000000; push_cast at h5 ⊢; omega
  have e1 : Hid (Px.block s g st = match Px.stmts s g (fun st => Px.onB s st.t ⟨#[125]⟩) (s.size + 1) [] (Px.nx s (Px.dn st)) with
    | .error p => .error p
    | .ok (l, st') => .ok (l, Px.upp (Px.nx s st'))) := by
    unfold Hid; rw [Px.block, if_pos ho]
    cases Px.stmts s g (fun st => Px.onB s st.t ⟨#[125]⟩) (s.size + 1) [] (Px.nx s (Px.dn st)) <;> rfl
  clear hD p hg
  go_enter Tryz.func56, Tryz.ntmps56
  go_wp2_with fail
  refine (on_ok b s _ st.t st.nest st.deep _ HD.out.2).mono ?_
  rintro e w' ⟨rfl, rfl⟩
  go_wp2_with fail
  refine (down_ok b s st.t st.nest st.deep _ HD.out.2 hn0 hn1).mono ?_
  rintro e w1 ⟨rfl, p1, k1⟩
  have P1 : Hid (_ ∧ _) := ⟨p1, k1⟩
  clear p1 k1
  go_wp2_with fail
  refine (next_ok b s st.t (st.nest + 1) _ _ P1.out.1 HD.out.1.tk.le hs).mono ?_
  rintro e w2 ⟨rfl, p2, k2⟩
  have P2 : Hid (_ ∧ _) := ⟨p2, k2⟩
  clear p2 k2
  go_wp2_with fail
  generalize hR : Px.stmts s g (fun st => Px.onB s st.t ⟨#[125]⟩) (s.size + 1) [] (Px.nx s (Px.dn st)) = R at e1
  have HR := hR
  have HRR : Hid (Px.stmts s g (fun st => Px.onB s st.t ⟨#[125]⟩) (s.size + 1) [] (Px.nx s (Px.dn st)) = R) := hR
  clear HR hR
  go_loopw [4] (fun v wr => Hid (LsRel b s g (fun st => Px.onB s st.t ⟨#[125]⟩) (DomS s n) R w wr v)) (fun _ wr => penM s b wr)
  case atStart =>
    refine ⟨P1.out.2.trans P2.out.2, [], World.ownsRow_nil _ _ _ _, Or.inl ⟨[], Px.nx s (Px.dn st), s.size + 1, SmsAt.nil_iff.2 rfl, by simp, P2.out.1, D1.out, HRR.out, by omega⟩⟩
  case round =>
    obtain ⟨kr, qs, hown, hcase⟩ := hrel.out
    clear hrel
    obtain ⟨va, vn, vc, rfl⟩ := own_shape hown
    have KR : Hid (Kp b w wr ∧ wr.ownsRow w.heap.size 67 1 (.slice va vn vc) qs.length (qs.map ptr)) := ⟨kr, hown⟩
    clear kr hown
    rcases hcase with ⟨l, st1, m, hl, hq, p1, hD1, hch, hm⟩ | ⟨pe, t, nest, deep, hRe, hq, p1⟩
    · obtain ⟨m, rfl⟩ : ∃ m', m = m' + 1 := ⟨m - 1, by omega⟩
      obtain ⟨c0, c1, c2, c3, c4, c5, c6, c7, f, hbr⟩ := p1.cells
      have L : Hid (SmsAt wr l (fun k => In w wr k ∧ some k ≠ (Value.slice va vn vc).ownBlock) qs) := hl
      have PP : Hid (PenAt wr b s st1.t (-1) st1.nest st1.deep) := p1
      have DD : Hid (DomS s n st1) := hD1
      have CH : Hid (Px.stmts s g (fun st => Px.onB s st.t ⟨#[125]⟩) (m + 1) l st1 = R) := hch
      clear hl p1 hD1 hch
      cases hc : Px.onB s st1.t ⟨#[125]⟩
      · go_wp2_with (first | (go_at_call 77; refine (on_ok b s _ st1.t st1.nest st1.deep _ PP.out).mono ?_; rintro e w' ⟨rfl, rfl⟩))
        refine (hst st1 _ DD.out PP.out).mono ?_
        rintro e w3 ⟨k3, q, rfl, h3⟩
        have hown3 : w3.ownsRow w.heap.size 67 1 (.slice va vn vc) qs.length (qs.map ptr) := own_keep KR.out.2 fun k hk => k3.block k (KR.out.2.lt k hk).2 (by have := (KR.out.2.lt k hk).1; omega)
        have hsz3 : w.heap.size ≤ w3.heap.size := by have := k3.size; have := KR.out.1.size; omega
        have hqb : qs.length ≤ 300 := by have := DD.out.tk.ab; have := DD.out.tk.le; omega
        have H3 : Hid (StPost b s wr (g st1) (.returned (ptr q)) w3) := ⟨k3, q, rfl, h3⟩
        unfold ptr
        clear k3 h3 c0 c1 c2 c3 c4 c5 c6 c7 f
        go_wp2_with (first
          | (at_builtin; refine wpList_append_own_at _ rfl _ _ 40 rfl w.heap.size 67 i0 (.pointer none) 1 8 Tryz.underlying40 hi hz0 hz1 hz2 rfl (by decide) _ _ _ rfl (hown3.alloc _) ⟨w3.heap.size, 0, none⟩ 1 1 [.pointer (some ⟨q, 0, none⟩)] rfl rfl ?c1 ?c2 ?c3 ?c4 ?c5 ?_)
          | fail)
        case c1 =>
          intro j u hj
          match j, hj with
          | 0, hj => simp at hj; subst hj; simp [Addr.add]
        case c2 => intro u hu; simp at hu; subst hu; rfl
        case c3 => unfold maxLen; omega
        case c4 => omega
        case c5 => simp; omega
        · intro v' w4 hown' hgrow _ hloc
          obtain ⟨r1, r2⟩ := ls_step hb HG.out KR.out.1 KR.out.2 L.out hq DD.out hm (R := R) (stop := fun st => Px.onB s st.t ⟨#[125]⟩) (by rw [← CH.out, Px.stmts, if_neg (by simp [hc])]; cases g st1 <;> rfl) H3.out hown' hgrow hloc
          have RR : Hid (_ ∧ _) := ⟨r1, r2⟩
          clear r1 r2 hown' hgrow hloc hown3
          go_wp2
          exact ⟨RR.out.1, by rw [penM_ok PP.out]; exact RR.out.2⟩
      · have hRok : Hid (R = .ok (l, st1)) := by unfold Hid; rw [← CH.out, Px.stmts, if_pos hc]
        go_wp2_with (first | (go_at_call 77; refine (on_ok b s _ st1.t st1.nest st1.deep _ PP.out).mono ?_; rintro e w' ⟨rfl, rfl⟩))
        refine (need_yes b s _ st1.t st1.nest st1.deep _ PP.out DD.out.tk.le hs hc).mono ?_
        rintro e w3 ⟨rfl, p3, k3⟩
        have P3 : Hid (_ ∧ _) := ⟨p3, k3⟩
        clear p3 k3 c0 c1 c2 c3 c4 c5 c6 c7 f
        go_wp2_with fail
        refine (upU b s (.ok (Px.nx s st1)) _ ⟨P3.out.1, Px.nx_tk DD.out.tk⟩ ?hnest).mono ?_
        case hnest =>
          intro st0 h0
          cases h0
          have h1 := DD.out.n0
          have h2 := DD.out.n1
          show 0 ≤ st1.nest ∧ st1.nest ≤ 2000000
          omega
        rintro e w4 ⟨rfl, k4, p4⟩
        have P4 : Hid (Kp b w3 w4 ∧ PSt w4 b s (.ok (Px.upp (Px.nx s st1)))) := ⟨k4, p4⟩
        clear k4 p4
        go_wp2_with fail
        go_ret
        have k34 : Kp b wr w4 := P3.out.2.trans P4.out.1
        have z4 := k34.size
        have z1 := KR.out.1.size
        refine ⟨KR.out.1.trans k34, va, vn, vc, rfl, ?_⟩
        rw [e1.out, hRok.out]
        refine ⟨qs, ?_, ?_, P4.out.2.1⟩
        · refine own_sl (own_keep KR.out.2 fun k hk => k34.block k (KR.out.2.lt k hk).2 (by have := (KR.out.2.lt k hk).1; omega)) fun k hk => ?_
          have := KR.out.2.lt k hk
          exact ⟨this.1, by omega⟩
        · exact (L.out.keep fun k hk => k34.block k hk.1.2 (by have := hk.1.1; omega)).mono fun k hk => ⟨hk.1.1, by have := hk.1.2; omega⟩
    · obtain ⟨c0, c1, c2, c3, c4, c5, c6, c7, f, hbr⟩ := p1.cells
      have PP : Hid (R = .error pe ∧ PenAt wr b s t (pe : Int) nest deep) := ⟨hRe, p1⟩
      have hpe : (0 : Int) ≤ pe := by omega
      clear p1 hRe
      go_wp2_with fail
      refine (need_bad b s _ t (pe : Int) nest deep _ PP.out.2 (by omega)).mono ?_
      rintro e w' ⟨rfl, rfl⟩
      go_wp2_with fail
      refine (up_ok b s t (pe : Int) nest deep _ PP.out.2).mono ?_
      rintro e w4 ⟨rfl, p4, k4⟩
      have P4 : Hid (_ ∧ _) := ⟨p4, k4⟩
      clear k4 p4
      go_wp2_with fail
      go_ret
      refine ⟨KR.out.1.trans P4.out.2, va, vn, vc, rfl, ?_⟩
      rw [e1.out, PP.out.1]
      exact ⟨_, _, _, P4.out.1⟩

theorem block_no (b : Nat) (s : ByteArray) (g : Px.Ps → Except Nat (Px.Sm × Px.Ps)) (st : Px.Ps) (w : World) (p : PenAt w b s st.t (-1) st.nest st.deep) (ho : Px.onB s st.t ⟨#[123]⟩ = false) :
    Calls Tryz.prog 56 #[.pointer (some ⟨b, 0, none⟩)] w (BlPost b s w (Px.block s g st)) := by
  have P0 : Hid (PenAt w b s st.t (-1) st.nest st.deep) := p
  have e1 : Hid (Px.block s g st = .error st.t.a) := by unfold Hid; rw [Px.block, if_neg (by simp [ho])]
  clear p
  go_enter Tryz.func56, Tryz.ntmps56
  go_wp2_with fail
  refine (on_ok b s _ st.t st.nest st.deep _ P0.out).mono ?_
  rintro e w' ⟨rfl, rfl⟩
  go_wp2_with fail
  refine (fail_ok b s st.t st.nest st.deep _ P0.out).mono ?_
  rintro e w1 ⟨rfl, p1, k1⟩
  have P1 : Hid (_ ∧ _) := ⟨p1, k1⟩
  clear p1 k1
  go_wp2_with fail
  go_ret
  refine ⟨P1.out.2, none, 0, 0, rfl, ?_⟩
  rw [e1.out]
  exact ⟨_, _, _, P1.out.1⟩

theorem block_bad (b : Nat) (s : ByteArray) (t : Px.Tok) (pe : Nat) (nest deep : Int) (w : World) (p : PenAt w b s t (pe : Int) nest deep) :
    Calls Tryz.prog 56 #[.pointer (some ⟨b, 0, none⟩)] w (BlPost b s w (.error pe)) := by
  have P0 : Hid (PenAt w b s t (pe : Int) nest deep) := p
  clear p
  go_enter Tryz.func56, Tryz.ntmps56
  go_wp2_with fail
  refine (on_bad b s _ t (pe : Int) nest deep _ P0.out (by omega)).mono ?_
  rintro e w' ⟨rfl, rfl⟩
  go_wp2_with fail
  refine (fail_bad b s t (pe : Int) nest deep _ P0.out (by omega)).mono ?_
  rintro e w' ⟨rfl, rfl⟩
  go_wp2_with fail
  go_ret
  exact ⟨Kp.refl _ _, none, 0, 0, rfl, _, _, _, P0.out⟩

theorem blockU (b : Nat) (s : ByteArray) (n : Nat) (g : Px.Ps → Except Nat (Px.Sm × Px.Ps)) (hst : StmtOk b s n g) (hg : Px.Goes s g) (hs3 : s.size ≤ 300) (r : Except Nat Px.Ps) (w : World) (p : PSt w b s r) (hD : ∀ st, r = .ok st → DomS s (n + 1) st) :
    Calls Tryz.prog 56 #[.pointer (some ⟨b, 0, none⟩)] w (BlPost b s w (r.bind (Px.block s g))) := by
  cases r with
  | error pe => obtain ⟨t, nest, deep, hp⟩ := p; exact block_bad b s t pe nest deep w hp
  | ok st =>
    cases ho : Px.onB s st.t ⟨#[123]⟩
    · exact block_no b s g st w p.1 ho
    · exact block_on b s n g hst hg hs3 st w (hD st rfl) p.1 ho

end Ref
end Go.Proofs.YtcogbbneodihkaaGreatDoor

namespace Go.Proofs.YtcogbbneodihkaaGreatDoor
open Go.RowKit
namespace Lg

/-- A slice of statements. -/
def SlL (w : World) (v : Value) (vs : List Value) (ok : Nat → Prop) : Prop :=
  (v = .slice none 0 0 ∧ vs = []) ∨
  ∃ g cap cur, v = .slice (some ⟨g, 0, none⟩) vs.length cap ∧ ok g ∧ w.heap[g]? = some (.cells cur 102) ∧ vs.length ≤ cap ∧ cap ≤ maxLen ∧ cur.size = cap ∧ cur.toList.take vs.length = vs

/-- A whole expr and its place. -/
def RootAt (w : World) (e : Px.Ex) (ok : Nat → Prop) (q : Nat) : Prop := ok q ∧ ∃ tl ql, w.heap[q]? = some (.cells #[.iface tl (Ref.ptr ql), .int .i64 (e.pl : Int)] 202) ∧ XAt w e ok (.iface tl (Ref.ptr ql))

def ArgAt (w : World) (x : Option Px.Ex) (ok : Nat → Prop) (v : Value) : Prop :=
  match x with
  | none => v = .pointer none
  | some e => ∃ q, v = Ref.ptr q ∧ RootAt w e ok q

def AsAt (w : World) (x : ByteArray) (a : Nat) (ok : Nat → Prop) (v : Value) : Prop := (x.size = 0 ∧ v = .pointer none) ∨ (0 < x.size ∧ ∃ q, v = Ref.ptr q ∧ VarAt w x a ok q)

/-- A statement's own block. -/
def Nd (w : World) (x : Px.Sm) (ok : Nat → Prop) (v v1 v2 : Value) : Prop :=
  ∃ q, ok q ∧
  ((x.op = 108 ∧ v = .iface 145 (Ref.ptr q) ∧ ∃ qv tl ql e, w.heap[q]? = some (.cells #[Ref.ptr qv, .iface tl (Ref.ptr ql)] 177) ∧ VarAt w x.word x.pl ok qv ∧ x.ex = some e ∧ XAt w e ok (.iface tl (Ref.ptr ql))) ∨
   (x.op = 99 ∧ v = .iface 147 (Ref.ptr q) ∧ ∃ pa ps qn, w.heap[q]? = some (.cells #[.string x.word, .pointer pa, .pointer ps, .string x.undo, Ref.ptr qn] 183) ∧ ArgAt w x.ex ok (.pointer pa) ∧ AsAt w x.asw x.asPl ok (.pointer ps) ∧ NumAt w x.n x.nPl ok qn) ∨
   (x.op = 105 ∧ v = .iface 149 (Ref.ptr q) ∧ ∃ qr e, w.heap[q]? = some (.cells #[Ref.ptr qr, v1, v2] 186) ∧ x.ex = some e ∧ RootAt w e ok qr) ∨
   (x.op = 116 ∧ v = .iface 151 (Ref.ptr q) ∧ w.heap[q]? = some (.cells #[v1, v2] 188)) ∨
   (x.op = 114 ∧ v = .iface 153 (Ref.ptr q) ∧ ∃ qn, w.heap[q]? = some (.cells #[Ref.ptr qn, v1] 157) ∧ NumAt w x.n x.nPl ok qn) ∨
   (x.op = 102 ∧ v = .iface 158 (Ref.ptr q)))

/-- Statements in the program's memory. -/
def LsAt (w : World) : List Px.Sm → (Nat → Prop) → List Value → Prop
  | [], _, vs => vs = []
  | ⟨op, word, pl, ex, av, asPl, undo, n, nPl, one, two⟩ :: rest, ok, vs => ∃ v vs', vs = v :: vs' ∧ LsAt w rest ok vs' ∧ ∃ v1 v2 u1 u2, Nd w ⟨op, word, pl, ex, av, asPl, undo, n, nPl, [], []⟩ ok v v1 v2 ∧ SlL w v1 u1 ok ∧ LsAt w one ok u1 ∧ SlL w v2 u2 ok ∧ LsAt w two ok u2

theorem LsAt.nil_iff {w : World} {ok : Nat → Prop} {vs : List Value} : LsAt w [] ok vs ↔ vs = [] := by rw [LsAt]

/-- One statement. -/
def SAt (w : World) (x : Px.Sm) (ok : Nat → Prop) (v : Value) : Prop :=
  ∃ v1 v2 u1 u2, Nd w x ok v v1 v2 ∧ SlL w v1 u1 ok ∧ LsAt w x.one ok u1 ∧ SlL w v2 u2 ok ∧ LsAt w x.two ok u2

theorem LsAt.cons_iff {w : World} {x : Px.Sm} {rest : List Px.Sm} {ok : Nat → Prop} {vs : List Value} : LsAt w (x :: rest) ok vs ↔ ∃ v vs', vs = v :: vs' ∧ LsAt w rest ok vs' ∧ SAt w x ok v := by
  obtain ⟨op, word, pl, ex, av, asPl, undo, n, nPl, one, two⟩ := x
  rw [LsAt]
  rfl

theorem LsAt.cons {w : World} {x : Px.Sm} {rest : List Px.Sm} {ok : Nat → Prop} {v : Value} {vs : List Value} (h : SAt w x ok v) (hr : LsAt w rest ok vs) : LsAt w (x :: rest) ok (v :: vs) :=
  LsAt.cons_iff.2 ⟨v, vs, rfl, hr, h⟩

theorem LsAt.snoc {w : World} {l : List Px.Sm} {x : Px.Sm} {ok : Nat → Prop} {v : Value} {vs : List Value} (h : LsAt w l ok vs) (hx : SAt w x ok v) : LsAt w (l ++ [x]) ok (vs ++ [v]) := by
  induction l generalizing vs with
  | nil => cases LsAt.nil_iff.1 h; exact LsAt.cons hx (LsAt.nil_iff.2 rfl)
  | cons y l ih =>
    obtain ⟨v', vs', rfl, h1, h2⟩ := LsAt.cons_iff.1 h
    exact LsAt.cons h2 (ih h1)

theorem VarAt.mono {w : World} {x : ByteArray} {a q : Nat} {ok ok' : Nat → Prop} (h : VarAt w x a ok q) (hk : ∀ k, ok k → ok' k) : VarAt w x a ok' q := ⟨hk _ h.1, h.2⟩
theorem VarAt.keep {w w' : World} {x : ByteArray} {a q : Nat} {ok : Nat → Prop} (h : VarAt w x a ok q) (hk : ∀ k, ok k → w'.heap[k]? = w.heap[k]?) : VarAt w' x a ok q := ⟨h.1, by rw [hk _ h.1]; exact h.2⟩
theorem NumAt.mono {w : World} {n a q : Nat} {ok ok' : Nat → Prop} (h : NumAt w n a ok q) (hk : ∀ k, ok k → ok' k) : NumAt w n a ok' q := ⟨hk _ h.1, h.2⟩
theorem NumAt.keep {w w' : World} {n a q : Nat} {ok : Nat → Prop} (h : NumAt w n a ok q) (hk : ∀ k, ok k → w'.heap[k]? = w.heap[k]?) : NumAt w' n a ok q := ⟨h.1, by rw [hk _ h.1]; exact h.2⟩
theorem RootAt.mono {w : World} {e : Px.Ex} {q : Nat} {ok ok' : Nat → Prop} (h : RootAt w e ok q) (hk : ∀ k, ok k → ok' k) : RootAt w e ok' q := by
  obtain ⟨h1, tl, ql, h2, h3⟩ := h; exact ⟨hk _ h1, tl, ql, h2, h3.mono hk⟩
theorem RootAt.keep {w w' : World} {e : Px.Ex} {q : Nat} {ok : Nat → Prop} (h : RootAt w e ok q) (hk : ∀ k, ok k → w'.heap[k]? = w.heap[k]?) : RootAt w' e ok q := by
  obtain ⟨h1, tl, ql, h2, h3⟩ := h; exact ⟨h1, tl, ql, by rw [hk _ h1]; exact h2, h3.keep hk⟩
theorem ArgAt.mono {w : World} {x : Option Px.Ex} {v : Value} {ok ok' : Nat → Prop} (h : ArgAt w x ok v) (hk : ∀ k, ok k → ok' k) : ArgAt w x ok' v := by
  cases x with
  | none => exact h
  | some e => obtain ⟨q, h1, h2⟩ := h; exact ⟨q, h1, h2.mono hk⟩
theorem ArgAt.keep {w w' : World} {x : Option Px.Ex} {v : Value} {ok : Nat → Prop} (h : ArgAt w x ok v) (hk : ∀ k, ok k → w'.heap[k]? = w.heap[k]?) : ArgAt w' x ok v := by
  cases x with
  | none => exact h
  | some e => obtain ⟨q, h1, h2⟩ := h; exact ⟨q, h1, h2.keep hk⟩
theorem AsAt.mono {w : World} {x : ByteArray} {a : Nat} {v : Value} {ok ok' : Nat → Prop} (h : AsAt w x a ok v) (hk : ∀ k, ok k → ok' k) : AsAt w x a ok' v := by
  rcases h with h | ⟨h0, q, h1, h2⟩
  · exact Or.inl h
  · exact Or.inr ⟨h0, q, h1, h2.mono hk⟩
theorem AsAt.keep {w w' : World} {x : ByteArray} {a : Nat} {v : Value} {ok : Nat → Prop} (h : AsAt w x a ok v) (hk : ∀ k, ok k → w'.heap[k]? = w.heap[k]?) : AsAt w' x a ok v := by
  rcases h with h | ⟨h0, q, h1, h2⟩
  · exact Or.inl h
  · exact Or.inr ⟨h0, q, h1, h2.keep hk⟩
theorem Nd.mono {w : World} {x : Px.Sm} {v v1 v2 : Value} {ok ok' : Nat → Prop} (h : Nd w x ok v v1 v2) (hk : ∀ k, ok k → ok' k) : Nd w x ok' v v1 v2 := by
  obtain ⟨q, hq, ⟨h0, h1, qv, tl, ql, e, h2, h3, h4, h5⟩ | ⟨h0, h1, pa, ps, qn, h2, h3, h4, h5⟩ | ⟨h0, h1, qr, e, h2, h3, h4⟩ | ⟨h0, h1, h2⟩ | ⟨h0, h1, qn, h2, h3⟩ | ⟨h0, h1⟩⟩ := h
  · exact ⟨q, hk _ hq, Or.inl ⟨h0, h1, qv, tl, ql, e, h2, h3.mono hk, h4, h5.mono hk⟩⟩
  · exact ⟨q, hk _ hq, Or.inr (Or.inl ⟨h0, h1, pa, ps, qn, h2, h3.mono hk, h4.mono hk, h5.mono hk⟩)⟩
  · exact ⟨q, hk _ hq, Or.inr (Or.inr (Or.inl ⟨h0, h1, qr, e, h2, h3, h4.mono hk⟩))⟩
  · exact ⟨q, hk _ hq, Or.inr (Or.inr (Or.inr (Or.inl ⟨h0, h1, h2⟩)))⟩
  · exact ⟨q, hk _ hq, Or.inr (Or.inr (Or.inr (Or.inr (Or.inl ⟨h0, h1, qn, h2, h3.mono hk⟩))))⟩
  · exact ⟨q, hk _ hq, Or.inr (Or.inr (Or.inr (Or.inr (Or.inr ⟨h0, h1⟩))))⟩
theorem Nd.keep {w w' : World} {x : Px.Sm} {v v1 v2 : Value} {ok : Nat → Prop} (h : Nd w x ok v v1 v2) (hk : ∀ k, ok k → w'.heap[k]? = w.heap[k]?) : Nd w' x ok v v1 v2 := by
  obtain ⟨q, hq, ⟨h0, h1, qv, tl, ql, e, h2, h3, h4, h5⟩ | ⟨h0, h1, pa, ps, qn, h2, h3, h4, h5⟩ | ⟨h0, h1, qr, e, h2, h3, h4⟩ | ⟨h0, h1, h2⟩ | ⟨h0, h1, qn, h2, h3⟩ | ⟨h0, h1⟩⟩ := h
  · exact ⟨q, hq, Or.inl ⟨h0, h1, qv, tl, ql, e, by rw [hk _ hq]; exact h2, h3.keep hk, h4, h5.keep hk⟩⟩
  · exact ⟨q, hq, Or.inr (Or.inl ⟨h0, h1, pa, ps, qn, by rw [hk _ hq]; exact h2, h3.keep hk, h4.keep hk, h5.keep hk⟩)⟩
  · exact ⟨q, hq, Or.inr (Or.inr (Or.inl ⟨h0, h1, qr, e, by rw [hk _ hq]; exact h2, h3, h4.keep hk⟩))⟩
  · exact ⟨q, hq, Or.inr (Or.inr (Or.inr (Or.inl ⟨h0, h1, by rw [hk _ hq]; exact h2⟩)))⟩
  · exact ⟨q, hq, Or.inr (Or.inr (Or.inr (Or.inr (Or.inl ⟨h0, h1, qn, by rw [hk _ hq]; exact h2, h3.keep hk⟩))))⟩
  · exact ⟨q, hq, Or.inr (Or.inr (Or.inr (Or.inr (Or.inr ⟨h0, h1⟩))))⟩
theorem SlL.mono {w : World} {v : Value} {vs : List Value} {ok ok' : Nat → Prop} (h : SlL w v vs ok) (hk : ∀ k, ok k → ok' k) : SlL w v vs ok' := by
  rcases h with h | ⟨g, cap, cur, h1, h2, h3⟩
  · exact Or.inl h
  · exact Or.inr ⟨g, cap, cur, h1, hk _ h2, h3⟩
theorem SlL.keep {w w' : World} {v : Value} {vs : List Value} {ok : Nat → Prop} (h : SlL w v vs ok) (hk : ∀ k, ok k → w'.heap[k]? = w.heap[k]?) : SlL w' v vs ok := by
  rcases h with h | ⟨g, cap, cur, h1, h2, h3, h4⟩
  · exact Or.inl h
  · exact Or.inr ⟨g, cap, cur, h1, h2, by rw [hk _ h2]; exact h3, h4⟩
theorem LsAt.mono {w : World} {l : List Px.Sm} {ok ok' : Nat → Prop} {vs : List Value} (h : LsAt w l ok vs) (hk : ∀ k, ok k → ok' k) : LsAt w l ok' vs := by
  match l with
  | [] => exact LsAt.nil_iff.2 (LsAt.nil_iff.1 h)
  | ⟨op, word, pl, ex, av, asPl, undo, n, nPl, one, two⟩ :: rest =>
    obtain ⟨v, vs', h1, h2, v1, v2, u1, u2, h3, h4, h5, h6, h7⟩ := LsAt.cons_iff.1 h
    exact LsAt.cons_iff.2 ⟨v, vs', h1, h2.mono hk, v1, v2, u1, u2, h3.mono hk, h4.mono hk, h5.mono hk, h6.mono hk, h7.mono hk⟩
theorem LsAt.keep {w w' : World} {l : List Px.Sm} {ok : Nat → Prop} {vs : List Value} (h : LsAt w l ok vs) (hk : ∀ k, ok k → w'.heap[k]? = w.heap[k]?) : LsAt w' l ok vs := by
  match l with
  | [] => exact LsAt.nil_iff.2 (LsAt.nil_iff.1 h)
  | ⟨op, word, pl, ex, av, asPl, undo, n, nPl, one, two⟩ :: rest =>
    obtain ⟨v, vs', h1, h2, v1, v2, u1, u2, h3, h4, h5, h6, h7⟩ := LsAt.cons_iff.1 h
    exact LsAt.cons_iff.2 ⟨v, vs', h1, h2.keep hk, v1, v2, u1, u2, h3.keep hk, h4.keep hk, h5.keep hk, h6.keep hk, h7.keep hk⟩
theorem SAt.mono {w : World} {x : Px.Sm} {ok ok' : Nat → Prop} {v : Value} (h : SAt w x ok v) (hk : ∀ k, ok k → ok' k) : SAt w x ok' v := by
  obtain ⟨v1, v2, u1, u2, h3, h4, h5, h6, h7⟩ := h
  exact ⟨v1, v2, u1, u2, h3.mono hk, h4.mono hk, h5.mono hk, h6.mono hk, h7.mono hk⟩
theorem SAt.keep {w w' : World} {x : Px.Sm} {ok : Nat → Prop} {v : Value} (h : SAt w x ok v) (hk : ∀ k, ok k → w'.heap[k]? = w.heap[k]?) : SAt w' x ok v := by
  obtain ⟨v1, v2, u1, u2, h3, h4, h5, h6, h7⟩ := h
  exact ⟨v1, v2, u1, u2, h3.keep hk, h4.keep hk, h5.keep hk, h6.keep hk, h7.keep hk⟩
theorem SAt.form {w : World} {x : Px.Sm} {ok : Nat → Prop} {v : Value} (h : SAt w x ok v) : ∃ t q, v = .iface t (Ref.ptr q) := by
  obtain ⟨v1, v2, u1, u2, ⟨q, hq, ⟨h0, h1, _⟩ | ⟨h0, h1, _⟩ | ⟨h0, h1, _⟩ | ⟨h0, h1, _⟩ | ⟨h0, h1, _⟩ | ⟨h0, h1⟩⟩, _⟩ := h <;> exact ⟨_, q, h1⟩

def BV (w : World) : World → List Px.Sm → Value → Prop := fun w' l v => ∃ vs, SlL w' v vs (Ref.In w w') ∧ LsAt w' l (Ref.In w w') vs
def SV (w : World) : World → Px.Sm → Value → Prop := fun w' x v => SAt w' x (Ref.In w w') v

theorem SlL.form {w : World} {v : Value} {vs : List Value} {ok : Nat → Prop} (h : SlL w v vs ok) : ∃ a n c, v = .slice a n c := by
  rcases h with ⟨h, _⟩ | ⟨g, cap, cur, h1, _⟩
  · exact ⟨_, _, _, h⟩
  · exact ⟨_, _, _, h1⟩

/-- Does a statement begin? -/
def starts (s : ByteArray) (st : Px.Ps) : Bool := Px.onB s st.t ⟨#[108, 101, 116]⟩ || Px.onB s st.t ⟨#[99, 97, 108, 108]⟩ || Px.onB s st.t ⟨#[105, 102]⟩ || Px.onB s st.t ⟨#[116, 114, 121]⟩ || Px.onB s st.t ⟨#[114, 101, 112, 101, 97, 116]⟩ || Px.onB s st.t ⟨#[102, 97, 105, 108]⟩

def stmtU (s : ByteArray) (g : Px.Ps → Except Nat (Px.Sm × Px.Ps)) (st : Px.Ps) : Except Nat (Option Px.Sm × Px.Ps) :=
  if starts s st then (match g st with
    | .ok (x, st') => .ok (some x, st')
    | .error p => .error p) else .ok (none, st)

def SoV (w : World) : World → Option Px.Sm → Value → Prop := fun w' o v =>
  match o with
  | none => v = .tuple #[.nilIface, .bool false]
  | some x => ∃ u, v = .tuple #[u, .bool true] ∧ SAt w' x (Ref.In w w') u

def StmtX (b : Nat) (s : ByteArray) (n : Nat) (eT eN : Addr) (g : Px.Ps → Except Nat (Px.Sm × Px.Ps)) : Prop :=
  ∀ (st : Px.Ps) (w : World), Ref.DomS s n st → Rd w b s st eT eN → Calls Tryz.prog 42 #[.pointer (some ⟨b, 0, none⟩)] w (Out b s eT eN w (stmtU s g st) (SoV w))

theorem starts_63 {s : ByteArray} {st : Px.Ps} (h : st.t.k = 63) : starts s st = false := by
  unfold starts; simp [onB_63 h]

/-- Where no statement begins, none is read. -/
theorem stmt_off {s : ByteArray} {n : Nat} {st : Px.Ps} (h : starts s st = false) : Px.stmt s n st = .error st.t.a := by
  unfold starts at h
  simp only [Bool.or_eq_false_iff] at h
  obtain ⟨⟨⟨⟨⟨h1, h2⟩, h3⟩, h4⟩, h5⟩, h6⟩ := h
  cases n with
  | zero => rfl
  | succ n =>
    rw [Px.stmt, if_neg (by simp [h1]), if_neg (by simp [h2]), if_neg (by simp [h3]), if_neg (by simp [h4]), if_neg (by simp [h5])]
    unfold Px.failS Px.need
    rw [if_neg (by simp [h6])]

/-- What may end a list. -/
structure Stp (s : ByteArray) (stop : Px.Ps → Bool) : Prop where
  off : ∀ st, stop st = true → starts s st = false
  k63 : ∀ st : Px.Ps, st.t.k = 63 → stop st = false

end Lg
end Go.Proofs.YtcogbbneodihkaaGreatDoor

namespace Go.Proofs.YtcogbbneodihkaaGreatDoor
open Go.RowKit
namespace Lg

theorem infoSt : (Tryz.prog.info? 102).map (fun i => (i.zero, i.size, i.bytes)) = some (some .nilIface, 1, 16) := by kernel_rfl

/-- What the reading of a list ends with. -/
def StsPost (b : Nat) (s : ByteArray) (eT eN : Addr) (w : World) (g : Px.Ps → Except Nat (Px.Sm × Px.Ps)) (st : Px.Ps) (e : Ending) (w' : World) : Prop :=
  Kp b w w' ∧ ((∃ l st' v, e = .returned v ∧ BV w w' l v ∧ Rd w' b s st' eT eN ∧ starts s st' = false ∧ Px.Good0 s st st' ∧ ∀ stop, Stp s stop → ∀ m, s.size - st.t.a < m → Px.stmts s g stop m [] st = if stop st' then .ok (l, st') else .error st'.t.a) ∨
    ∃ p, (∀ stop, Stp s stop → ∀ m, s.size - st.t.a < m → fin (Px.stmts s g stop m [] st) = .error p) ∧ Thrown w' w.heap.size eT p e)

def LbRel (b : Nat) (s : ByteArray) (n : Nat) (eT eN : Addr) (g : Px.Ps → Except Nat (Px.Sm × Px.Ps)) (st : Px.Ps) (w wr : World) (v : Value) : Prop :=
  Kp b w wr ∧ ∃ vs, wr.ownsRow w.heap.size 102 1 v vs.length vs ∧ ∃ l st1, LsAt wr l (fun k => Ref.In w wr k ∧ some k ≠ v.ownBlock) vs ∧ vs.length ≤ st1.t.a ∧ Rd wr b s st1 eT eN ∧ Ref.DomS s n st1 ∧ Px.Good0 s st st1 ∧
    ∀ stop, Stp s stop → ∀ m, s.size - st.t.a < m → ∃ m', s.size - st1.t.a < m' ∧ Px.stmts s g stop m [] st = Px.stmts s g stop m' l st1

theorem own_slL {w : World} {base : Nat} {v : Value} {vs : List Value} {ok : Nat → Prop} (h : w.ownsRow base 102 1 v vs.length vs) (hk : ∀ k, v.ownBlock = some k → ok k) : SlL w v vs ok := by
  rcases h.2 with ⟨h1, h2⟩ | ⟨g, cap, cur, h1, h2, h3, h4, h5, h6, h7⟩
  · exact Or.inl ⟨h1, List.length_eq_zero_iff.1 h2⟩
  · refine Or.inr ⟨g, cap, cur, h1, hk g (by rw [h1]; rfl), h3, h4, h5, by omega, ?_⟩
    rw [Nat.mul_one] at h7
    exact h7

theorem stmtU_some {s : ByteArray} {g : Px.Ps → Except Nat (Px.Sm × Px.Ps)} {st st' : Px.Ps} {x : Px.Sm} (h : stmtU s g st = .ok (some x, st')) : starts s st = true ∧ g st = .ok (x, st') := by
  unfold stmtU at h
  split at h
  · rename_i hs
    cases hg : g st with
    | error p => rw [hg] at h; cases h
    | ok r => obtain ⟨y, st1⟩ := r; rw [hg] at h; cases h; exact ⟨hs, rfl⟩
  · cases h
theorem stmtU_none {s : ByteArray} {g : Px.Ps → Except Nat (Px.Sm × Px.Ps)} {st st' : Px.Ps} (h : stmtU s g st = .ok (none, st')) : starts s st = false ∧ st' = st := by
  unfold stmtU at h
  split at h
  · cases hg : g st with
    | error p => rw [hg] at h; cases h
    | ok r => obtain ⟨y, st1⟩ := r; rw [hg] at h; cases h
  · rename_i hs
    cases h
    exact ⟨by simpa using hs, rfl⟩
theorem stmtU_thrown {s : ByteArray} {g : Px.Ps → Except Nat (Px.Sm × Px.Ps)} {st : Px.Ps} {p : Nat} (hk : st.t.k ≠ 63) (h : fin (stmtU s g st) = .error p) : starts s st = true ∧ (g st = .error p ∨ ∃ x st', g st = .ok (x, st') ∧ st'.t.k = 63 ∧ p = st'.t.a) := by
  unfold stmtU at h
  split at h
  · rename_i hs
    refine ⟨hs, ?_⟩
    cases hg : g st with
    | error q => rw [hg] at h; cases h; exact Or.inl rfl
    | ok r => obtain ⟨y, st1⟩ := r; rw [hg] at h; obtain ⟨h1, h2⟩ := fin_ok_k h; exact Or.inr ⟨y, st1, rfl, h1, h2⟩
  · exact absurd (fin_ok_k h).1 hk

/-- One statement more. -/
theorem lb_step {b : Nat} {s : ByteArray} {n : Nat} {eT eN : Addr} {g : Px.Ps → Except Nat (Px.Sm × Px.Ps)} {st : Px.Ps} {w wr w1 w2 : World} {v v' u : Value} {vs : List Value} {l : List Px.Sm} {st1 st2 : Px.Ps} {x : Px.Sm}
    (hb : b < w.heap.size) (hg : Px.Goes s g) (KR : Kp b w wr) (hown : wr.ownsRow w.heap.size 102 1 v vs.length vs) (L : LsAt wr l (fun k => Ref.In w wr k ∧ some k ≠ v.ownBlock) vs) (hq : vs.length ≤ st1.t.a) (hD : Ref.DomS s n st1) (G0 : Px.Good0 s st st1)
    (CH : ∀ stop, Stp s stop → ∀ m, s.size - st.t.a < m → ∃ m', s.size - st1.t.a < m' ∧ Px.stmts s g stop m [] st = Px.stmts s g stop m' l st1) (hs : starts s st1 = true) (hr : g st1 = .ok (x, st2))
    (k1 : Kp b wr w1) (hx : SAt w1 x (Ref.In wr w1) u) (r1 : Rd w1 b s st2 eT eN)
    (hown' : w2.ownsRow w.heap.size 102 1 v' (vs.length + 1) (vs ++ [u])) (hgrow : (w1.alloc (.cells #[u] 102)).grownBy w2 v.ownBlock) (hloc : v'.ownBlock = v.ownBlock ∨ v'.ownBlock = some (w1.heap.size + 1)) :
    LbRel b s n eT eN g st w w2 v' ∧ rdM s b w2 < s.size + 1 - st1.t.a := by
  have hob : ∀ k, v.ownBlock = some k → w.heap.size ≤ k ∧ k < wr.heap.size := hown.lt
  have kw1 : Kp b w w1 := KR.trans k1
  have kw2 : Kp b w w2 := Ref.kp_grown (kw1.alloc _) hgrow (fun k hk => (hob k hk).1)
  have s1 := KR.size
  have s2 := k1.size
  have s3 : w1.heap.size + 1 ≤ w2.heap.size := by have := hgrow.size; simpa using this
  have hkeep : ∀ k, k < w1.heap.size → some k ≠ v.ownBlock → w2.heap[k]? = w1.heap[k]? := fun k hk hne => by
    rw [hgrow.block k (by simp; omega) hne, Below.heap_alloc _ _ _ hk]
  have r2 : Rd w2 b s st2 eT eN := by
    obtain ⟨td, ra, rd⟩ := r1.mem
    have hlb : b < w1.heap.size := r1.lt
    have hlo := r1.gl.lo
    have gk : ∀ k, k < w.heap.size → w2.heap[k]? = w1.heap[k]? := fun k hk => hkeep k (by omega) (fun e => by have := (hob k e.symm).1; omega)
    refine ⟨r1.tk, r1.k63, ⟨?_, ?_, ?_, hlo⟩, td, ⟨by rw [gk b hb]; exact ra.h⟩, ?_⟩
    · rw [World.cell?_of_block (w := w1) (gk _ (by show (_ : Nat) < _; dsimp only; omega))]; exact r1.gl.t
    · rw [World.cell?_of_block (w := w1) (gk _ (by show (_ : Nat) < _; dsimp only; omega))]; exact r1.gl.n
    · intro j hj; rw [World.cell?_of_block (w := w1) (gk _ (by show (_ : Nat) < _; dsimp only; omega))]; exact r1.gl.ops j hj
    · rcases rd with d | ⟨d1, f, d2, d3, d4⟩
      · exact Or.inl d
      · refine Or.inr ⟨d1, f, d2, d3, ?_⟩
        have hfl : f < w1.heap.size := (Array.getElem?_eq_some_iff.1 d4).1
        rw [hkeep f hfl ?_]
        · exact d4
        · intro e
          rcases hown.2 with ⟨h1, _⟩ | ⟨gb, cap, cur, h1, h2, h3, _⟩
          · rw [h1] at e; cases e
          · have e' : f = gb := by rw [h1] at e; exact Option.some.inj e
            subst e'
            have : w1.heap[f]? = some (.cells cur 102) := by rw [k1.block f (hob f (by rw [h1]; rfl)).2 d3]; exact h3
            rw [this] at d4
            simp at d4
  have hd1 := hD.tk.le
  have hd2 := hD.tk.ab
  have hdr := hD.room
  have g1 := hg _ _ _ hD.tk hr
  have g2 := g1.lt
  have g3 := g1.tk.ab
  have g4 := g1.tk.le
  have hnew : ∀ k, k < w1.heap.size → some k ≠ v.ownBlock → some k ≠ v'.ownBlock := by
    intro k hk hne
    rcases hloc with h | h
    · rw [h]; exact hne
    · rw [h]; simp; omega
  have hlen : (vs ++ [u]).length = vs.length + 1 := by simp
  refine ⟨⟨kw2, vs ++ [u], by rw [hlen]; exact hown', l ++ [x], st2, ?_, by rw [hlen]; omega, r2, hD.good g1, G0.trans g1.zero, ?_⟩, ?_⟩
  · refine LsAt.snoc ?_ ?_
    · have e1 : LsAt w1 l (fun k => Ref.In w wr k ∧ some k ≠ v.ownBlock) vs := L.keep fun k hk => k1.block k hk.1.2 (by have := hk.1.1; omega)
      have e2 : LsAt w2 l (fun k => Ref.In w wr k ∧ some k ≠ v.ownBlock) vs := e1.keep fun k hk => hkeep k (by have := hk.1.2; omega) hk.2
      exact e2.mono fun k hk => ⟨⟨hk.1.1, by have := hk.1.2; omega⟩, hnew k (by have := hk.1.2; omega) hk.2⟩
    · have hne : ∀ k, Ref.In wr w1 k → some k ≠ v.ownBlock := fun k hk e => by have := (hob k e.symm).2; have := hk.1; omega
      have e2 : SAt w2 x (Ref.In wr w1) u := hx.keep fun k hk => hkeep k hk.2 (hne k hk)
      exact e2.mono fun k hk => ⟨⟨by have := hk.1; omega, by have := hk.2; omega⟩, hnew k hk.2 (hne k hk)⟩
  · intro stop hstop m hm
    obtain ⟨m', h1, h2⟩ := CH stop hstop m hm
    obtain ⟨m', rfl⟩ : ∃ k, m' = k + 1 := ⟨m' - 1, by omega⟩
    refine ⟨m', by omega, h2.trans ?_⟩
    have hst : stop st1 = false := by
      cases h : stop st1
      · rfl
      · have := hstop.off st1 h; rw [hs] at this; cases this
    rw [Px.stmts, if_neg (by simp [hst]), hr]
  · rw [rdM_eq r2]; omega

set_option maxRecDepth 100000 in
set_option maxHeartbeats 4000000 in
theorem stmts_any (b : Nat) (s : ByteArray) (n : Nat) (eT eN : Addr) (g : Px.Ps → Except Nat (Px.Sm × Px.Ps)) (hst : StmtX b s n eT eN g) (hg : Px.Goes s g) (hoff : ∀ st, starts s st = false → g st = .error st.t.a) (hs3 : s.size ≤ 300) (st : Px.Ps) (w : World) (hD : Ref.DomS s n st) (r : Rd w b s st eT eN) :
    Calls Tryz.prog 25 #[.pointer (some ⟨b, 0, none⟩)] w (StsPost b s eT eN w g st) := by
  obtain ⟨i0, hi, hz0, hz1, hz2⟩ := info_parts infoSt
  have hs : s.size ≤ maxLen := by unfold maxLen; omega
  have hb := r.lt
  have HG : Hid (Px.Goes s g ∧ ∀ st, starts s st = false → g st = .error st.t.a) := ⟨hg, hoff⟩
  have HR : Hid (Ref.DomS s n st ∧ Rd w b s st eT eN ∧ StmtX b s n eT eN g) := ⟨hD, r, hst⟩
  clear hD r hg hoff hst
  go_enter Tryz.func25, Tryz.ntmps25
  go_wp2_with fail
  go_loopw [3] (fun v wr => Hid (LbRel b s n eT eN g st w wr v)) (fun _ wr => rdM s b wr)
  case atStart =>
    exact ⟨Kp.refl _ _, [], World.ownsRow_nil _ _ _ _, [], st, LsAt.nil_iff.2 rfl, by simp, HR.out.2.1, HR.out.1, Px.Good0.refl HR.out.1.tk, fun stop _ m hm => ⟨m, hm, rfl⟩⟩
  case round =>
    obtain ⟨kr, vs, hown, l, st1, hl, hq, r1, hD1, G0, CH⟩ := hrel.out
    clear hrel
    obtain ⟨va, vn, vc, rfl⟩ := Ref.own_shape hown
    have KR : Hid (Kp b w wr ∧ wr.ownsRow w.heap.size 102 1 (.slice va vn vc) vs.length vs ∧ LsAt wr l (fun k => Ref.In w wr k ∧ some k ≠ (Value.slice va vn vc).ownBlock) vs ∧ Rd wr b s st1 eT eN ∧ Ref.DomS s n st1 ∧ Px.Good0 s st st1 ∧
      ∀ stop, Stp s stop → ∀ m, s.size - st.t.a < m → ∃ m', s.size - st1.t.a < m' ∧ Px.stmts s g stop m [] st = Px.stmts s g stop m' l st1) := ⟨kr, hown, hl, r1, hD1, G0, CH⟩
    clear kr hown hl r1 hD1 G0 CH
    go_wp2_with fail
    refine (HR.out.2.2 st1 _ KR.out.2.2.2.2.1 KR.out.2.2.2.1).mono ?_
    rintro e w3 ⟨k3, ⟨o, st2, v, he, rfl, hv, r3⟩ | ⟨p, hp, ht⟩⟩
    · cases o with
      | none =>
        obtain ⟨h1, rfl⟩ := stmtU_none he
        have hv' : v = .tuple #[.nilIface, .bool false] := hv
        subst hv'
        have H3 : Hid (Kp b wr w3 ∧ Rd w3 b s st2 eT eN ∧ starts s st2 = false) := ⟨k3, r3, h1⟩
        clear k3 r3 h1 he hv
        go_wp2_with fail
        go_ret
        have hown3 : w3.ownsRow w.heap.size 102 1 (.slice va vn vc) vs.length vs := Ref.own_keep KR.out.2.1 fun k hk => H3.out.1.block k (KR.out.2.1.lt k hk).2 (by have := (KR.out.2.1.lt k hk).1; omega)
        have z3 := H3.out.1.size
        refine ⟨KR.out.1.trans H3.out.1, Or.inl ⟨l, st2, _, rfl, ⟨vs, own_slL hown3 fun k hk => ⟨(hown3.lt k hk).1, (hown3.lt k hk).2⟩, ?_⟩, H3.out.2.1, H3.out.2.2, KR.out.2.2.2.2.2.1, ?_⟩⟩
        · exact (KR.out.2.2.1.keep fun k hk => H3.out.1.block k hk.1.2 (by have := hk.1.1; omega)).mono fun k hk => ⟨hk.1.1, by have := hk.1.2; omega⟩
        · intro stop hstop m hm
          obtain ⟨m', h1, h2⟩ := KR.out.2.2.2.2.2.2 stop hstop m hm
          obtain ⟨m', rfl⟩ : ∃ k, m' = k + 1 := ⟨m' - 1, by omega⟩
          rw [h2, Px.stmts, HG.out.2 st2 H3.out.2.2]
      | some x =>
        obtain ⟨u, rfl, hu⟩ := hv
        obtain ⟨h1, h2⟩ := stmtU_some he
        obtain ⟨tu, qu, rfl⟩ := hu.form
        have hown3 : w3.ownsRow w.heap.size 102 1 (.slice va vn vc) vs.length vs := Ref.own_keep KR.out.2.1 fun k hk => k3.block k (KR.out.2.1.lt k hk).2 (by have := (KR.out.2.1.lt k hk).1; omega)
        have hsz3 : w.heap.size ≤ w3.heap.size := by have := k3.size; have := KR.out.1.size; omega
        have hqb : vs.length ≤ 300 := by have := KR.out.2.2.2.2.1.tk.ab; have := KR.out.2.2.2.2.1.tk.le; omega
        have H3 : Hid (Kp b wr w3 ∧ SAt w3 x (Ref.In wr w3) (.iface tu (Ref.ptr qu)) ∧ Rd w3 b s st2 eT eN ∧ starts s st1 = true ∧ g st1 = .ok (x, st2)) := ⟨k3, hu, r3, h1, h2⟩
        clear k3 hu r3 h1 h2 he
        unfold Ref.ptr at H3 ⊢
        go_wp2_with (first
          | (at_builtin; refine wpList_append_own_at _ rfl _ _ 34 rfl w.heap.size 102 i0 .nilIface 1 16 Tryz.underlying34 hi hz0 hz1 hz2 rfl (by decide) _ _ _ rfl (hown3.alloc _) ⟨w3.heap.size, 0, none⟩ 1 1 [.iface tu (.pointer (some ⟨qu, 0, none⟩))] rfl rfl ?c1 ?c2 ?c3 ?c4 ?c5 ?_)
          | fail)
        case c1 =>
          intro j u hj
          match j, hj with
          | 0, hj => simp at hj; subst hj; simp [Addr.add]
        case c2 => intro u hu; simp at hu; subst hu; rfl
        case c3 => unfold maxLen; omega
        case c4 => omega
        case c5 => simp; omega
        · intro v' w4 hown' hgrow _ hloc
          have M := rdM_eq KR.out.2.2.2.1
          obtain ⟨r1, r2⟩ := lb_step hb HG.out.1 KR.out.1 KR.out.2.1 KR.out.2.2.1 hq KR.out.2.2.2.2.1 KR.out.2.2.2.2.2.1 KR.out.2.2.2.2.2.2 H3.out.2.2.2.1 H3.out.2.2.2.2 H3.out.1 H3.out.2.1 H3.out.2.2.1 hown' hgrow hloc
          rw [← M] at r2
          have RR : Hid (_ ∧ _) := ⟨r1, r2⟩
          clear r1 r2 hown' hgrow hloc hown3 M
          go_wp2
          exact ⟨RR.out.1, RR.out.2⟩
    · obtain ⟨c, rfl⟩ := ht.form
      obtain ⟨h1, h2⟩ := stmtU_thrown KR.out.2.2.2.1.k63 hp
      refine ⟨rfl, KR.out.1.trans k3, Or.inr ⟨p, ?_, ht.low KR.out.1.size⟩⟩
      intro stop hstop m hm
      obtain ⟨m', h3, h4⟩ := KR.out.2.2.2.2.2.2 stop hstop m hm
      obtain ⟨m', rfl⟩ : ∃ k, m' = k + 1 := ⟨m' - 1, by omega⟩
      have hst : stop st1 = false := by
        cases h : stop st1
        · rfl
        · have := hstop.off st1 h; rw [h1] at this; cases this
      rw [h4, Px.stmts, if_neg (by simp [hst])]
      rcases h2 with h2 | ⟨x, st2, h2, h5, rfl⟩
      · rw [h2]; rfl
      · rw [h2]
        simp only
        cases m' with
        | zero => rfl
        | succ m' => rw [Px.stmts, if_neg (by simp [hstop.k63 st2 h5]), HG.out.2 st2 (starts_63 h5)]; rfl

end Lg
end Go.Proofs.YtcogbbneodihkaaGreatDoor

/- Where an expr begins: no program in it. -/
namespace Go.Proofs.YtcogbbneodihkaaGreatDoor
namespace Lg

/-- An expr's place is that of its first sign. -/
def Plc (g : Px.Ps → Except Nat (Px.Ex × Px.Ps)) : Prop := ∀ st x st', g st = .ok (x, st') → x.pl = st.t.a

theorem chain_plc {s : ByteArray} {g : Px.Ps → Except Nat (Px.Ex × Px.Ps)} {a b : UInt8} (n : Nat) : ∀ (pl : Nat) (e : Px.Ex) (st : Px.Ps) (x : Px.Ex) (st' : Px.Ps), e.pl = pl → Px.chain s g a b n pl e st = .ok (x, st') → x.pl = pl := by
  induction n with
  | zero => intro pl e st x st' _ h; simp [Px.chain] at h
  | succ n ih =>
    intro pl e st x st' he h
    rw [Px.chain] at h
    split at h
    · cases hp : g (Px.nx s st) with
      | error p => rw [hp] at h; cases h
      | ok r => obtain ⟨k, st1⟩ := r; rw [hp] at h; exact ih pl ⟨a.toNat, 0, Px.nowt, pl, st.t.a, some e, some k⟩ _ _ _ rfl h
    · split at h
      · cases hp : g (Px.nx s st) with
        | error p => rw [hp] at h; cases h
        | ok r => obtain ⟨k, st1⟩ := r; rw [hp] at h; exact ih pl ⟨b.toNat, 0, Px.nowt, pl, st.t.a, some e, some k⟩ _ _ _ rfl h
      · cases h; exact he

theorem row_plc {s : ByteArray} {g : Px.Ps → Except Nat (Px.Ex × Px.Ps)} (hg : Plc g) (a b : UInt8) : Plc (Px.row s g a b) := by
  intro st x st' h
  unfold Px.row at h
  cases hp : g st with
  | error p => rw [hp] at h; cases h
  | ok r => obtain ⟨e, st1⟩ := r; rw [hp] at h; exact chain_plc _ _ _ _ _ _ (hg _ _ _ hp) h

theorem expr_plc {s : ByteArray} {g : Px.Ps → Except Nat (Px.Ex × Px.Ps)} (hg : Plc g) : Plc (Px.expr s g) := by
  intro st x st' h
  unfold Px.expr at h
  cases hp : Px.sum s g st with
  | error p => rw [hp] at h; cases h
  | ok r =>
    obtain ⟨e, st1⟩ := r
    rw [hp] at h
    simp only at h
    cases hc : Px.cmpOf s st1.t with
    | none => rw [hc] at h; cases h; exact row_plc (row_plc hg _ _) _ _ _ _ _ hp
    | some o =>
      rw [hc] at h
      simp only at h
      cases hq : Px.sum s g (Px.nx s st1) with
      | error p => rw [hq] at h; cases h
      | ok r2 => obtain ⟨k, st2⟩ := r2; rw [hq] at h; cases h; rfl

theorem atom_plc (s : ByteArray) (n : Nat) : Plc (Px.atom s n) := by
  intro st x st' h
  cases n with
  | zero => simp [Px.atom] at h
  | succ n =>
    rw [Px.atom] at h
    split at h
    · cases h; rfl
    · split at h
      · cases h; rfl
      · split at h
        · cases h; rfl
        · split at h
          · cases h; rfl
          · split at h
            · cases hp : Px.atom s n (Px.nx s st) with
              | error p => rw [hp] at h; cases h
              | ok r => obtain ⟨k, st1⟩ := r; rw [hp] at h; cases h; rfl
            · split at h
              · cases hp : Px.expr s (Px.atom s n) (Px.nx s (Px.dn st)) with
                | error p => rw [hp] at h; cases h
                | ok r =>
                  obtain ⟨k, st1⟩ := r
                  rw [hp] at h
                  simp only at h
                  split at h
                  · cases h; rfl
                  · cases h
              · cases h

theorem exprOf_plc (s : ByteArray) : Plc (Px.exprOf s) := expr_plc (atom_plc s _)

end Lg
end Go.Proofs.YtcogbbneodihkaaGreatDoor
