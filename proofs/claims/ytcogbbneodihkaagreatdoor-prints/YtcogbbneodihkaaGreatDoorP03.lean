import Derived.Test.YtcogbbneodihkaaGreatDoorP02
import Derived.Deep.MidRow
import Derived.Deep.Cut
import Derived.Test.YtcogbbneodihkaaGreatDoorP00
import Derived.Test.YtcogbbneodihkaaGreatDoorP01
import Derived.Deep.RegionWith
namespace Go.Proofs.YtcogbbneodihkaaGreatDoor
open Go.RowKit
namespace Lg

def VarAt (w : World) (x : ByteArray) (a : Nat) (ok : Nat → Prop) (q : Nat) : Prop := ok q ∧ w.heap[q]? = some (.cells #[.string x, .int .i64 (a : Int)] 194)
def NumAt (w : World) (n a : Nat) (ok : Nat → Prop) (q : Nat) : Prop := ok q ∧ w.heap[q]? = some (.cells #[.int .i64 (n : Int), .int .i64 (a : Int)] 180)

theorem new1 {w : World} {o : Obj} : (w.alloc o).heap[w.heap.size]? = some o := by
  show (w.heap.push o)[w.heap.size]? = _
  rw [Array.getElem?_push, if_pos rfl]
theorem new_at {w : World} {o : Obj} {n : Nat} (h : w.heap.size = n) : (w.alloc o).heap[n]? = some o := by rw [← h]; exact new1
theorem new2 {w : World} {o p : Obj} : ((w.alloc o).alloc p).heap[w.heap.size + 1]? = some p := Ref.push2_two

set_option maxRecDepth 100000 in
theorem word_any (b : Nat) (s : ByteArray) (st : Px.Ps) (eT eN : Addr) (w : World) (r : Rd w b s st eT eN) (hs : s.size ≤ maxLen) :
    Calls Tryz.prog 89 #[.pointer (some ⟨b, 0, none⟩)] w (Out b s eT eN w (kindU s 119 st) (fun _ t v => v = .string (s.extract t.a t.b))) := by
  have R : Hid (Rd w b s st eT eN) := r
  clear r
  go_enter Tryz.func89, Tryz.ntmps89
  go_wp2_with fail
  refine (mustBe_any b s 119 2 (Or.inl ⟨rfl, rfl⟩) st eT eN _ R.out hs).mono ?_
  rintro e w1 ⟨k1, ⟨t, st1, v, he, rfl, hv, r1⟩ | ⟨p, hp, ht⟩⟩
  · unfold SgAt at hv
    subst hv
    have R1 : Hid (_ ∧ _ ∧ _) := ⟨k1, r1, he⟩
    clear k1 r1 he
    have hfd : ∀ W : World, (Instr.field 71 (.agg #[.int .i64 (kd t.k : Int), .string (s.extract t.a t.b), .int .i64 (t.a : Int)]) 1).run Tryz.prog W = .ok (.string (s.extract t.a t.b)) W := fun _ => by kernel_rfl
    go_wp2_with fail
    go_ret
    exact ⟨R1.out.1, Or.inl ⟨_, _, _, R1.out.2.2, rfl, rfl, R1.out.2.1⟩⟩
  · obtain ⟨c, rfl⟩ := ht.form
    exact ⟨rfl, k1, Or.inr ⟨p, hp, ht⟩⟩

theorem variable_any (b : Nat) (s : ByteArray) (st : Px.Ps) (eT eN : Addr) (w : World) (r : Rd w b s st eT eN) (hs : s.size ≤ maxLen) :
    Calls Tryz.prog 87 #[.pointer (some ⟨b, 0, none⟩)] w (Out b s eT eN w (kindU s 119 st) (fun w' t v => ∃ q, v = Ref.ptr q ∧ VarAt w' (s.extract t.a t.b) t.a (Ref.In w w') q)) := by
  have R : Hid (Rd w b s st eT eN) := r
  clear r
  go_enter Tryz.func87, Tryz.ntmps87
  go_wp2_with fail
  refine (mustBe_any b s 119 2 (Or.inl ⟨rfl, rfl⟩) st eT eN _ R.out hs).mono ?_
  rintro e w1 ⟨k1, ⟨t, st1, v, he, rfl, hv, r1⟩ | ⟨p, hp, ht⟩⟩
  · unfold SgAt at hv
    subst hv
    have R1 : Hid (_ ∧ _ ∧ _) := ⟨k1, r1, he⟩
    clear k1 r1 he
    go_wp2_with fail
    go_ret
    have z := R1.out.1.size
    exact ⟨(R1.out.1.alloc _).alloc _, Or.inl ⟨_, _, _, R1.out.2.2, rfl, ⟨_, rfl, ⟨⟨by omega, by simp⟩, new2⟩⟩, (R1.out.2.1.alloc _).alloc _⟩⟩
  · obtain ⟨c, rfl⟩ := ht.form
    exact ⟨rfl, k1, Or.inr ⟨p, hp, ht⟩⟩

theorem number_any (b : Nat) (s : ByteArray) (st : Px.Ps) (eT eN : Addr) (w : World) (r : Rd w b s st eT eN) (hs : s.size ≤ maxLen) :
    Calls Tryz.prog 74 #[.pointer (some ⟨b, 0, none⟩)] w (Out b s eT eN w (kindU s 110 st) (fun w' t v => ∃ q, v = Ref.ptr q ∧ NumAt w' (Px.valOf (s.extract t.a t.b).toList) t.a (Ref.In w w') q)) := by
  have R : Hid (Rd w b s st eT eN) := r
  clear r
  go_enter Tryz.func74, Tryz.ntmps74
  go_wp2_with fail
  refine (mustBe_any b s 110 3 (Or.inr ⟨rfl, rfl⟩) st eT eN _ R.out hs).mono ?_
  rintro e w1 ⟨k1, ⟨t, st1, v, he, rfl, hv, r1⟩ | ⟨p, hp, ht⟩⟩
  · unfold SgAt at hv
    subst hv
    have hT : t = st.t ∧ st.t.k = 110 := by
      unfold kindU at he
      split at he
      · rename_i hk; cases he; exact ⟨rfl, hk⟩
      · cases he
    obtain ⟨rfl, hk⟩ := hT
    obtain ⟨hn1, hn2⟩ := R.out.tk.num hk
    have hlt := R.out.tk.lt (by omega) (by omega)
    have hle := R.out.tk.le
    have hx : (s.extract st.t.a st.t.b).size ≤ 4 := by simp; omega
    have hx0 : 0 < (s.extract st.t.a st.t.b).size := by simp; omega
    have HX : Hid (∀ j (hj : j < (s.extract st.t.a st.t.b).size), Px.isDig (s.extract st.t.a st.t.b)[j] = true) := fun j hj => by
      rw [ByteArray.getElem_extract]
      simp only [ByteArray.size_extract] at hj
      exact hn2 _ (by omega) (by omega) (by omega)
    have R1 : Hid (_ ∧ _ ∧ _) := ⟨k1, r1, he⟩
    clear k1 r1 he hn1 hn2 hlt hle hk
    go_wp2_with fail
    refine (atoi_any _ _ hx hx0 HX.out).mono ?_
    rintro e w2 ⟨rfl, hbw, hz⟩
    obtain ⟨q0, q1, q2, qf⟩ := cells3b hbw
    have B2 : Hid (_) := hbw
    clear hbw
    go_wp2_with fail
    go_ret
    have z := R1.out.1.size
    have zz : w2.heap.size = w1.heap.size + 1 + 1 := by simpa using hz
    have k2 : Kp b w w2 := (R1.out.1.alloc _).below B2.out
    have hb1 := R1.out.2.1.lt
    have r2 : Rd w2 b s st1 eT eN := R1.out.2.1.keep (((Kp.refl b w1).alloc _).below B2.out) ((B2.out.block b (by simp; omega)).trans (Below.heap_alloc _ _ _ hb1))
    refine ⟨k2.alloc _, Or.inl ⟨_, _, _, R1.out.2.2, rfl, ⟨_, rfl, ⟨⟨by omega, by simp; omega⟩, ?_⟩⟩, r2.alloc _⟩⟩
    rw [← zz]
    exact new1
  · obtain ⟨c, rfl⟩ := ht.form
    exact ⟨rfl, k1, Or.inr ⟨p, hp, ht⟩⟩

theorem fin_tok {α β : Type} {x : α} {y : β} {st st' : Px.Ps} {p : Nat} (h : fin (.ok (x, st)) = .error p) (ht : st'.t = st.t) : fin (.ok (y, st')) = .error p := by
  obtain ⟨h1, h2⟩ := fin_ok_k h
  unfold fin
  simp only
  rw [ht, if_pos h1, h2]

/-- A bracket opened. -/
def openU (s : ByteArray) (x : ByteArray) (st : Px.Ps) : Except Nat (Unit × Px.Ps) := if Px.onB s st.t x then .ok ((), Px.nx s (Px.dn st)) else .error st.t.a
def shutU (s : ByteArray) (x : ByteArray) (st : Px.Ps) : Except Nat (Unit × Px.Ps) := if Px.onB s st.t x then .ok ((), Px.upp (Px.nx s st)) else .error st.t.a

theorem Rd.with {w w' : World} {b : Nat} {s : ByteArray} {st st' : Px.Ps} {eT eN : Addr} {td : Option Addr} (r : Rd w b s st eT eN) (k : Kp b w w') (ht : st'.t = st.t) (ha : RdAt w' b s st.t st'.nest td) (hd : DeepAt w' b eN st'.deep td) : Rd w' b s st' eT eN :=
  ⟨by rw [ht]; exact r.tk, by rw [ht]; exact r.k63, r.gl.keep k, td, by rw [ht]; exact ha, hd⟩

theorem open_any (b : Nat) (s x : ByteArray) (st : Px.Ps) (eT eN : Addr) (w : World) (r : Rd w b s st eT eN) (hs : s.size ≤ maxLen) (hn0 : 0 ≤ st.nest) (hn1 : st.nest ≤ 1000000) :
    Calls Tryz.prog 93 #[.pointer (some ⟨b, 0, none⟩), .string x] w (Out b s eT eN w (openU s x st) (fun _ _ v => v = .tuple #[])) := by
  obtain ⟨td, c0, c1, c2, c3, c4, c5, f⟩ := r.cells
  have R : Hid (Rd w b s st eT eN) := r
  clear r
  go_enter Tryz.func93, Tryz.ntmps93
  go_wp2_with fail
  refine (must_any b s x st eT eN _ R.out hs).mono ?_
  rintro e w1 ⟨k1, ⟨t, st1, v, he, rfl, rfl, r1⟩ | ⟨p, hp, ht⟩⟩
  · clear c0 c1 c2 c3 c4 c5 f
    obtain ⟨td1, ra, rd⟩ := r1.mem
    obtain ⟨c0, c1, c2, c3, c4, c5, f⟩ := Ref.cells6 ra.h
    have ho : Px.onB s st.t x = true ∧ st1 = Px.nx s st := by
      unfold needU at he
      split at he
      · rename_i ho; cases he; exact ⟨ho, rfl⟩
      · cases he
    obtain ⟨ho, rfl⟩ := ho
    have e1 : openU s x st = .ok ((), Px.nx s (Px.dn st)) := by rw [openU, if_pos ho]
    have gn := r1.gl.n
    have hb1 := r1.lt
    have hnest : (Px.nx s st).nest = st.nest := rfl
    have hdeep : (Px.nx s st).deep = st.deep := rfl
    rw [hnest] at c4
    rw [hdeep] at rd
    have R1 : Hid (Kp b w w1 ∧ Rd w1 b s (Px.nx s st) eT eN ∧ RdAt w1 b s (Px.nx s st).t (Px.nx s st).nest td1 ∧ openU s x st = .ok ((), Px.nx s (Px.dn st))) := ⟨k1, r1, ra, e1⟩
    clear k1 r1 ra he ho e1
    by_cases h4 : 4 ≤ st.nest
    · rcases rd with ⟨d1, rfl⟩ | ⟨d1, ff, rfl, d3, d4⟩
      · go_wp2_with fail
        go_end0
        have hz : ((w1.setCell ⟨b, 4, none⟩ (.int .i64 (st.nest + 1))).setCell ⟨b, 5, none⟩ (.pointer (some ⟨w1.heap.size, 0, none⟩))).heap.size = w1.heap.size := by simp [World.setCell]
        refine ⟨((R1.out.1.setB _).setB _).alloc _, Or.inl ⟨_, _, _, R1.out.2.2.2, rfl, rfl, R1.out.2.1.with (td := some ⟨w1.heap.size, 0, none⟩) ((((Kp.refl _ _).setB _).setB _).alloc _) rfl ⟨?_⟩ ?_⟩⟩
        · rw [Below.heap_alloc _ _ _ (by rw [hz]; exact hb1), Ref.heap_set _ (Ref.heap_set _ R1.out.2.2.1.h)]; simp; rfl
        · refine Or.inr ⟨?_, w1.heap.size, rfl, by omega, ?_⟩
          · show 0 ≤ Px.deepOf st.nest st.deep st.t.a
            unfold Px.deepOf; rw [if_pos ⟨h4, d1⟩]; omega
          · show (World.alloc _ _).heap[w1.heap.size]? = some (Obj.cells #[.int .i64 (Px.deepOf st.nest st.deep st.t.a), _] _)
            unfold Px.deepOf; rw [if_pos ⟨h4, d1⟩]
            exact new_at hz
      · have D4 : Hid (_) := d4
        clear d4
        go_wp2_with fail
        go_end0
        refine ⟨R1.out.1.setB _, Or.inl ⟨_, _, _, R1.out.2.2.2, rfl, rfl, R1.out.2.1.with (td := some ⟨ff, 0, none⟩) ((Kp.refl _ _).setB _) rfl ⟨?_⟩ (DeepAt.keep ?_ ((Kp.refl _ _).setB _))⟩⟩
        · rw [Ref.heap_set _ R1.out.2.2.1.h]; simp; rfl
        · refine Or.inr ⟨?_, ff, rfl, d3, ?_⟩
          · show 0 ≤ Px.deepOf st.nest st.deep st.t.a
            unfold Px.deepOf; rw [if_neg (by omega)]; exact d1
          · show _ = some (Obj.cells #[.int .i64 (Px.deepOf st.nest st.deep st.t.a), _] _)
            unfold Px.deepOf; rw [if_neg (by omega)]; exact D4.out
    · have RD : Hid (_) := rd
      clear rd
      go_wp2_with fail
      go_end0
      refine ⟨R1.out.1.setB _, Or.inl ⟨_, _, _, R1.out.2.2.2, rfl, rfl, R1.out.2.1.with (td := td1) ((Kp.refl _ _).setB _) rfl ⟨?_⟩ (DeepAt.keep ?_ ((Kp.refl _ _).setB _))⟩⟩
      · rw [Ref.heap_set _ R1.out.2.2.1.h]; simp; rfl
      · show DeepAt w1 b eN (Px.deepOf st.nest st.deep st.t.a) td1
        unfold Px.deepOf; rw [if_neg (by omega)]; exact RD.out
  · obtain ⟨c, rfl⟩ := ht.form
    refine ⟨rfl, k1, Or.inr ⟨p, ?_, ht⟩⟩
    unfold needU at hp
    unfold openU
    split at hp
    · rename_i ho
      rw [if_pos ho]
      exact fin_tok hp rfl
    · rename_i ho
      rw [if_neg ho]
      exact hp

theorem shut_any (b : Nat) (s x : ByteArray) (st : Px.Ps) (eT eN : Addr) (w : World) (r : Rd w b s st eT eN) (hs : s.size ≤ maxLen) (hn0 : 0 ≤ st.nest) (hn1 : st.nest ≤ 2000000) :
    Calls Tryz.prog 94 #[.pointer (some ⟨b, 0, none⟩), .string x] w (Out b s eT eN w (shutU s x st) (fun _ _ v => v = .tuple #[])) := by
  have R : Hid (Rd w b s st eT eN) := r
  clear r
  go_enter Tryz.func94, Tryz.ntmps94
  go_wp2_with fail
  refine (must_any b s x st eT eN _ R.out hs).mono ?_
  rintro e w1 ⟨k1, ⟨t, st1, v, he, rfl, rfl, r1⟩ | ⟨p, hp, ht⟩⟩
  · obtain ⟨td1, ra, rd⟩ := r1.mem
    obtain ⟨c0, c1, c2, c3, c4, c5, f⟩ := Ref.cells6 ra.h
    have ho : Px.onB s st.t x = true ∧ st1 = Px.nx s st := by
      unfold needU at he
      split at he
      · rename_i ho; cases he; exact ⟨ho, rfl⟩
      · cases he
    obtain ⟨ho, rfl⟩ := ho
    have e1 : shutU s x st = .ok ((), Px.upp (Px.nx s st)) := by rw [shutU, if_pos ho]
    have hnest : (Px.nx s st).nest = st.nest := rfl
    rw [hnest] at c4
    have R1 : Hid (Kp b w w1 ∧ Rd w1 b s (Px.nx s st) eT eN ∧ RdAt w1 b s (Px.nx s st).t (Px.nx s st).nest td1 ∧ DeepAt w1 b eN (Px.nx s st).deep td1 ∧ shutU s x st = .ok ((), Px.upp (Px.nx s st))) := ⟨k1, r1, ra, rd, e1⟩
    clear k1 r1 ra rd he ho e1
    go_wp2_with fail
    go_end0
    refine ⟨R1.out.1.setB _, Or.inl ⟨_, _, _, R1.out.2.2.2.2, rfl, rfl, R1.out.2.1.with (td := td1) ((Kp.refl _ _).setB _) rfl ⟨?_⟩ (DeepAt.keep R1.out.2.2.2.1 ((Kp.refl _ _).setB _))⟩⟩
    rw [Ref.heap_set _ R1.out.2.2.1.h]; simp; rfl
  · obtain ⟨c, rfl⟩ := ht.form
    refine ⟨rfl, k1, Or.inr ⟨p, ?_, ht⟩⟩
    unfold needU at hp
    unfold shutU
    split at hp
    · rename_i ho
      rw [if_pos ho]
      exact fin_tok hp rfl
    · rename_i ho
      rw [if_neg ho]
      exact hp

end Lg
end Go.Proofs.YtcogbbneodihkaaGreatDoor

namespace Go.Proofs.YtcogbbneodihkaaGreatDoor
open Go.RowKit
namespace Lg

def opsA : Array Value := opsC.toArray

/-- An operator's text, its level, what it takes and what it makes. -/
def tx : Nat → ByteArray
  | 0 => ⟨#[43]⟩ | 1 => ⟨#[45]⟩ | 2 => ⟨#[42]⟩ | 3 => ⟨#[47]⟩ | 4 => ⟨#[60]⟩ | 5 => ⟨#[61]⟩ | _ => ⟨#[35]⟩
def lv : Nat → Int
  | 0 => 1 | 1 => 1 | 2 => 2 | 3 => 2 | _ => 0
def tkk : Nat → Int
  | 5 => 0 | 6 => 0 | _ => 1
def mkk : Nat → Int
  | 0 => 1 | 1 => 1 | 2 => 1 | 3 => 1 | _ => 2

theorem ops_at0 (W : World) : (Instr.index 207 (.agg opsA) (.int .i64 0)).run Tryz.prog W = .ok (.agg #[.string (tx 0), .int .i64 (lv 0), .int .i64 (tkk 0), .int .i64 (mkk 0)]) W := by kernel_rfl
theorem ops_at1 (W : World) : (Instr.index 207 (.agg opsA) (.int .i64 1)).run Tryz.prog W = .ok (.agg #[.string (tx 1), .int .i64 (lv 1), .int .i64 (tkk 1), .int .i64 (mkk 1)]) W := by kernel_rfl
theorem ops_at2 (W : World) : (Instr.index 207 (.agg opsA) (.int .i64 2)).run Tryz.prog W = .ok (.agg #[.string (tx 2), .int .i64 (lv 2), .int .i64 (tkk 2), .int .i64 (mkk 2)]) W := by kernel_rfl
theorem ops_at3 (W : World) : (Instr.index 207 (.agg opsA) (.int .i64 3)).run Tryz.prog W = .ok (.agg #[.string (tx 3), .int .i64 (lv 3), .int .i64 (tkk 3), .int .i64 (mkk 3)]) W := by kernel_rfl
theorem ops_at4 (W : World) : (Instr.index 207 (.agg opsA) (.int .i64 4)).run Tryz.prog W = .ok (.agg #[.string (tx 4), .int .i64 (lv 4), .int .i64 (tkk 4), .int .i64 (mkk 4)]) W := by kernel_rfl
theorem ops_at5 (W : World) : (Instr.index 207 (.agg opsA) (.int .i64 5)).run Tryz.prog W = .ok (.agg #[.string (tx 5), .int .i64 (lv 5), .int .i64 (tkk 5), .int .i64 (mkk 5)]) W := by kernel_rfl
theorem ops_at6 (W : World) : (Instr.index 207 (.agg opsA) (.int .i64 6)).run Tryz.prog W = .ok (.agg #[.string (tx 6), .int .i64 (lv 6), .int .i64 (tkk 6), .int .i64 (mkk 6)]) W := by kernel_rfl
theorem ops_at (i : Nat) (hi : i < 7) (W : World) : (Instr.index 207 (.agg opsA) (.int .i64 (i : Int))).run Tryz.prog W = .ok (.agg #[.string (tx i), .int .i64 (lv i), .int .i64 (tkk i), .int .i64 (mkk i)]) W := by
  have h : i = 0 ∨ i = 1 ∨ i = 2 ∨ i = 3 ∨ i = 4 ∨ i = 5 ∨ i = 6 := by omega
  rcases h with rfl | rfl | rfl | rfl | rfl | rfl | rfl
  · exact ops_at0 W
  · exact ops_at1 W
  · exact ops_at2 W
  · exact ops_at3 W
  · exact ops_at4 W
  · exact ops_at5 W
  · exact ops_at6 W

theorem Gl.range {w : World} {b : Nat} {eT eN : Addr} (g : Gl w b eT eN) : w.rangeAt 8 0 opsC := fun j v hv => by
  obtain ⟨h1, h2⟩ := List.getElem?_eq_some_iff.1 hv
  rw [Nat.zero_add, ← h2]
  exact g.ops j h1

/-- The table, read. -/
theorem wp_table {Q : Exit → Act → World → Prop} {ops : Array Oper} {rest : List Oper} {op : Oper} {a : Act} {w : World} {b : Nat} {eT eN : Addr} (g : Gl w b eT eN) (hgd : op.guard = none) (x : Operand) (ho : op.op = .load 207 x)
    (hx : a.eval x = .pointer (some ⟨8, 0, none⟩)) (h : wpList Tryz.prog ops Q rest (a.put op.dst (.agg opsA)) w) : wpList Tryz.prog ops Q (op :: rest) a w :=
  wpList_load_mid hgd _ x ho _ 0 hx opsC (.array 7 206) g.range (by kernel_rfl) rfl (by kernel_rfl) h

/-- The first operator of a level that is at hand. -/
def opFrom (s : ByteArray) (t : Px.Tok) (l : Int) : Nat → Nat → Option Nat
  | 0, _ => none
  | n + 1, i => if lv i = l ∧ Px.onB s t (tx i) = true then some i else opFrom s t l n (i + 1)

def opU (s : ByteArray) (l : Int) (st : Px.Ps) : Except Nat (Option Nat × Px.Ps) :=
  match opFrom s st.t l 7 0 with
  | some i => .ok (some i, Px.nx s st)
  | none => .ok (none, st)

set_option maxRecDepth 100000 in
theorem operator_any (b : Nat) (s : ByteArray) (l : Int) (st : Px.Ps) (eT eN : Addr) (w : World) (r : Rd w b s st eT eN) (hs : s.size ≤ maxLen) :
    Calls Tryz.prog 98 #[.pointer (some ⟨b, 0, none⟩), .int .i64 l] w
      (Out b s eT eN w (opU s l st) (fun _ o v => v = .tuple #[.int .i64 (o.getD 0 : Nat), .int .i64 (st.t.a : Int), .bool o.isSome])) := by
  obtain ⟨td, c0, c1, c2, c3, c4, c5, f⟩ := r.cells
  have hb := r.lt
  have R : Hid (Rd w b s st eT eN) := r
  clear r
  go_enter Tryz.func98, Tryz.ntmps98
  go_upto_region 2 with fail
  refine wp_region_lit (wp_table R.out.gl rfl _ rfl rfl ?_)
  go_wp2_with fail
  clear c0 c1 c2 c3 c4 c5 f
  go_loopw [16] (fun vi wr => ∃ i : Nat, vi = .int .i64 i ∧ i ≤ 7 ∧ Hid (Kp b w wr ∧ Rd wr b s st eT eN ∧ opFrom s st.t l 7 0 = opFrom s st.t l (7 - i) i)) (fun vi _ => 7 - (intOf vi).toNat)
  case atStart => exact ⟨0, rfl, by omega, Kp.refl _ _, R.out, rfl⟩
  case round =>
    obtain ⟨i, rfl, hi, HR⟩ := hrel
    by_cases hlt : i < 7
    · have hix := ops_at i hlt
      by_cases hl : lv i = l
      · subst hl
        cases ho : Px.onB s st.t (tx i)
        · have hnext : Hid (opFrom s st.t (lv i) 7 0 = opFrom s st.t (lv i) (7 - (i + 1)) (i + 1)) := HR.out.2.2.trans (by rw [show 7 - i = (7 - (i + 1)) + 1 by omega, opFrom, if_neg (by simp [ho])])
          go_wp2_with fail
          refine (take_no b s (tx i) st eT eN _ (HR.out.2.1.alloc _) ho).mono ?_
          rintro e w1 ⟨rfl, rfl⟩
          go_wp2_with fail
          exact ⟨⟨i + 1, by go_num, by omega, HR.out.1.alloc _, HR.out.2.1.alloc _, hnext.out⟩, by simp [intOf]; omega⟩
        · have hfound : Hid (opU s (lv i) st = .ok (some i, Px.nx s st)) := by
            unfold Hid opU
            rw [HR.out.2.2, show 7 - i = (7 - (i + 1)) + 1 by omega, opFrom, if_pos ⟨rfl, ho⟩]
          go_wp2_with fail
          refine (take_yes b s (tx i) st eT eN _ (HR.out.2.1.alloc _) hs ho).mono ?_
          rintro e w1 ⟨k1, ⟨t, st1, v, he, rfl, rfl, r1⟩ | ⟨p, hp, ht⟩⟩
          · cases he
            have R1 : Hid (_ ∧ _) := ⟨k1, r1⟩
            clear k1 r1
            go_wp2_with fail
            go_ret3
            exact ⟨HR.out.1.trans R1.out.1.of_alloc, Or.inl ⟨_, _, _, hfound.out, rfl, rfl, R1.out.2⟩⟩
          · obtain ⟨c, rfl⟩ := ht.form
            exact ⟨rfl, HR.out.1.trans k1.of_alloc, Or.inr ⟨p, by rw [hfound.out]; exact fin_ok hp, ht.low (by have := HR.out.1.size; simp; omega)⟩⟩
      · have hl' : (lv i == l) = false := by simpa using hl
        have hnext : Hid (opFrom s st.t l 7 0 = opFrom s st.t l (7 - (i + 1)) (i + 1)) := HR.out.2.2.trans (by rw [show 7 - i = (7 - (i + 1)) + 1 by omega, opFrom, if_neg (by simp [hl])])
        clear hl
        go_wp2_with fail
        exact ⟨⟨i + 1, by go_num, by omega, HR.out.1.alloc _, HR.out.2.1.alloc _, hnext.out⟩, by simp [intOf]; omega⟩
    · obtain rfl : i = 7 := by omega
      have hnone : Hid (opU s l st = .ok (none, st)) := by
        unfold Hid opU
        rw [HR.out.2.2]
        rfl
      go_wp2_with fail
      go_ret3
      exact ⟨HR.out.1, Or.inl ⟨_, _, _, hnone.out, rfl, rfl, HR.out.2.1⟩⟩

/-- The operators of a row, as the document's grammar names them. -/
theorem op_sum (s : ByteArray) (st : Px.Ps) : opFrom s st.t 1 7 0 = if Px.onB s st.t ⟨#[43]⟩ = true then some 0 else if Px.onB s st.t ⟨#[45]⟩ = true then some 1 else none := by
  simp [opFrom, lv, tx]
theorem op_term (s : ByteArray) (st : Px.Ps) : opFrom s st.t 2 7 0 = if Px.onB s st.t ⟨#[42]⟩ = true then some 2 else if Px.onB s st.t ⟨#[47]⟩ = true then some 3 else none := by
  simp [opFrom, lv, tx]
theorem op_cmp (s : ByteArray) (st : Px.Ps) : opFrom s st.t 0 7 0 = if Px.onB s st.t ⟨#[60]⟩ = true then some 4 else if Px.onB s st.t ⟨#[61]⟩ = true then some 5 else if Px.onB s st.t ⟨#[35]⟩ = true then some 6 else none := by
  simp [opFrom, lv, tx]

end Lg
end Go.Proofs.YtcogbbneodihkaaGreatDoor

namespace Go.Proofs.YtcogbbneodihkaaGreatDoor
namespace Px

theorem need_good {s x : ByteArray} {st st' : Ps} (ht : Tk s st.t) (h : need s x st = .ok st') : Good s st st' := by
  unfold need at h
  split at h
  · rename_i ho; cases h; exact good_on ht ho
  · cases h
theorem kind_good {s : ByteArray} {k : Nat} {st st' : Ps} (ht : Tk s st.t) (hk : k ≠ 0) (hk' : k ≠ 63) (h : kind s k st = .ok st') : Good s st st' := by
  unfold kind at h
  split at h
  · rename_i ho; cases h; exact good_nx ht (by omega) (by omega)
  · cases h
theorem exprOf_goes (s : ByteArray) : Goes s (exprOf s) := expr_goes (atom_goes s _)

/-- Nothing, or something, was read. -/
structure Good0 (s : ByteArray) (st st' : Ps) : Prop where
  tk : Tk s st'.t
  le : st.t.a ≤ st'.t.a
  nest : st'.nest = st.nest
theorem Good.zero {s : ByteArray} {a b : Ps} (h : Good s a b) : Good0 s a b := ⟨h.tk, Nat.le_of_lt h.lt, h.nest⟩
theorem Good0.trans {s : ByteArray} {a b c : Ps} (h : Good0 s a b) (k : Good0 s b c) : Good0 s a c := ⟨k.tk, Nat.le_trans h.le k.le, k.nest.trans h.nest⟩
theorem Good.then0 {s : ByteArray} {a b c : Ps} (h : Good s a b) (k : Good0 s b c) : Good s a c := ⟨k.tk, Nat.lt_of_lt_of_le h.lt k.le, k.nest.trans h.nest⟩
theorem Good0.refl {s : ByteArray} {a : Ps} (h : Tk s a.t) : Good0 s a a := ⟨h, Nat.le_refl _, rfl⟩

theorem stmts_goes {s : ByteArray} {g : Ps → Except Nat (Sm × Ps)} (hg : Goes s g) (stop : Ps → Bool) (n : Nat) : ∀ (l : List Sm) (st : Ps) (x : List Sm) (st' : Ps), Tk s st.t → stmts s g stop n l st = .ok (x, st') → Good0 s st st' ∧ stop st' = true := by
  induction n with
  | zero => intro l st x st' _ h; simp [stmts] at h
  | succ n ih =>
    intro l st x st' ht h
    rw [stmts] at h
    split at h
    · rename_i hs; cases h; exact ⟨Good0.refl ht, hs⟩
    · cases hp : g st with
      | error p => rw [hp] at h; cases h
      | ok r =>
        obtain ⟨k, st1⟩ := r
        rw [hp] at h
        have g1 := hg _ _ _ ht hp
        obtain ⟨i1, i2⟩ := ih _ _ _ _ g1.tk h
        exact ⟨g1.zero.trans i1, i2⟩

theorem block_goes {s : ByteArray} {g : Ps → Except Nat (Sm × Ps)} (hg : Goes s g) : Goes s (block s g) := by
  intro st x st' ht h
  unfold block at h
  split at h
  · rename_i ho
    have g1 := good_on ht ho
    cases hp : stmts s g (fun st => onB s st.t ⟨#[125]⟩) (s.size + 1) [] (nx s (dn st)) with
    | error p => rw [hp] at h; cases h
    | ok r =>
      obtain ⟨l, st1⟩ := r
      rw [hp] at h
      cases h
      obtain ⟨g2, hs⟩ := stmts_goes hg _ _ _ _ _ _ (show Tk s (nx s (dn st)).t from g1.tk) hp
      have g3 := good_on g2.tk hs
      have h1 : st.t.a < (nx s (dn st)).t.a := g1.lt
      have h2 := g2.le
      have h3 := g3.lt
      refine ⟨g3.tk, ?_, ?_⟩
      · show st.t.a < (nx s st1).t.a; omega
      · show st1.nest - 1 = st.nest
        rw [g2.nest]; show st.nest + 1 - 1 = st.nest; omega
  · cases h

theorem letS_goes (s : ByteArray) : Goes s (letS s) := by
  intro st x st' ht h
  unfold letS at h
  cases h1 : kind s 119 st with
  | error p => rw [h1] at h; cases h
  | ok st1 =>
    rw [h1] at h; simp only at h
    have g1 := kind_good ht (by decide) (by decide) h1
    cases h2 : need s ⟨#[61]⟩ st1 with
    | error p => rw [h2] at h; cases h
    | ok st2 =>
      rw [h2] at h; simp only at h
      have g2 := g1.trans (need_good g1.tk h2)
      cases h3 : exprOf s st2 with
      | error p => rw [h3] at h; cases h
      | ok r =>
        obtain ⟨e, st3⟩ := r
        rw [h3] at h; simp only at h
        have g3 := g2.trans (exprOf_goes s _ _ _ g2.tk h3)
        cases h4 : need s ⟨#[59]⟩ st3 with
        | error p => rw [h4] at h; cases h
        | ok st4 =>
          rw [h4] at h
          cases h
          exact g3.trans (need_good g3.tk h4)

theorem callAs_goes {s : ByteArray} {x : Sm} {st : Ps} {y : Sm} {st' : Ps} (ht : Tk s st.t) (h : callAs s x st = .ok (y, st')) : Good0 s st st' := by
  unfold callAs at h
  split at h
  · rename_i ho
    have g1 := good_on ht ho
    cases h1 : kind s 119 (nx s st) with
    | error p => rw [h1] at h; cases h
    | ok st1 => rw [h1] at h; cases h; exact (g1.trans (kind_good g1.tk (by decide) (by decide) h1)).zero
  · cases h; exact Good0.refl ht
theorem callUndo_goes {s : ByteArray} {x : Sm} {st : Ps} {y : Sm} {st' : Ps} (ht : Tk s st.t) (h : callUndo s x st = .ok (y, st')) : Good0 s st st' := by
  unfold callUndo at h
  split at h
  · rename_i ho
    have g1 := good_on ht ho
    cases h1 : kind s 119 (nx s st) with
    | error p => rw [h1] at h; cases h
    | ok st1 => rw [h1] at h; cases h; exact (g1.trans (kind_good g1.tk (by decide) (by decide) h1)).zero
  · cases h; exact Good0.refl ht
theorem callTries_goes {s : ByteArray} {x : Sm} {st : Ps} {y : Sm} {st' : Ps} (ht : Tk s st.t) (h : callTries s x st = .ok (y, st')) : Good0 s st st' := by
  unfold callTries at h
  split at h
  · rename_i ho
    have g1 := good_on ht ho
    cases h1 : kind s 110 (nx s st) with
    | error p => rw [h1] at h; cases h
    | ok st1 => rw [h1] at h; cases h; exact (g1.trans (kind_good g1.tk (by decide) (by decide) h1)).zero
  · cases h; exact Good0.refl ht
theorem callArg_goes {s : ByteArray} {x : Sm} {st : Ps} {y : Sm} {st' : Ps} (ht : Tk s st.t) (h : callArg s x st = .ok (y, st')) : Good0 s st st' := by
  unfold callArg at h
  split at h
  · cases h; exact Good0.refl ht
  · cases h1 : exprOf s st with
    | error p => rw [h1] at h; cases h
    | ok r => obtain ⟨e, st1⟩ := r; rw [h1] at h; cases h; exact (exprOf_goes s _ _ _ ht h1).zero

theorem call_goes (s : ByteArray) : Goes s (call s) := by
  intro st x st' ht h
  unfold call at h
  cases h1 : kind s 119 st with
  | error p => rw [h1] at h; cases h
  | ok st1 =>
    rw [h1] at h; simp only at h
    have g1 := kind_good ht (by decide) (by decide) h1
    cases h2 : need s ⟨#[40]⟩ st1 with
    | error p => rw [h2] at h; cases h
    | ok st2 =>
      rw [h2] at h; simp only at h
      have g2 := g1.trans (need_good g1.tk h2)
      cases h3 : callArg s { zeroS with op := 99, word := txt s st.t, pl := st.t.a, n := 1 } st2 with
      | error p => rw [h3] at h; cases h
      | ok r3 =>
        obtain ⟨x3, st3⟩ := r3
        rw [h3] at h; simp only at h
        have g3 := g2.then0 (callArg_goes g2.tk h3)
        cases h4 : need s ⟨#[41]⟩ st3 with
        | error p => rw [h4] at h; cases h
        | ok st4 =>
          rw [h4] at h; simp only at h
          have g4 := g3.trans (need_good g3.tk h4)
          cases h5 : callAs s x3 st4 with
          | error p => rw [h5] at h; cases h
          | ok r5 =>
            obtain ⟨x5, st5⟩ := r5
            rw [h5] at h; simp only at h
            have g5 := g4.then0 (callAs_goes g4.tk h5)
            cases h6 : callUndo s x5 st5 with
            | error p => rw [h6] at h; cases h
            | ok r6 =>
              obtain ⟨x6, st6⟩ := r6
              rw [h6] at h; simp only at h
              have g6 := g5.then0 (callUndo_goes g5.tk h6)
              cases h7 : callTries s x6 st6 with
              | error p => rw [h7] at h; cases h
              | ok r7 =>
                obtain ⟨x7, st7⟩ := r7
                rw [h7] at h; simp only at h
                have g7 := g6.then0 (callTries_goes g6.tk h7)
                cases h8 : need s ⟨#[59]⟩ st7 with
                | error p => rw [h8] at h; cases h
                | ok st8 => rw [h8] at h; cases h; exact g7.trans (need_good g7.tk h8)

theorem ifS_goes {s : ByteArray} {g : Ps → Except Nat (Sm × Ps)} (hg : Goes s g) : Goes s (ifS s g) := by
  intro st x st' ht h
  unfold ifS at h
  cases h1 : exprOf s st with
  | error p => rw [h1] at h; cases h
  | ok r =>
    obtain ⟨e, st1⟩ := r
    rw [h1] at h; simp only at h
    have g1 := exprOf_goes s _ _ _ ht h1
    cases h2 : block s g st1 with
    | error p => rw [h2] at h; cases h
    | ok r =>
      obtain ⟨l, st2⟩ := r
      rw [h2] at h; simp only at h
      have g2 := g1.trans (block_goes hg _ _ _ g1.tk h2)
      split at h
      · rename_i ho
        have g3 := g2.trans (good_on g2.tk ho)
        cases h4 : block s g (nx s st2) with
        | error p => rw [h4] at h; cases h
        | ok r => obtain ⟨m, st3⟩ := r; rw [h4] at h; cases h; exact g3.trans (block_goes hg _ _ _ g3.tk h4)
      · cases h; exact g2

theorem tryS_goes {s : ByteArray} {g : Ps → Except Nat (Sm × Ps)} (hg : Goes s g) : Goes s (tryS s g) := by
  intro st x st' ht h
  unfold tryS at h
  cases h1 : block s g st with
  | error p => rw [h1] at h; cases h
  | ok r =>
    obtain ⟨l, st1⟩ := r
    rw [h1] at h; simp only at h
    have g1 := block_goes hg _ _ _ ht h1
    cases h2 : need s ⟨#[101, 108, 115, 101]⟩ st1 with
    | error p => rw [h2] at h; cases h
    | ok st2 =>
      rw [h2] at h; simp only at h
      have g2 := g1.trans (need_good g1.tk h2)
      cases h3 : block s g st2 with
      | error p => rw [h3] at h; cases h
      | ok r => obtain ⟨m, st3⟩ := r; rw [h3] at h; cases h; exact g2.trans (block_goes hg _ _ _ g2.tk h3)

theorem repeatS_goes {s : ByteArray} {g : Ps → Except Nat (Sm × Ps)} (hg : Goes s g) : Goes s (repeatS s g) := by
  intro st x st' ht h
  unfold repeatS at h
  cases h1 : kind s 110 st with
  | error p => rw [h1] at h; cases h
  | ok st1 =>
    rw [h1] at h; simp only at h
    have g1 := kind_good ht (by decide) (by decide) h1
    cases h2 : block s g st1 with
    | error p => rw [h2] at h; cases h
    | ok r => obtain ⟨m, st3⟩ := r; rw [h2] at h; cases h; exact g1.trans (block_goes hg _ _ _ g1.tk h2)

theorem failS_goes (s : ByteArray) : Goes s (failS s) := by
  intro st x st' ht h
  unfold failS at h
  cases h1 : need s ⟨#[102, 97, 105, 108]⟩ st with
  | error p => rw [h1] at h; cases h
  | ok st1 =>
    rw [h1] at h; simp only at h
    have g1 := need_good ht h1
    cases h2 : need s ⟨#[59]⟩ st1 with
    | error p => rw [h2] at h; cases h
    | ok st2 => rw [h2] at h; cases h; exact g1.trans (need_good g1.tk h2)

theorem stmt_goes (s : ByteArray) (n : Nat) : Goes s (stmt s n) := by
  induction n with
  | zero => intro st x st' _ h; simp [stmt] at h
  | succ n ih =>
    intro st x st' ht h
    rw [stmt] at h
    split at h
    · rename_i ho; have g1 := good_on ht ho; exact g1.trans (letS_goes s _ _ _ g1.tk h)
    · split at h
      · rename_i ho; have g1 := good_on ht ho; exact g1.trans (call_goes s _ _ _ g1.tk h)
      · split at h
        · rename_i ho; have g1 := good_on ht ho; exact g1.trans (ifS_goes ih _ _ _ g1.tk h)
        · split at h
          · rename_i ho; have g1 := good_on ht ho; exact g1.trans (tryS_goes ih _ _ _ g1.tk h)
          · split at h
            · rename_i ho; have g1 := good_on ht ho; exact g1.trans (repeatS_goes ih _ _ _ g1.tk h)
            · exact failS_goes s _ _ _ ht h

end Px
end Go.Proofs.YtcogbbneodihkaaGreatDoor

namespace Go.Proofs.YtcogbbneodihkaaGreatDoor
open Go.RowKit
namespace Lg

/-- The program's number of an operator. -/
def opIx (o : Nat) : Nat := if o = 43 then 0 else if o = 45 then 1 else if o = 42 then 2 else if o = 47 then 3 else if o = 60 then 4 else if o = 61 then 5 else 6

/-- An expr in the program's memory; all its blocks are of 'ok'. -/
def XAt (w : World) : Px.Ex → (Nat → Prop) → Value → Prop
  | ⟨op, n, word, _, own, none, none⟩, ok, v => ∃ q, ok q ∧
      ((op = 110 ∧ v = .iface 154 (Ref.ptr q) ∧ w.heap[q]? = some (.cells #[.int .i64 (n : Int), .int .i64 (own : Int)] 180)) ∨
       (op = 119 ∧ v = .iface 171 (Ref.ptr q) ∧ w.heap[q]? = some (.cells #[.string word, .int .i64 (own : Int)] 194)) ∨
       (op = 116 ∧ v = .iface 222 (Ref.ptr q) ∧ w.heap[q]? = some (.cells #[.bool (n == 1)] 224)))
  | ⟨op, _, _, _, own, some l, none⟩, ok, v => op = 33 ∧ ∃ q tl ql, ok q ∧ v = .iface 225 (Ref.ptr q) ∧ w.heap[q]? = some (.cells #[.iface tl (Ref.ptr ql), .int .i64 (own : Int)] 227) ∧ XAt w l ok (.iface tl (Ref.ptr ql))
  | ⟨op, _, _, _, own, some l, some r⟩, ok, v => ∃ q tl ql tr qr, ok q ∧ v = .iface 198 (Ref.ptr q) ∧ w.heap[q]? = some (.cells #[.int .i64 (opIx op : Int), .iface tl (Ref.ptr ql), .iface tr (Ref.ptr qr), .int .i64 (own : Int)] 200) ∧ XAt w l ok (.iface tl (Ref.ptr ql)) ∧ XAt w r ok (.iface tr (Ref.ptr qr))
  | ⟨_, _, _, _, _, none, some _⟩, _, _ => False

theorem XAt.form {w : World} {x : Px.Ex} {ok : Nat → Prop} {v : Value} (h : XAt w x ok v) : ∃ t q, v = .iface t (Ref.ptr q) := by
  match x with
  | ⟨op, n, word, pl, own, none, none⟩ =>
    obtain ⟨q, h1, ⟨h2, h3, h4⟩ | ⟨h2, h3, h4⟩ | ⟨h2, h3, h4⟩⟩ := h <;> exact ⟨_, q, h3⟩
  | ⟨op, n, word, pl, own, some l, none⟩ => obtain ⟨h0, q, tl, ql, h1, h2, h3⟩ := h; exact ⟨_, q, h2⟩
  | ⟨op, n, word, pl, own, some l, some r⟩ => obtain ⟨q, tl, ql, tr, qr, h1, h2, h3⟩ := h; exact ⟨_, q, h2⟩
  | ⟨_, _, _, _, _, none, some _⟩ => exact h.elim

theorem XAt.mono {w : World} {x : Px.Ex} {ok ok' : Nat → Prop} {v : Value} (h : XAt w x ok v) (hk : ∀ k, ok k → ok' k) : XAt w x ok' v := by
  match x with
  | ⟨op, n, word, pl, own, none, none⟩ => obtain ⟨q, h1, h2⟩ := h; exact ⟨q, hk _ h1, h2⟩
  | ⟨op, n, word, pl, own, some l, none⟩ => obtain ⟨h0, q, tl, ql, h1, h2, h3, h4⟩ := h; exact ⟨h0, q, tl, ql, hk _ h1, h2, h3, h4.mono hk⟩
  | ⟨op, n, word, pl, own, some l, some r⟩ => obtain ⟨q, tl, ql, tr, qr, h1, h2, h3, h4, h5⟩ := h; exact ⟨q, tl, ql, tr, qr, hk _ h1, h2, h3, h4.mono hk, h5.mono hk⟩
  | ⟨_, _, _, _, _, none, some _⟩ => exact h.elim

theorem XAt.keep {w w' : World} {x : Px.Ex} {ok : Nat → Prop} {v : Value} (h : XAt w x ok v) (hk : ∀ k, ok k → w'.heap[k]? = w.heap[k]?) : XAt w' x ok v := by
  match x with
  | ⟨op, n, word, pl, own, none, none⟩ => obtain ⟨q, h1, h2⟩ := h; exact ⟨q, h1, by rw [hk _ h1]; exact h2⟩
  | ⟨op, n, word, pl, own, some l, none⟩ => obtain ⟨h0, q, tl, ql, h1, h2, h3, h4⟩ := h; exact ⟨h0, q, tl, ql, h1, h2, by rw [hk _ h1]; exact h3, h4.keep hk⟩
  | ⟨op, n, word, pl, own, some l, some r⟩ => obtain ⟨q, tl, ql, tr, qr, h1, h2, h3, h4, h5⟩ := h; exact ⟨q, tl, ql, tr, qr, h1, h2, by rw [hk _ h1]; exact h3, h4.keep hk, h5.keep hk⟩
  | ⟨_, _, _, _, _, none, some _⟩ => exact h.elim

theorem XAt.place {w : World} {x : Px.Ex} {ok : Nat → Prop} {v : Value} (h : XAt w x ok v) (a : Nat) : XAt w { x with pl := a } ok v := by
  match x with
  | ⟨op, n, word, pl, own, none, none⟩ => exact h
  | ⟨op, n, word, pl, own, some l, none⟩ => exact h
  | ⟨op, n, word, pl, own, some l, some r⟩ => exact h
  | ⟨_, _, _, _, _, none, some _⟩ => exact h.elim

/-- A tree's blocks stand while another is read. -/
theorem XAt.kp {b : Nat} {w w1 w2 : World} {x : Px.Ex} {v : Value} (h : XAt w1 x (Ref.In w w1) v) (hb : b < w.heap.size) (k : Kp b w1 w2) : XAt w2 x (Ref.In w w2) v :=
  (h.keep fun i hi => k.block i hi.2 (by have := hi.1; omega)).mono fun i hi => ⟨hi.1, Nat.lt_of_lt_of_le hi.2 k.size⟩

/-- Two and an operator, laid behind them. -/
theorem XAt.pair {w wr w3 : World} {x y : Px.Ex} {tl ql tr qr o pl own : Nat} {b : Nat} (hb : b < w.heap.size) (hx : XAt wr x (Ref.In w wr) (.iface tl (Ref.ptr ql))) (k : Kp b wr w3) (h1 : Kp b w wr) (hy : XAt w3 y (Ref.In wr w3) (.iface tr (Ref.ptr qr))) :
    XAt (w3.alloc (.cells #[.int .i64 (opIx o : Int), .iface tl (Ref.ptr ql), .iface tr (Ref.ptr qr), .int .i64 (own : Int)] 200)) ⟨o, 0, Px.nowt, pl, own, some x, some y⟩ (Ref.In w (w3.alloc (.cells #[.int .i64 (opIx o : Int), .iface tl (Ref.ptr ql), .iface tr (Ref.ptr qr), .int .i64 (own : Int)] 200))) (.iface 198 (Ref.ptr w3.heap.size)) := by
  have s1 := h1.size
  have s2 := k.size
  refine ⟨w3.heap.size, tl, ql, tr, qr, ⟨by omega, by simp⟩, rfl, new1, ?_, ?_⟩
  · exact (hx.kp hb k).kp hb ((Kp.refl b w3).alloc _)
  · exact ((hy.keep fun i hi => Below.heap_alloc _ _ _ hi.2).mono fun i hi => ⟨by have := hi.1; omega, by have := hi.2; simp; omega⟩)

/-- What is left to be read, by the reader's own cells. -/
def rdM (s : ByteArray) (b : Nat) (w : World) : Nat :=
  match w.heap[b]? with
  | some (Obj.cells c _ _) => (match c[3]? with
    | some (Value.int _ a) => s.size + 1 - a.toNat
    | _ => 0)
  | _ => 0

theorem rdM_eq {w : World} {b : Nat} {s : ByteArray} {st : Px.Ps} {eT eN : Addr} (r : Rd w b s st eT eN) : rdM s b w = s.size + 1 - st.t.a := by
  obtain ⟨td, ra, _⟩ := r.mem
  simp [rdM, ra.h]

theorem onB_63 {s : ByteArray} {t : Px.Tok} (h : t.k = 63) (x : ByteArray) : Px.onB s t x = false := by
  unfold Px.onB; rw [h]; rfl

theorem fin_cases {α : Type} {r : Except Nat (α × Px.Ps)} {p : Nat} (h : fin r = .error p) : r = .error p ∨ ∃ x st, r = .ok (x, st) ∧ st.t.k = 63 ∧ p = st.t.a := by
  cases r with
  | error q => left; exact h
  | ok y =>
    obtain ⟨x, st⟩ := y
    obtain ⟨h1, h2⟩ := fin_ok_k h
    exact Or.inr ⟨x, st, rfl, h1, h2⟩

theorem fin_63 {α : Type} (x : α) {st : Px.Ps} (h : st.t.k = 63) : fin (.ok (x, st)) = .error st.t.a := by
  unfold fin; simp only; rw [if_pos h]

/-- A sign that is none is refused where it is asked for. -/
def Late {α : Type} (g : Px.Ps → Except Nat (α × Px.Ps)) : Prop := ∀ st, st.t.k = 63 → fin (g st) = .error st.t.a

theorem chain_late (s : ByteArray) (g : Px.Ps → Except Nat (Px.Ex × Px.Ps)) (a b : UInt8) (m pl : Nat) (e : Px.Ex) (st : Px.Ps) (h : st.t.k = 63) : fin (Px.chain s g a b m pl e st) = .error st.t.a := by
  cases m with
  | zero => rfl
  | succ m => rw [Px.chain, if_neg (by simp [onB_63 h]), if_neg (by simp [onB_63 h])]; exact fin_63 _ h

/-- Behind what was thrown in the midst of a row. -/
theorem fin_chain {s : ByteArray} {g : Px.Ps → Except Nat (Px.Ex × Px.Ps)} {a b : UInt8} {m pl : Nat} {f : Px.Ex → Px.Ex} {r : Except Nat (Px.Ex × Px.Ps)} {p : Nat} (h : fin r = .error p) :
    fin (match r with
      | .error p => .error p
      | .ok (k, st') => Px.chain s g a b m pl (f k) st') = .error p := by
  rcases fin_cases h with rfl | ⟨x, st, rfl, h1, rfl⟩
  · rfl
  · exact chain_late s g a b m pl _ st h1

theorem row_late (s : ByteArray) {g : Px.Ps → Except Nat (Px.Ex × Px.Ps)} (hg : Late g) (a b : UInt8) : Late (Px.row s g a b) := by
  intro st h
  have := hg st h
  unfold Px.row
  exact fin_chain (f := id) this

theorem sum_late (s : ByteArray) {g : Px.Ps → Except Nat (Px.Ex × Px.Ps)} (hg : Late g) : Late (Px.sum s g) := row_late s (row_late s hg _ _) _ _

theorem cmp_63 {s : ByteArray} {t : Px.Tok} (h : t.k = 63) : Px.cmpOf s t = none := by
  unfold Px.cmpOf; rw [onB_63 h, onB_63 h, onB_63 h]; rfl

theorem expr_late (s : ByteArray) {g : Px.Ps → Except Nat (Px.Ex × Px.Ps)} (hg : Late g) : Late (Px.expr s g) := by
  intro st h
  have := sum_late s hg st h
  unfold Px.expr
  rcases fin_cases this with h1 | ⟨x, st1, h1, h2, h3⟩
  · rw [h1]; rfl
  · rw [h1]; simp only; rw [cmp_63 h2]; simp only; rw [h3]; exact fin_63 _ h2

theorem atom_late (s : ByteArray) (n : Nat) : Late (Px.atom s n) := by
  intro st h
  cases n with
  | zero => rfl
  | succ n =>
    rw [Px.atom, if_neg (by omega), if_neg (by omega), if_neg (by simp [onB_63 h]), if_neg (by simp [onB_63 h]), if_neg (by simp [onB_63 h]), if_neg (by simp [onB_63 h])]
    rfl

theorem exprOf_late (s : ByteArray) : Late (Px.exprOf s) := expr_late s (atom_late s _)

end Lg
end Go.Proofs.YtcogbbneodihkaaGreatDoor

namespace Go.Proofs.YtcogbbneodihkaaGreatDoor
open Go.RowKit
namespace Lg

def XV (w : World) : World → Px.Ex → Value → Prop := fun w' x v => XAt w' x (Ref.In w w') v

def PartX (b : Nat) (s : ByteArray) (n : Nat) (eT eN : Addr) (F : Nat) (g : Px.Ps → Except Nat (Px.Ex × Px.Ps)) : Prop :=
  ∀ (st : Px.Ps) (w : World), Ref.Dom s n st → Rd w b s st eT eN → Calls Tryz.prog F #[.pointer (some ⟨b, 0, none⟩)] w (Out b s eT eN w (g st) (XV w))

/-- The state of a row's loop. -/
def ChRel (b : Nat) (s : ByteArray) (n : Nat) (eT eN : Addr) (g : Px.Ps → Except Nat (Px.Ex × Px.Ps)) (oa ob : UInt8) (pl : Nat) (R : Except Nat (Px.Ex × Px.Ps)) (w wr : World) (v : Value) : Prop :=
  Kp b w wr ∧ ∃ x st m, XAt wr x (Ref.In w wr) v ∧ Rd wr b s st eT eN ∧ Ref.Dom s n st ∧ Px.chain s g oa ob m pl x st = R ∧ s.size - st.t.a < m

theorem ch_some {s : ByteArray} {g : Px.Ps → Except Nat (Px.Ex × Px.Ps)} {oa ob : UInt8} {l : Int} (hop : ∀ st : Px.Ps, opFrom s st.t l 7 0 = if Px.onB s st.t ⟨#[oa]⟩ = true then some (opIx oa.toNat) else if Px.onB s st.t ⟨#[ob]⟩ = true then some (opIx ob.toNat) else none)
    {st : Px.Ps} {i m pl : Nat} {x : Px.Ex} (h : opFrom s st.t l 7 0 = some i) : st.t.k = 107 ∧ ∃ o : Nat, i = opIx o ∧ Px.chain s g oa ob (m + 1) pl x st = (match g (Px.nx s st) with
      | .error p => .error p
      | .ok (k, st') => Px.chain s g oa ob m pl ⟨o, 0, Px.nowt, pl, st.t.a, some x, some k⟩ st') := by
  rw [hop] at h
  split at h
  · rename_i h1
    cases h
    refine ⟨Px.onB_k h1, oa.toNat, rfl, ?_⟩
    rw [Px.chain, if_pos h1]
    cases g (Px.nx s st) <;> rfl
  · split at h
    · rename_i h1 h2
      cases h
      refine ⟨Px.onB_k h2, ob.toNat, rfl, ?_⟩
      rw [Px.chain, if_neg h1, if_pos h2]
      cases g (Px.nx s st) <;> rfl
    · cases h

theorem ch_none {s : ByteArray} {g : Px.Ps → Except Nat (Px.Ex × Px.Ps)} {oa ob : UInt8} {l : Int} (hop : ∀ st : Px.Ps, opFrom s st.t l 7 0 = if Px.onB s st.t ⟨#[oa]⟩ = true then some (opIx oa.toNat) else if Px.onB s st.t ⟨#[ob]⟩ = true then some (opIx ob.toNat) else none)
    {st : Px.Ps} {m pl : Nat} {x : Px.Ex} (h : opFrom s st.t l 7 0 = none) : Px.chain s g oa ob (m + 1) pl x st = .ok (x, st) := by
  rw [hop] at h
  split at h
  · cases h
  · split at h
    · cases h
    · rename_i h1 h2
      rw [Px.chain, if_neg h1, if_neg h2]

/-- One operator and its right side more. -/
theorem ch_step {b : Nat} {s : ByteArray} {n : Nat} {eT eN : Addr} {g : Px.Ps → Except Nat (Px.Ex × Px.Ps)} {oa ob : UInt8} {pl : Nat} {R : Except Nat (Px.Ex × Px.Ps)} {w wr w2 w3 : World} {tl ql tr qr o m : Nat} {x y : Px.Ex} {st1 st' : Px.Ps}
    (hb : b < w.heap.size) (hg : Px.Goes s g) (KR : Kp b w wr) (X : XAt wr x (Ref.In w wr) (.iface tl (Ref.ptr ql))) (D1 : Ref.Dom s n st1) (hk : st1.t.k = 107) (K2 : Kp b wr w2) (K3 : Kp b w2 w3) (hm : s.size - st1.t.a < m + 1)
    (CH : (match g (Px.nx s st1) with
      | .error p => .error p
      | .ok (k, st') => Px.chain s g oa ob m pl ⟨o, 0, Px.nowt, pl, st1.t.a, some x, some k⟩ st') = R) (hr : g (Px.nx s st1) = .ok (y, st')) (Y : XAt w3 y (Ref.In w2 w3) (.iface tr (Ref.ptr qr))) (R3 : Rd w3 b s st' eT eN) :
    ChRel b s n eT eN g oa ob pl R w (w3.alloc (.cells #[.int .i64 (opIx o : Int), .iface tl (Ref.ptr ql), .iface tr (Ref.ptr qr), .int .i64 (st1.t.a : Int)] 200)) (.iface 198 (Ref.ptr w3.heap.size)) ∧
      rdM s b (w3.alloc (.cells #[.int .i64 (opIx o : Int), .iface tl (Ref.ptr ql), .iface tr (Ref.ptr qr), .int .i64 (st1.t.a : Int)] 200)) < s.size + 1 - st1.t.a := by
  have g0 : Px.Good s st1 (Px.nx s st1) := Px.good_nx D1.tk (by omega) (by omega)
  have g1 := g0.trans (hg _ _ _ g0.tk hr)
  have g2 := g1.lt
  have g3 := g1.tk.ab
  have g4 := g1.tk.le
  have z2 := K2.size
  have Y' : XAt w3 y (Ref.In wr w3) (.iface tr (Ref.ptr qr)) := Y.mono fun i hi => ⟨by have := hi.1; omega, hi.2⟩
  rw [hr] at CH
  refine ⟨⟨((KR.trans K2).trans K3).alloc _, _, st', m, XAt.pair hb X (K2.trans K3) KR Y', R3.alloc _, D1.good g1, CH, by omega⟩, ?_⟩
  rw [rdM_eq (R3.alloc _)]
  omega


set_option maxRecDepth 100000 in
set_option maxHeartbeats 4000000 in
theorem chain_term (b : Nat) (s : ByteArray) (n : Nat) (eT eN : Addr) (g : Px.Ps → Except Nat (Px.Ex × Px.Ps)) (hp : PartX b s n eT eN 109 g) (hg : Px.Goes s g) (hl : Late g) (hs : s.size ≤ maxLen) (st : Px.Ps) (w : World) (hD : Ref.Dom s n st) (r : Rd w b s st eT eN) :
    Calls Tryz.prog 102 #[.pointer (some ⟨b, 0, none⟩), .int .i64 2, .func (.func 109) #[.pointer (some ⟨b, 0, none⟩)] #[]] w (Out b s eT eN w (Px.row s g 42 47 st) (XV w)) := by
  have hb := r.lt
  have R : Hid (Rd w b s st eT eN ∧ Ref.Dom s n st) := ⟨r, hD⟩
  have HP : Hid (_) := hp
  have HG : Hid (Px.Goes s g ∧ Late g) := ⟨hg, hl⟩
  have HOP : Hid (∀ st : Px.Ps, opFrom s st.t 2 7 0 = if Px.onB s st.t ⟨#[42]⟩ = true then some (opIx (42 : UInt8).toNat) else if Px.onB s st.t ⟨#[47]⟩ = true then some (opIx (47 : UInt8).toNat) else none) := fun st => op_term s st
  clear r hp hD hg hl
  go_enter Tryz.func102, Tryz.ntmps102
  go_wp2_with fail
  refine (HP.out st _ R.out.2 R.out.1).mono ?_
  rintro e w1 ⟨k1, ⟨x, st1, v, he, rfl, hv, r1⟩ | ⟨p, hp, ht⟩⟩
  · have hrow : Px.row s g 42 47 st = Px.chain s g 42 47 (s.size + 1) st.t.a x st1 := by unfold Px.row; rw [he]
    generalize hRR : Px.row s g 42 47 st = RR at *
    have D1 := R.out.2.good (HG.out.1 _ _ _ R.out.1.tk he)
    have HS : Hid (ChRel b s n eT eN g 42 47 st.t.a RR w w1 v) := ⟨k1, x, st1, s.size + 1, hv, r1, D1, hrow.symm, by omega⟩
    clear k1 hv r1 D1 hrow he hRR
    go_wp2_with fail
    go_loopw [7] (fun v wr => Hid (ChRel b s n eT eN g 42 47 st.t.a RR w wr v)) (fun _ wr => rdM s b wr)
    case atStart => exact HS.out
    case round =>
      obtain ⟨kr, x, st1, m, hx, r1, D1, CH, hm⟩ := hrel.out
      clear hrel
      obtain ⟨tl, ql, rfl⟩ := hx.form
      unfold Ref.ptr at hx ⊢
      obtain ⟨m, rfl⟩ : ∃ m', m = m' + 1 := ⟨m - 1, by omega⟩
      have KR : Hid (Kp b w wr ∧ XAt wr x (Ref.In w wr) (.iface tl (.pointer (some ⟨ql, 0, none⟩))) ∧ Rd wr b s st1 eT eN ∧ Ref.Dom s n st1 ∧ Px.chain s g 42 47 (m + 1) st.t.a x st1 = RR) := ⟨kr, hx, r1, D1, CH⟩
      clear kr hx r1 D1 CH
      go_wp2_with fail
      refine (operator_any b s 2 st1 eT eN _ KR.out.2.2.1 hs).mono ?_
      rintro e w2 ⟨k2, ⟨o, st2, v, he, rfl, rfl, r2⟩ | ⟨p, hp, ht⟩⟩
      · cases hf : opFrom s st1.t 2 7 0 with
        | none =>
          have he' : opU s 2 st1 = .ok (none, st1) := by unfold opU; rw [hf]
          rw [he'] at he
          cases he
          have hR : Hid (RR = .ok (x, st1)) := KR.out.2.2.2.2.symm.trans (ch_none HOP.out hf)
          have R2 : Hid (Kp b wr w2 ∧ Rd w2 b s st1 eT eN) := ⟨k2, r2⟩
          clear k2 r2 he' hf
          go_wp2_with fail
          go_ret
          refine ⟨KR.out.1.trans R2.out.1, Or.inl ⟨x, st1, _, hR.out, rfl, ?_, R2.out.2⟩⟩
          exact XAt.kp KR.out.2.1 hb R2.out.1
        | some i =>
          have he' : opU s 2 st1 = .ok (some i, Px.nx s st1) := by unfold opU; rw [hf]
          rw [he'] at he
          cases he
          obtain ⟨hk, o, rfl, hch⟩ := ch_some (g := g) (m := m) (pl := st.t.a) (x := x) HOP.out hf
          have HC : Hid (_ ∧ _) := ⟨hk, hch.symm.trans KR.out.2.2.2.2⟩
          have R2 : Hid (Kp b wr w2 ∧ Rd w2 b s (Px.nx s st1) eT eN) := ⟨k2, r2⟩
          have D2 : Hid (Ref.Dom s n (Px.nx s st1)) := KR.out.2.2.2.1.good (Px.good_nx KR.out.2.2.1.tk (by omega) (by omega))
          clear k2 r2 he' hf hk hch
          go_wp2_with fail
          refine (HP.out (Px.nx s st1) _ D2.out R2.out.2).mono ?_
          rintro e w3 ⟨k3, ⟨y, st3, v, hy, rfl, hv, r3⟩ | ⟨p, hp, ht⟩⟩
          · obtain ⟨tr, qr, rfl⟩ := XAt.form hv
            have M := rdM_eq KR.out.2.2.1
            have ST : Hid (_ ∧ _) := ch_step hb HG.out.1 KR.out.1 KR.out.2.1 KR.out.2.2.2.1 HC.out.1 R2.out.1 k3 hm HC.out.2 hy hv r3
            rw [← M] at ST
            clear k3 hy hv r3 M
            unfold Ref.ptr at ST ⊢
            go_wp2_with fail
            exact ST.out
          · obtain ⟨c, rfl⟩ := ht.form
            exact ⟨rfl, (KR.out.1.trans R2.out.1).trans k3, Or.inr ⟨p, by rw [← HC.out.2]; exact fin_chain hp, ht.low (KR.out.1.trans R2.out.1).size⟩⟩
      · obtain ⟨c, rfl⟩ := ht.form
        have hfin : fin RR = .error p := by
          cases hf : opFrom s st1.t 2 7 0 with
          | none =>
            have he' : opU s 2 st1 = .ok (none, st1) := by unfold opU; rw [hf]
            rw [he'] at hp
            exact absurd (fin_ok_k hp).1 KR.out.2.2.1.k63
          | some i =>
            have he' : opU s 2 st1 = .ok (some i, Px.nx s st1) := by unfold opU; rw [hf]
            rw [he'] at hp
            obtain ⟨h1, rfl⟩ := fin_ok_k hp
            obtain ⟨hk, o, rfl, hch⟩ := ch_some (g := g) (m := m) (pl := st.t.a) (x := x) HOP.out hf
            rw [← KR.out.2.2.2.2, hch]
            exact fin_chain (HG.out.2 _ h1)
        exact ⟨rfl, KR.out.1.trans k2, Or.inr ⟨p, hfin, ht.low KR.out.1.size⟩⟩
  · obtain ⟨c, rfl⟩ := ht.form
    exact ⟨rfl, k1, Or.inr ⟨p, by unfold Px.row; exact fin_chain (f := id) hp, ht⟩⟩

set_option maxRecDepth 100000 in
set_option maxHeartbeats 4000000 in
theorem chain_sum (b : Nat) (s : ByteArray) (n : Nat) (eT eN : Addr) (g : Px.Ps → Except Nat (Px.Ex × Px.Ps)) (hp : PartX b s n eT eN 103 g) (hg : Px.Goes s g) (hl : Late g) (hs : s.size ≤ maxLen) (st : Px.Ps) (w : World) (hD : Ref.Dom s n st) (r : Rd w b s st eT eN) :
    Calls Tryz.prog 102 #[.pointer (some ⟨b, 0, none⟩), .int .i64 1, .func (.func 103) #[.pointer (some ⟨b, 0, none⟩)] #[]] w (Out b s eT eN w (Px.row s g 43 45 st) (XV w)) := by
  have hb := r.lt
  have R : Hid (Rd w b s st eT eN ∧ Ref.Dom s n st) := ⟨r, hD⟩
  have HP : Hid (_) := hp
  have HG : Hid (Px.Goes s g ∧ Late g) := ⟨hg, hl⟩
  have HOP : Hid (∀ st : Px.Ps, opFrom s st.t 1 7 0 = if Px.onB s st.t ⟨#[43]⟩ = true then some (opIx (43 : UInt8).toNat) else if Px.onB s st.t ⟨#[45]⟩ = true then some (opIx (45 : UInt8).toNat) else none) := fun st => op_sum s st
  clear r hp hD hg hl
  go_enter Tryz.func102, Tryz.ntmps102
  go_wp2_with fail
  refine (HP.out st _ R.out.2 R.out.1).mono ?_
  rintro e w1 ⟨k1, ⟨x, st1, v, he, rfl, hv, r1⟩ | ⟨p, hp, ht⟩⟩
  · have hrow : Px.row s g 43 45 st = Px.chain s g 43 45 (s.size + 1) st.t.a x st1 := by unfold Px.row; rw [he]
    generalize hRR : Px.row s g 43 45 st = RR at *
    have D1 := R.out.2.good (HG.out.1 _ _ _ R.out.1.tk he)
    have HS : Hid (ChRel b s n eT eN g 43 45 st.t.a RR w w1 v) := ⟨k1, x, st1, s.size + 1, hv, r1, D1, hrow.symm, by omega⟩
    clear k1 hv r1 D1 hrow he hRR
    go_wp2_with fail
    go_loopw [7] (fun v wr => Hid (ChRel b s n eT eN g 43 45 st.t.a RR w wr v)) (fun _ wr => rdM s b wr)
    case atStart => exact HS.out
    case round =>
      obtain ⟨kr, x, st1, m, hx, r1, D1, CH, hm⟩ := hrel.out
      clear hrel
      obtain ⟨tl, ql, rfl⟩ := hx.form
      unfold Ref.ptr at hx ⊢
      obtain ⟨m, rfl⟩ : ∃ m', m = m' + 1 := ⟨m - 1, by omega⟩
      have KR : Hid (Kp b w wr ∧ XAt wr x (Ref.In w wr) (.iface tl (.pointer (some ⟨ql, 0, none⟩))) ∧ Rd wr b s st1 eT eN ∧ Ref.Dom s n st1 ∧ Px.chain s g 43 45 (m + 1) st.t.a x st1 = RR) := ⟨kr, hx, r1, D1, CH⟩
      clear kr hx r1 D1 CH
      go_wp2_with fail
      refine (operator_any b s 1 st1 eT eN _ KR.out.2.2.1 hs).mono ?_
      rintro e w2 ⟨k2, ⟨o, st2, v, he, rfl, rfl, r2⟩ | ⟨p, hp, ht⟩⟩
      · cases hf : opFrom s st1.t 1 7 0 with
        | none =>
          have he' : opU s 1 st1 = .ok (none, st1) := by unfold opU; rw [hf]
          rw [he'] at he
          cases he
          have hR : Hid (RR = .ok (x, st1)) := KR.out.2.2.2.2.symm.trans (ch_none HOP.out hf)
          have R2 : Hid (Kp b wr w2 ∧ Rd w2 b s st1 eT eN) := ⟨k2, r2⟩
          clear k2 r2 he' hf
          go_wp2_with fail
          go_ret
          refine ⟨KR.out.1.trans R2.out.1, Or.inl ⟨x, st1, _, hR.out, rfl, ?_, R2.out.2⟩⟩
          exact XAt.kp KR.out.2.1 hb R2.out.1
        | some i =>
          have he' : opU s 1 st1 = .ok (some i, Px.nx s st1) := by unfold opU; rw [hf]
          rw [he'] at he
          cases he
          obtain ⟨hk, o, rfl, hch⟩ := ch_some (g := g) (m := m) (pl := st.t.a) (x := x) HOP.out hf
          have HC : Hid (_ ∧ _) := ⟨hk, hch.symm.trans KR.out.2.2.2.2⟩
          have R2 : Hid (Kp b wr w2 ∧ Rd w2 b s (Px.nx s st1) eT eN) := ⟨k2, r2⟩
          have D2 : Hid (Ref.Dom s n (Px.nx s st1)) := KR.out.2.2.2.1.good (Px.good_nx KR.out.2.2.1.tk (by omega) (by omega))
          clear k2 r2 he' hf hk hch
          go_wp2_with fail
          refine (HP.out (Px.nx s st1) _ D2.out R2.out.2).mono ?_
          rintro e w3 ⟨k3, ⟨y, st3, v, hy, rfl, hv, r3⟩ | ⟨p, hp, ht⟩⟩
          · obtain ⟨tr, qr, rfl⟩ := XAt.form hv
            have M := rdM_eq KR.out.2.2.1
            have ST : Hid (_ ∧ _) := ch_step hb HG.out.1 KR.out.1 KR.out.2.1 KR.out.2.2.2.1 HC.out.1 R2.out.1 k3 hm HC.out.2 hy hv r3
            rw [← M] at ST
            clear k3 hy hv r3 M
            unfold Ref.ptr at ST ⊢
            go_wp2_with fail
            exact ST.out
          · obtain ⟨c, rfl⟩ := ht.form
            exact ⟨rfl, (KR.out.1.trans R2.out.1).trans k3, Or.inr ⟨p, by rw [← HC.out.2]; exact fin_chain hp, ht.low (KR.out.1.trans R2.out.1).size⟩⟩
      · obtain ⟨c, rfl⟩ := ht.form
        have hfin : fin RR = .error p := by
          cases hf : opFrom s st1.t 1 7 0 with
          | none =>
            have he' : opU s 1 st1 = .ok (none, st1) := by unfold opU; rw [hf]
            rw [he'] at hp
            exact absurd (fin_ok_k hp).1 KR.out.2.2.1.k63
          | some i =>
            have he' : opU s 1 st1 = .ok (some i, Px.nx s st1) := by unfold opU; rw [hf]
            rw [he'] at hp
            obtain ⟨h1, rfl⟩ := fin_ok_k hp
            obtain ⟨hk, o, rfl, hch⟩ := ch_some (g := g) (m := m) (pl := st.t.a) (x := x) HOP.out hf
            rw [← KR.out.2.2.2.2, hch]
            exact fin_chain (HG.out.2 _ h1)
        exact ⟨rfl, KR.out.1.trans k2, Or.inr ⟨p, hfin, ht.low KR.out.1.size⟩⟩
  · obtain ⟨c, rfl⟩ := ht.form
    exact ⟨rfl, k1, Or.inr ⟨p, by unfold Px.row; exact fin_chain (f := id) hp, ht⟩⟩


theorem term_any (b : Nat) (s : ByteArray) (n : Nat) (eT eN : Addr) (g : Px.Ps → Except Nat (Px.Ex × Px.Ps)) (hp : PartX b s n eT eN 109 g) (hg : Px.Goes s g) (hl : Late g) (hs : s.size ≤ maxLen) : PartX b s n eT eN 103 (Px.term s g) := by
  intro st w hD r
  have H : Hid (_ ∧ _ ∧ _) := ⟨hp, hD, r⟩
  clear hp hD r
  go_enter Tryz.func103, Tryz.ntmps103
  go_wp2_with fail
  refine (chain_term b s n eT eN g H.out.1 hg hl hs st _ H.out.2.1 H.out.2.2).mono ?_
  rintro e w1 ⟨k1, ⟨x, st1, v, he, rfl, hv, r1⟩ | ⟨p, hp, ht⟩⟩
  · have H1 : Hid (_ ∧ _ ∧ _ ∧ _) := ⟨k1, he, hv, r1⟩
    clear k1 he hv r1
    go_wp2_with fail
    go_ret
    exact ⟨H1.out.1, Or.inl ⟨x, st1, _, H1.out.2.1, rfl, H1.out.2.2.1, H1.out.2.2.2⟩⟩
  · obtain ⟨c, rfl⟩ := ht.form
    exact ⟨rfl, k1, Or.inr ⟨p, hp, ht⟩⟩

theorem sum_any (b : Nat) (s : ByteArray) (n : Nat) (eT eN : Addr) (g : Px.Ps → Except Nat (Px.Ex × Px.Ps)) (hp : PartX b s n eT eN 109 g) (hg : Px.Goes s g) (hl : Late g) (hs : s.size ≤ maxLen) : PartX b s n eT eN 97 (Px.sum s g) := by
  intro st w hD r
  have H : Hid (_ ∧ _ ∧ _) := ⟨term_any b s n eT eN g hp hg hl hs, hD, r⟩
  clear hp hD r
  go_enter Tryz.func97, Tryz.ntmps97
  go_wp2_with fail
  refine (chain_sum b s n eT eN (Px.term s g) H.out.1 (Px.term_goes hg) (row_late s hl _ _) hs st _ H.out.2.1 H.out.2.2).mono ?_
  rintro e w1 ⟨k1, ⟨x, st1, v, he, rfl, hv, r1⟩ | ⟨p, hp, ht⟩⟩
  · have H1 : Hid (_ ∧ _ ∧ _ ∧ _) := ⟨k1, he, hv, r1⟩
    clear k1 he hv r1
    go_wp2_with fail
    go_ret
    exact ⟨H1.out.1, Or.inl ⟨x, st1, _, H1.out.2.1, rfl, H1.out.2.2.1, H1.out.2.2.2⟩⟩
  · obtain ⟨c, rfl⟩ := ht.form
    exact ⟨rfl, k1, Or.inr ⟨p, hp, ht⟩⟩

end Lg
end Go.Proofs.YtcogbbneodihkaaGreatDoor

namespace Go.Proofs.YtcogbbneodihkaaGreatDoor
open Go.RowKit
namespace Lg

theorem cmp_some {s : ByteArray} {st : Px.Ps} {i : Nat} (h : opFrom s st.t 0 7 0 = some i) : st.t.k = 107 ∧ ∃ o, i = opIx o ∧ Px.cmpOf s st.t = some o := by
  rw [op_cmp] at h
  unfold Px.cmpOf
  split at h
  · rename_i h1; cases h; exact ⟨Px.onB_k h1, 60, rfl, by rw [if_pos h1]⟩
  · split at h
    · rename_i h1 h2; cases h; exact ⟨Px.onB_k h2, 61, rfl, by rw [if_neg h1, if_pos h2]⟩
    · split at h
      · rename_i h1 h2 h3; cases h; exact ⟨Px.onB_k h3, 35, rfl, by rw [if_neg h1, if_neg h2, if_pos h3]⟩
      · cases h
theorem cmp_none {s : ByteArray} {st : Px.Ps} (h : opFrom s st.t 0 7 0 = none) : Px.cmpOf s st.t = none := by
  rw [op_cmp] at h
  unfold Px.cmpOf
  split at h
  · cases h
  · split at h
    · cases h
    · split at h
      · cases h
      · rename_i h1 h2 h3; rw [if_neg h1, if_neg h2, if_neg h3]

theorem opU_some {s : ByteArray} {l : Int} {st : Px.Ps} {i : Nat} (h : opFrom s st.t l 7 0 = some i) : opU s l st = .ok (some i, Px.nx s st) := by unfold opU; rw [h]
theorem opU_none {s : ByteArray} {l : Int} {st : Px.Ps} (h : opFrom s st.t l 7 0 = none) : opU s l st = .ok (none, st) := by unfold opU; rw [h]

set_option maxHeartbeats 2000000 in
theorem expr_any (b : Nat) (s : ByteArray) (n : Nat) (eT eN : Addr) (g : Px.Ps → Except Nat (Px.Ex × Px.Ps)) (hp : PartX b s n eT eN 109 g) (hg : Px.Goes s g) (hl : Late g) (hs : s.size ≤ maxLen) : PartX b s n eT eN 88 (Px.expr s g) := by
  intro st w hD r
  have hb := r.lt
  have HS : Hid (PartX b s n eT eN 97 (Px.sum s g)) := sum_any b s n eT eN g hp hg hl hs
  have H : Hid (Ref.Dom s n st ∧ Rd w b s st eT eN ∧ Px.Goes s (Px.sum s g) ∧ Late (Px.sum s g)) := ⟨hD, r, Px.sum_goes hg, sum_late s hl⟩
  clear hp hD r hg hl
  go_enter Tryz.func88, Tryz.ntmps88
  go_wp2_with fail
  refine (HS.out st _ H.out.1 H.out.2.1).mono ?_
  rintro e w1 ⟨k1, ⟨x, st1, v, he, rfl, hv, r1⟩ | ⟨p, hp, ht⟩⟩
  · obtain ⟨tl, ql, rfl⟩ := XAt.form hv
    unfold Ref.ptr at hv ⊢
    have H1 : Hid (Kp b w w1 ∧ Px.sum s g st = .ok (x, st1) ∧ XAt w1 x (Ref.In w w1) (.iface tl (.pointer (some ⟨ql, 0, none⟩))) ∧ Rd w1 b s st1 eT eN) := ⟨k1, he, hv, r1⟩
    have G1 : Hid (Px.Good s st st1) := H.out.2.2.1 _ _ _ H.out.2.1.tk he
    clear k1 he hv r1
    go_wp2_with fail
    refine (operator_any b s 0 st1 eT eN _ H1.out.2.2.2 hs).mono ?_
    rintro e w2 ⟨k2, ⟨o, st2, v, he, rfl, rfl, r2⟩ | ⟨p, hp, ht⟩⟩
    · cases hf : opFrom s st1.t 0 7 0 with
      | none =>
        rw [opU_none hf] at he
        cases he
        have E : Hid (Px.expr s g st = .ok (x, st1)) := by unfold Hid Px.expr; rw [H1.out.2.1]; simp only; rw [cmp_none hf]
        have R2 : Hid (Kp b w1 w2 ∧ Rd w2 b s st1 eT eN) := ⟨k2, r2⟩
        clear k2 r2 hf
        go_wp2_with fail
        go_ret
        exact ⟨H1.out.1.trans R2.out.1, Or.inl ⟨x, st1, _, E.out, rfl, XAt.kp H1.out.2.2.1 hb R2.out.1, R2.out.2⟩⟩
      | some i =>
        rw [opU_some hf] at he
        cases he
        obtain ⟨hk, o, rfl, hc⟩ := cmp_some hf
        have HC : Hid (st1.t.k = 107 ∧ Px.cmpOf s st1.t = some o) := ⟨hk, hc⟩
        have R2 : Hid (Kp b w1 w2 ∧ Rd w2 b s (Px.nx s st1) eT eN) := ⟨k2, r2⟩
        have D2 : Hid (Ref.Dom s n (Px.nx s st1)) := H.out.1.good (G1.out.trans (Px.good_nx H1.out.2.2.2.tk (by omega) (by omega)))
        clear k2 r2 hf hk hc
        go_wp2_with fail
        refine (HS.out (Px.nx s st1) _ D2.out R2.out.2).mono ?_
        rintro e w3 ⟨k3, ⟨y, st3, v, hy, rfl, hv, r3⟩ | ⟨p, hp, ht⟩⟩
        · obtain ⟨tr, qr, rfl⟩ := XAt.form hv
          have E : Hid (Px.expr s g st = .ok (⟨o, 0, Px.nowt, st.t.a, st1.t.a, some x, some y⟩, st3)) := by unfold Hid Px.expr; rw [H1.out.2.1]; simp only; rw [HC.out.2]; simp only; rw [hy]
          have z2 := R2.out.1.size
          have X3 : Hid (_) := XAt.pair (pl := st.t.a) (o := o) (own := st1.t.a) hb H1.out.2.2.1 (R2.out.1.trans k3) H1.out.1 (XAt.mono hv fun i hi => ⟨by have := hi.1; omega, hi.2⟩)
          have K3 : Hid (Kp b w w3 ∧ Rd w3 b s st3 eT eN) := ⟨(H1.out.1.trans R2.out.1).trans k3, r3⟩
          clear k3 hy hv r3
          unfold Ref.ptr at X3 ⊢
          go_wp2_with fail
          go_ret
          exact ⟨K3.out.1.alloc _, Or.inl ⟨_, _, _, E.out, rfl, X3.out, K3.out.2.alloc _⟩⟩
        · obtain ⟨c, rfl⟩ := ht.form
          refine ⟨rfl, (H1.out.1.trans R2.out.1).trans k3, Or.inr ⟨p, ?_, ht.low (H1.out.1.trans R2.out.1).size⟩⟩
          unfold Px.expr
          rw [H1.out.2.1]; simp only; rw [HC.out.2]; simp only
          rcases fin_cases hp with h1 | ⟨y, st3, h1, h2, rfl⟩
          · rw [h1]; rfl
          · rw [h1]; exact fin_63 _ h2
    · obtain ⟨c, rfl⟩ := ht.form
      refine ⟨rfl, H1.out.1.trans k2, Or.inr ⟨p, ?_, ht.low H1.out.1.size⟩⟩
      cases hf : opFrom s st1.t 0 7 0 with
      | none => rw [opU_none hf] at hp; exact absurd (fin_ok_k hp).1 H1.out.2.2.2.k63
      | some i =>
        rw [opU_some hf] at hp
        obtain ⟨h1, rfl⟩ := fin_ok_k hp
        obtain ⟨hk, o, rfl, hc⟩ := cmp_some hf
        unfold Px.expr
        rw [H1.out.2.1]; simp only; rw [hc]; simp only
        rcases fin_cases (H.out.2.2.2 _ h1) with h2 | ⟨y, st3, h2, h3, h4⟩
        · rw [h2]; rfl
        · rw [h2, h4]; exact fin_63 _ h3
  · obtain ⟨c, rfl⟩ := ht.form
    refine ⟨rfl, k1, Or.inr ⟨p, ?_, ht⟩⟩
    unfold Px.expr
    rcases fin_cases hp with h1 | ⟨y, st3, h1, h2, rfl⟩
    · rw [h1]; rfl
    · rw [h1]; simp only; rw [cmp_63 h2]; exact fin_63 _ h2

end Lg
end Go.Proofs.YtcogbbneodihkaaGreatDoor
