import Derived.Test.YtcogbbneodihkaaGreatDoorP08
import Derived.Test.YtcogbbneodihkaaGreatDoorP07
import Derived.Deep.RegionWith
import Derived.Test.YtcogbbneodihkaaGreatDoorRows
import Derived.Stop.LaidTwo
import Derived.LaidHandle
import Derived.LaidLaws
import Derived.OpenShut
import Derived.Lib.SmallJoins
import Derived.Deep.DeepCutAuto
namespace Go.Proofs.YtcogbbneodihkaaGreatDoor
open Go.RowKit
namespace Lg

/-- The program's six errors: their variables, their blocks, and that no two are one. -/
structure Snt (w : World) (E : Nat → Addr) : Prop where
  v1 : w.cell? ⟨0, 0, none⟩ = some (.iface 230 (.pointer (some (E 1))))
  v2 : w.cell? ⟨1, 0, none⟩ = some (.iface 230 (.pointer (some (E 2))))
  v3 : w.cell? ⟨3, 0, none⟩ = some (.iface 230 (.pointer (some (E 3))))
  v4 : w.cell? ⟨4, 0, none⟩ = some (.iface 230 (.pointer (some (E 4))))
  v5 : w.cell? ⟨5, 0, none⟩ = some (.iface 230 (.pointer (some (E 5))))
  v6 : w.cell? ⟨6, 0, none⟩ = some (.iface 230 (.pointer (some (E 6))))
  blk : ∀ i, 1 ≤ i → i ≤ 6 → ∃ c t, w.heap[(E i).block]? = some (.cells c t (0, 0))
  ne : ∀ i j, 1 ≤ i → i ≤ 6 → 1 ≤ j → j ≤ 6 → i ≠ j → E i ≠ E j
  et : w.cell? ⟨2, 0, none⟩ = some (.iface 116 (.agg #[.pointer (some ⟨14, 36, none⟩)]))

theorem Snt.below {w w' : World} {E : Nat → Addr} (h : Snt w E) (k : Below w.heap.size w w') : Snt w' E := by
  have bc : ∀ {b o : Nat} {v : Value}, w.cell? ⟨b, o, none⟩ = some v → w'.cell? ⟨b, o, none⟩ = some v := fun {b o v} hv => by
    rw [World.cell?_of_block (w := w) (k.block b (lt_of_cell hv))]; exact hv
  refine ⟨bc h.v1, bc h.v2, bc h.v3, bc h.v4, bc h.v5, bc h.v6, fun i h1 h2 => ?_, h.ne, bc h.et⟩
  obtain ⟨c, t, hc⟩ := h.blk i h1 h2
  have hl : (E i).block < w.heap.size := by
    rcases Nat.lt_or_ge (E i).block w.heap.size with hb | hb
    · exact hb
    · rw [Array.getElem?_eq_none hb] at hc; cases hc
  exact ⟨c, t, by rw [k.block _ hl]; exact hc⟩

theorem is_not {w : World} {E : Nat → Addr} (h : Snt w E) {f p e i : Nat} (hf : FltAt w f p (E e)) (he : 1 ≤ e ∧ e ≤ 6) (hi : 1 ≤ i ∧ i ≤ 6) (hne : e ≠ i) :
    Calls Tryz.prog 32 #[.iface 50 (.pointer (some ⟨f, 0, none⟩)), .iface 230 (.pointer (some (E i)))] w fun e w' => e = .returned (.bool false) ∧ w' = w := by
  obtain ⟨ca, ta, ha⟩ := h.blk e he.1 he.2
  obtain ⟨cb, tb, hb⟩ := h.blk i hi.1 hi.2
  exact is_fault_other f _ _ _ _ _ _ w (by unfold FltAt at hf; simp [World.cell?, hf]) (h.ne e i he.1 he.2 hi.1 hi.2 hne) ha hb
theorem is_yes {w : World} {E : Nat → Addr} {f p e : Nat} (hf : FltAt w f p (E e)) :
    Calls Tryz.prog 32 #[.iface 50 (.pointer (some ⟨f, 0, none⟩)), .iface 230 (.pointer (some (E e)))] w fun e w' => e = .returned (.bool true) ∧ w' = w :=
  is_fault_same f _ w (by unfold FltAt at hf; simp [World.cell?, hf])

theorem number_nil (w : World) : Calls Tryz.prog 18 #[.nilIface] w fun r w' => r = .returned (.int .i64 0) ∧ w' = w := by
  go_enter Tryz.func18, Tryz.ntmps18
  go_wp2_with fail
  go_ret
  exact ⟨rfl, rfl⟩

theorem number_long (E : Nat → Addr) (w : World) (h : Snt w E) : Calls Tryz.prog 18 #[.iface 230 (.pointer (some (E 1)))] w fun r w' => r = .returned (.int .i64 1) ∧ w' = w := by
  have v1 := h.v1
  clear h
  go_enter Tryz.func18, Tryz.ntmps18
  go_wp2_with fail
  refine (is_same (E 1) w).mono ?_
  rintro e w' ⟨rfl, rfl⟩
  go_wp2_with fail
  go_ret
  exact ⟨rfl, rfl⟩

theorem number_fault (E : Nat → Addr) (e p f : Nat) (w : World) (h : Snt w E) (hf : FltAt w f p (E e)) (he : 2 ≤ e ∧ e ≤ 6) : Calls Tryz.prog 18 #[.iface 50 (.pointer (some ⟨f, 0, none⟩))] w fun r w' => r = .returned (.int .i64 (e : Int)) ∧ w' = w := by
  have v1 := h.v1
  have v3 := h.v3
  have v4 := h.v4
  have v5 := h.v5
  have v6 := h.v6
  have H : Hid (Snt w E ∧ FltAt w f p (E e)) := ⟨h, hf⟩
  clear h hf
  have hc : e = 2 ∨ e = 3 ∨ e = 4 ∨ e = 5 ∨ e = 6 := by omega
  go_enter Tryz.func18, Tryz.ntmps18
  go_wp2_with fail
  refine (is_not H.out.1 (i := 1) H.out.2 (by omega) (by omega) (by omega)).mono ?_
  rintro r w' ⟨rfl, rfl⟩
  rcases hc with rfl | rfl | rfl | rfl | rfl
  · go_wp2_with fail
    refine (is_not H.out.1 (i := 3) H.out.2 (by omega) (by omega) (by omega)).mono ?_
    rintro r w' ⟨rfl, rfl⟩
    go_wp2_with fail
    refine (is_not H.out.1 (i := 4) H.out.2 (by omega) (by omega) (by omega)).mono ?_
    rintro r w' ⟨rfl, rfl⟩
    go_wp2_with fail
    refine (is_not H.out.1 (i := 5) H.out.2 (by omega) (by omega) (by omega)).mono ?_
    rintro r w' ⟨rfl, rfl⟩
    go_wp2_with fail
    refine (is_not H.out.1 (i := 6) H.out.2 (by omega) (by omega) (by omega)).mono ?_
    rintro r w' ⟨rfl, rfl⟩
    go_wp2_with fail
    go_ret
    exact ⟨rfl, rfl⟩
  · go_wp2_with fail
    refine (is_yes H.out.2).mono ?_
    rintro r w' ⟨rfl, rfl⟩
    go_wp2_with fail
    go_ret
    exact ⟨rfl, rfl⟩
  · go_wp2_with fail
    refine (is_not H.out.1 (i := 3) H.out.2 (by omega) (by omega) (by omega)).mono ?_
    rintro r w' ⟨rfl, rfl⟩
    go_wp2_with fail
    refine (is_yes H.out.2).mono ?_
    rintro r w' ⟨rfl, rfl⟩
    go_wp2_with fail
    go_ret
    exact ⟨rfl, rfl⟩
  · go_wp2_with fail
    refine (is_not H.out.1 (i := 3) H.out.2 (by omega) (by omega) (by omega)).mono ?_
    rintro r w' ⟨rfl, rfl⟩
    go_wp2_with fail
    refine (is_not H.out.1 (i := 4) H.out.2 (by omega) (by omega) (by omega)).mono ?_
    rintro r w' ⟨rfl, rfl⟩
    go_wp2_with fail
    refine (is_yes H.out.2).mono ?_
    rintro r w' ⟨rfl, rfl⟩
    go_wp2_with fail
    go_ret
    exact ⟨rfl, rfl⟩
  · go_wp2_with fail
    refine (is_not H.out.1 (i := 3) H.out.2 (by omega) (by omega) (by omega)).mono ?_
    rintro r w' ⟨rfl, rfl⟩
    go_wp2_with fail
    refine (is_not H.out.1 (i := 4) H.out.2 (by omega) (by omega) (by omega)).mono ?_
    rintro r w' ⟨rfl, rfl⟩
    go_wp2_with fail
    refine (is_not H.out.1 (i := 5) H.out.2 (by omega) (by omega) (by omega)).mono ?_
    rintro r w' ⟨rfl, rfl⟩
    go_wp2_with fail
    refine (is_yes H.out.2).mono ?_
    rintro r w' ⟨rfl, rfl⟩
    go_wp2_with fail
    go_ret
    exact ⟨rfl, rfl⟩

theorem told_nil (w : World) : Calls Tryz.prog 11 #[.nilIface] w fun r w' => r = .returned (.tuple #[.int .i64 0, .int .i64 0]) ∧ Below w.heap.size w w' := by
  go_enter Tryz.func11, Tryz.ntmps11
  go_wp2_with fail
  refine (as_nil _ _).mono ?_
  rintro r w' ⟨rfl, rfl⟩
  go_wp2_with fail
  refine (number_nil _).mono ?_
  rintro r w' ⟨rfl, rfl⟩
  go_wp2_with fail
  go_ret2
  exact ⟨rfl, (Below.refl _ _).alloc (Nat.le_refl _) _⟩

theorem told_long (E : Nat → Addr) (w : World) (h : Snt w E) : Calls Tryz.prog 11 #[.iface 230 (.pointer (some (E 1)))] w fun r w' => r = .returned (.tuple #[.int .i64 1, .int .i64 0]) ∧ Below w.heap.size w w' := by
  have H : Hid (Snt w E) := h
  have hb : Hid (Below w.heap.size w (w.alloc (.cells #[.pointer none] 50))) := (Below.refl _ _).alloc (Nat.le_refl _) _
  clear h
  go_enter Tryz.func11, Tryz.ntmps11
  go_wp2_with fail
  refine (as_miss (E 1) _ _ (H.out.below hb.out).et).mono ?_
  rintro r w' ⟨rfl, rfl⟩
  have hb2 : Hid (Below w.heap.size w ((((w.alloc (.cells #[.pointer none] 50)).alloc (.cells #[.pointer (some ⟨w.heap.size, 0, none⟩)] 52)).alloc (asV (w.alloc (.cells #[.pointer none] 50)))).alloc (asV (w.alloc (.cells #[.pointer none] 50))))) :=
    (((hb.out.alloc (by simp) _).alloc (by simp; omega) _).alloc (by simp; omega) _)
  go_wp2_with fail
  refine (number_long E _ (H.out.below hb2.out)).mono ?_
  rintro r w' ⟨rfl, rfl⟩
  go_wp2_with fail
  go_ret2
  exact ⟨rfl, hb2.out⟩

/-- The world behind errors.As in 'told'. -/
def toldW (w : World) (f : Nat) : World := (((((w.alloc (.cells #[.pointer none] 50)).alloc (.cells #[.pointer (some ⟨w.heap.size, 0, none⟩)] 52)).alloc (asV (w.alloc (.cells #[.pointer none] 50)))).alloc (asV (w.alloc (.cells #[.pointer none] 50)))).alloc (.cells #[.pointer (some ⟨f, 0, none⟩)] 50)).setCell ⟨w.heap.size, 0, none⟩ (.pointer (some ⟨f, 0, none⟩))

theorem toldW_below (w : World) (f : Nat) : Below w.heap.size w (toldW w f) :=
  (((((((Below.refl _ _).alloc (Nat.le_refl _) _).alloc (by simp) _).alloc (by simp; omega) _).alloc (by simp; omega) _).alloc (by simp; omega) _).setCell (p := ⟨w.heap.size, 0, none⟩) (Nat.le_refl _) _)
theorem toldW_cell (w : World) (f : Nat) : (toldW w f).cell? ⟨w.heap.size, 0, none⟩ = some (.pointer (some ⟨f, 0, none⟩)) := by
  have h0 : (w.alloc (.cells #[.pointer none] 50)).heap[w.heap.size]? = some (.cells #[.pointer none] 50) := by
    show (w.heap.push _)[w.heap.size]? = _
    rw [Array.getElem?_push, if_pos rfl]
  have h1 : (((((w.alloc (.cells #[.pointer none] 50)).alloc (.cells #[.pointer (some ⟨w.heap.size, 0, none⟩)] 52)).alloc (asV (w.alloc (.cells #[.pointer none] 50)))).alloc (asV (w.alloc (.cells #[.pointer none] 50)))).alloc (.cells #[.pointer (some ⟨f, 0, none⟩)] 50)).heap[w.heap.size]? = some (.cells #[.pointer none] 50) := by
    rw [Below.heap_alloc _ _ _ (by simp; omega), Below.heap_alloc _ _ _ (by simp; omega), Below.heap_alloc _ _ _ (by simp; omega), Below.heap_alloc _ _ _ (by simp)]
    exact h0
  unfold toldW
  generalize (((((w.alloc (.cells #[.pointer none] 50)).alloc (.cells #[.pointer (some ⟨w.heap.size, 0, none⟩)] 52)).alloc (asV (w.alloc (.cells #[.pointer none] 50)))).alloc (asV (w.alloc (.cells #[.pointer none] 50)))).alloc (.cells #[.pointer (some ⟨f, 0, none⟩)] 50)) = X at h1 ⊢
  simp [World.cell?, World.setCell, Array.getElem?_modify, h1]

theorem told_fault (E : Nat → Addr) (e p f : Nat) (w : World) (h : Snt w E) (hf : FltAt w f p (E e)) (he : 2 ≤ e ∧ e ≤ 6) : Calls Tryz.prog 11 #[.iface 50 (.pointer (some ⟨f, 0, none⟩))] w fun r w' => r = .returned (.tuple #[.int .i64 (e : Int), .int .i64 (p : Int)]) ∧ Below w.heap.size w w' := by
  have hfl : f < w.heap.size := by
    unfold FltAt at hf
    rcases Nat.lt_or_ge f w.heap.size with hb | hb
    · exact hb
    · rw [Array.getElem?_eq_none hb] at hf; cases hf
  have H : Hid (Snt w E) := h
  have hb : Hid (Below w.heap.size w (w.alloc (.cells #[.pointer none] 50))) := (Below.refl _ _).alloc (Nat.le_refl _) _
  have hb2 : Hid (Below w.heap.size w (toldW w f)) := toldW_below w f
  have hb3 : Hid (Below w.heap.size w (toldW w f).drew) := ⟨hb2.out.os, hb2.out.tape, hb2.out.output, hb2.out.size, hb2.out.block⟩
  have hc := toldW_cell w f
  have hF : Hid (FltAt (toldW w f) f p (E e)) := by
    unfold Hid FltAt
    rw [(toldW_below w f).block f hfl]; exact hf
  have hp : (toldW w f).cell? ⟨f, 0, none⟩ = some (.int .i64 (p : Int)) := by
    have := hF.out
    unfold FltAt at this
    simp [World.cell?, this]
  clear h hf
  go_enter Tryz.func11, Tryz.ntmps11
  go_wp2_with fail
  refine (as_hit ⟨f, 0, none⟩ _ (.pointer none) _ (H.out.below hb.out).et (by simp) (by simp)).mono ?_
  rintro r w' ⟨rfl, hw⟩
  have hw' : w' = toldW w f := hw
  subst hw'
  clear hw
  go_wp2_with fail
  go_region_with (go_at_call 18; refine (number_fault E e p f _ ?_ ?_ he).mono ?_; exact H.out.below hb3.out; exact hF.out; rintro r w' ⟨rfl, rfl⟩)
  all_goals (try go_wp2_with fail)
  all_goals (go_ret2; exact ⟨rfl, hb3.out⟩)

end Lg
end Go.Proofs.YtcogbbneodihkaaGreatDoor

/- Which errors kinds make: no program in it. -/
namespace Go.Proofs.YtcogbbneodihkaaGreatDoor
namespace Px

def E4 (c : Lk) : Prop := c.e = 0 ∨ c.e = 4 ∨ c.e = 5 ∨ c.e = 6
theorem noteP_e {c : Lk} (h : E4 c) {e : Nat} (he : e = 4 ∨ e = 5 ∨ e = 6) (p : Nat) : E4 (noteP e p c) := by
  unfold noteP
  split
  · exact Or.inr he
  · exact h
theorem kindP_e (x : Ex) : ∀ c, E4 c → E4 (kindP x c).2 := by
  match x with
  | ⟨op, n, word, pl, own, none, _⟩ =>
    intro c h
    simp only [kindP, leafP]
    split
    · exact h
    · split
      · exact h
      · split
        · exact noteP_e h (by omega) _
        · exact h
  | ⟨op, n, word, pl, own, some l, none⟩ =>
    intro c h
    simp only [kindP, notP]
    split
    · exact kindP_e l c h
    · exact noteP_e (kindP_e l c h) (by omega) _
  | ⟨op, n, word, pl, own, some l, some r⟩ =>
    intro c h
    simp only [kindP, binP]
    split
    · exact kindP_e r _ (kindP_e l c h)
    · exact noteP_e (kindP_e r _ (kindP_e l c h)) (by omega) _
theorem giveP_e {c : Lk} (h : E4 c) (w : ByteArray) (p k : Nat) : E4 (giveP w p k c) := by
  unfold giveP
  split
  · exact h
  · split
    · exact h
    · exact noteP_e h (by omega) _
theorem rootP_e {c : Lk} (h : E4 c) (x : Ex) (k : Nat) : E4 (rootP x k c) := by
  unfold rootP
  split
  · exact kindP_e x c h
  · exact noteP_e (kindP_e x c h) (by omega) _
theorem argP_e {c : Lk} (h : E4 c) (x : Option Ex) : E4 (argP x c) := by
  cases x with
  | none => exact h
  | some x => exact rootP_e h x 105
theorem asP_e {c : Lk} (h : E4 c) (w : ByteArray) (p : Nat) : E4 (asP w p c) := by
  unfold asP
  split
  · exact h
  · exact giveP_e h _ _ _
theorem countP_e {c : Lk} (h : E4 c) (n p a b : Nat) : E4 (countP n p a b c) := by
  unfold countP
  split
  · exact noteP_e h (by omega) _
  · exact h
theorem lookP_e (l : List Sm) : ∀ c, E4 c → E4 (lookP l c) := by
  match l with
  | [] => intro c h; rw [lookP_nil]; exact h
  | ⟨op, word, pl, ex, asw, asPl, undo, n, nPl, one, two⟩ :: rest =>
    intro c h
    rw [lookP_cons]
    refine lookP_e rest _ ?_
    unfold lookX'
    simp only
    split
    · cases ex with
      | none => exact h
      | some e => exact giveP_e (kindP_e e c h) _ _ _
    · split
      · exact countP_e (asP_e (argP_e h _) _ _) _ _ _ _
      · split
        · cases ex with
          | none => exact h
          | some e => exact lookP_e two _ (lookP_e one _ (rootP_e h e 98))
        · split
          · exact lookP_e two _ (lookP_e one _ h)
          · split
            · exact lookP_e one _ (countP_e h _ _ _ _)
            · exact h

theorem read_err {s : ByteArray} {c p : Nat} (hs : s.size ≤ 300) (h : read s = .error (c, p)) : c = 2 ∨ c = 3 := by
  unfold read at h
  rw [if_neg (by omega)] at h
  split at h
  · cases h; exact Or.inl rfl
  · split at h
    · cases h; exact Or.inr rfl
    · cases h

theorem check_ok {s : ByteArray} {l : List Sm} (h : read s = .ok l) : check s = (if (lookP l ⟨[], 0, 0⟩).e = 0 then (0, 0) else ((lookP l ⟨[], 0, 0⟩).e, (lookP l ⟨[], 0, 0⟩).pl)) := by
  unfold check
  rw [h]
  simp only
  rw [read_look h]
theorem check_err {s : ByteArray} {r : Nat × Nat} (h : read s = .error r) : check s = r := by
  unfold check
  rw [h]

end Px
end Go.Proofs.YtcogbbneodihkaaGreatDoor

namespace Go.Proofs.YtcogbbneodihkaaGreatDoor
open Go.RowKit
namespace Lg

/-- All that the program's variables hold where a call begins. -/
structure Gw (w : World) (E : Nat → Addr) : Prop where
  s : Snt w E
  ops : ∀ j (hj : j < 28), w.cell? ⟨8, j, none⟩ = some (opsC[j]'hj)
  lo : 14 ≤ w.heap.size

theorem Gw.below {w w' : World} {E : Nat → Addr} (h : Gw w E) (k : Below w.heap.size w w') : Gw w' E :=
  ⟨h.s.below k, fun j hj => by rw [World.cell?_of_block (w := w) (k.block _ (by show 8 < w.heap.size; have := h.lo; omega))]; exact h.ops j hj, Nat.le_trans h.lo k.size⟩
theorem Gw.gl {w : World} {E : Nat → Addr} (h : Gw w E) : Gl w (w.heap.size + 2) (E 2) (E 3) := ⟨h.s.v2, h.s.v3, h.ops, by have := h.lo; omega⟩
theorem Gw.gc {w : World} {E : Nat → Addr} (h : Gw w E) : Gc w w.heap.size E := ⟨h.s.v4, h.s.v5, h.s.v6, h.ops, h.lo⟩

/-- What lang.Read hands back. -/
def ReadPost (s : ByteArray) (E : Nat → Addr) (w : World) (e : Ending) (w' : World) : Prop :=
  Below w.heap.size w w' ∧ ∃ v er, e = .returned (.tuple #[v, er]) ∧
    ((Px.check s = (0, 0) ∧ er = .nilIface ∧ ∃ l vs, Px.read s = .ok l ∧ SlL w' v vs (· < w'.heap.size) ∧ LsAt w' l (· < w'.heap.size) vs) ∨
     (Px.check s = (1, 0) ∧ er = .iface 230 (.pointer (some (E 1)))) ∨
     (∃ c p f, 2 ≤ c ∧ c ≤ 6 ∧ Px.check s = (c, p) ∧ er = .iface 50 (.pointer (some ⟨f, 0, none⟩)) ∧ FltAt w' f p (E c)))

set_option maxRecDepth 100000 in
theorem read_any (E : Nat → Addr) (hblk : ∀ l, Px.WfS l → ∀ c m B, BlockOk c m B E l) (s : ByteArray) (w : World) (hs : s.size ≤ maxLen) (g : Gw w E) :
    Calls Tryz.prog 10 #[.string s] w (ReadPost s E w) := by
  unfold maxLen at hs
  have v1 := g.s.v1
  have G0 : Hid (Gw w E) := g
  have HB : Hid (∀ l, Px.WfS l → ∀ c m B, BlockOk c m B E l) := hblk
  clear g hblk
  by_cases h300 : 300 < s.size
  · have t1 : (300 : Int) < s.size := by omega
    have hck : Hid (Px.check s = (1, 0)) := Px.check_err (by unfold Px.read; rw [if_pos h300])
    go_enter Tryz.func10, Tryz.ntmps10
    go_wp2_with fail
    go_region
    all_goals
      go_wp2_with fail
      go_ret2
      exact ⟨below_drew (Below.refl _ _), _, _, rfl, Or.inr (Or.inl ⟨hck.out, rfl⟩)⟩
  · have t1 : ¬ (300 : Int) < s.size := by omega
    go_enter Tryz.func10, Tryz.ntmps10
    go_wp2_with fail
    refine (parse_any s (E 2) (E 3) w (by omega) G0.out.lo G0.out.gl).mono ?_
    rintro e w1 ⟨hb, v, er, rfl, hp⟩
    cases hr : Px.read s with
    | error r =>
      obtain ⟨c, p⟩ := r
      rw [hr] at hp
      obtain ⟨rfl, f, rfl, hf⟩ := hp
      have hc := Px.read_err (by omega) hr
      have hF : Hid (FltAt w1 f p (E c)) := by
        rcases hc with rfl | rfl
        · exact hf
        · exact hf
      have HH : Hid (Below w.heap.size w w1 ∧ Px.check s = (c, p)) := ⟨hb, Px.check_err hr⟩
      clear hb hf
      unfold Ref.ptr
      go_wp2_with fail
      go_ret2
      exact ⟨HH.out.1, _, _, rfl, Or.inr (Or.inr ⟨c, p, f, by omega, by omega, HH.out.2, rfl, hF.out⟩)⟩
    | ok l =>
      rw [hr] at hp
      obtain ⟨rfl, vs, hs1, hl1⟩ := hp
      obtain ⟨a, n, cp, rfl⟩ := hs1.form
      have hs2 : SlL w1 (.slice a n cp) vs (· < w1.heap.size) := hs1.mono fun k hk => hk.2
      have hl2 : LsAt w1 l (· < w1.heap.size) vs := hl1.mono fun k hk => hk.2
      have HC : Hid (_) := checkBlock_any E l w1 (fun c m => HB.out l (Px.read_makes hr).1 c m _) (.slice a n cp) vs hs2 hl2 (G0.out.below hb).gc
      have HH : Hid (Below w.heap.size w w1 ∧ SlL w1 (.slice a n cp) vs (· < w1.heap.size) ∧ LsAt w1 l (· < w1.heap.size) vs ∧ Px.read s = .ok l) := ⟨hb, hs2, hl2, hr⟩
      have hck : Hid (_) := Px.check_ok hr
      have hE : Hid (Px.E4 (Px.lookP l ⟨[], 0, 0⟩)) := Px.lookP_e l _ (Or.inl rfl)
      clear hb hs1 hl1 hs2 hl2 hr
      generalize Px.lookP l ⟨[], 0, 0⟩ = K at *
      go_wp2_with fail
      refine (Calls.mono HC.out ?_)
      rintro e w2 ⟨hb2, er, rfl, hK⟩
      have hb3 : Hid (Below w.heap.size w w2) := HH.out.1.trans (hb2.mono HH.out.1.size)
      have hS : Hid (SlL w2 (.slice a n cp) vs (· < w2.heap.size) ∧ LsAt w2 l (· < w2.heap.size) vs) := ⟨(HH.out.2.1.below hb2).mono fun k hk => Nat.lt_of_lt_of_le hk hb2.size, (HH.out.2.2.1.below hb2).mono fun k hk => Nat.lt_of_lt_of_le hk hb2.size⟩
      clear hb2
      rcases hK with ⟨hK, rfl⟩ | ⟨hK, f, rfl, hF⟩
      · go_wp2_with fail
        go_ret2
        refine ⟨hb3.out, _, _, rfl, Or.inl ⟨?_, rfl, l, vs, HH.out.2.2.2, hS.out.1, hS.out.2⟩⟩
        rw [hck.out, if_pos hK]
      · have HF : Hid (FltAt w2 f K.pl (E K.e)) := hF
        clear hF
        go_wp2_with fail
        go_ret2
        refine ⟨hb3.out, _, _, rfl, Or.inr (Or.inr ⟨K.e, K.pl, f, ?_, ?_, ?_, rfl, HF.out⟩)⟩
        · have := hE.out; unfold Px.E4 at this; omega
        · have := hE.out; unfold Px.E4 at this; omega
        · rw [hck.out, if_neg hK]

set_option maxRecDepth 100000 in
theorem check_any (E : Nat → Addr) (hblk : ∀ l, Px.WfS l → ∀ c m B, BlockOk c m B E l) (s : ByteArray) (w : World) (hs : s.size ≤ maxLen) (g : Gw w E) :
    Calls Tryz.prog 5 #[.string s] w fun e w' => e = .returned (.tuple #[.int .i64 ((Px.check s).1 : Int), .int .i64 ((Px.check s).2 : Int)]) ∧ Below w.heap.size w w' := by
  have G0 : Hid (Gw w E) := g
  have HR : Hid (Calls Tryz.prog 10 #[.string s] w (ReadPost s E w)) := read_any E hblk s w hs g
  clear g hblk hs
  go_enter Tryz.func5, Tryz.ntmps5
  go_wp2_with fail
  refine HR.out.mono ?_
  rintro e w1 ⟨hb, v, er, rfl, hc⟩
  have HB : Hid (Below w.heap.size w w1) := hb
  have G1 : Hid (Gw w1 E) := G0.out.below hb
  clear hb
  rcases hc with ⟨h1, rfl, _⟩ | ⟨h1, rfl⟩ | ⟨c, p, f, h2, h3, h1, rfl, hF⟩
  · go_wp2_with fail
    refine (told_nil _).mono ?_
    rintro e w2 ⟨rfl, b2⟩
    have B2 : Hid (Below w.heap.size w w2) := HB.out.trans (b2.mono HB.out.size)
    clear b2
    go_wp2_with fail
    go_ret2
    exact ⟨by rw [h1]; rfl, B2.out⟩
  · go_wp2_with fail
    refine (told_long E _ G1.out.s).mono ?_
    rintro e w2 ⟨rfl, b2⟩
    have B2 : Hid (Below w.heap.size w w2) := HB.out.trans (b2.mono HB.out.size)
    clear b2
    go_wp2_with fail
    go_ret2
    exact ⟨by rw [h1]; rfl, B2.out⟩
  · have HF : Hid (FltAt w1 f p (E c)) := hF
    clear hF
    go_wp2_with fail
    refine (told_fault E c p f _ G1.out.s HF.out ⟨h2, h3⟩).mono ?_
    rintro e w2 ⟨rfl, b2⟩
    have B2 : Hid (Below w.heap.size w w2) := HB.out.trans (b2.mono HB.out.size)
    clear b2
    go_wp2_with fail
    go_ret2
    exact ⟨by rw [h1]; rfl, B2.out⟩

end Lg
end Go.Proofs.YtcogbbneodihkaaGreatDoor

namespace Go.Proofs.YtcogbbneodihkaaGreatDoor
open Go.ChangeShapes Go.WideShapes Go.RowKit
namespace Law

theorem rtRow : (Tryz.prog.cutTypes.find? (·.1 == "internal/reflectlite.rtype")).map (·.2) = some 116 := by kernel_rfl
theorem oneRow : ((List.range 288).filter fun t => Tryz.prog.rowNamed t [101, 114, 114, 111, 114]) = [36] := by kernel_rfl
theorem sizeT : Tryz.prog.types.size = 288 := by kernel_rfl
theorem gEt : Tryz.prog.globalNamed "errors.errorType" = some 2 := by kernel_rfl
theorem gOps : Tryz.prog.globalNamed "errand/lang.ops" = some 8 := by kernel_rfl
theorem g1 : Tryz.prog.globalNamed "errand/lang.ErrLong" = some 0 := by kernel_rfl
theorem g2 : Tryz.prog.globalNamed "errand/lang.ErrText" = some 1 := by kernel_rfl
theorem g3 : Tryz.prog.globalNamed "errand/lang.ErrNest" = some 3 := by kernel_rfl
theorem g4 : Tryz.prog.globalNamed "errand/lang.ErrCount" = some 4 := by kernel_rfl
theorem g5 : Tryz.prog.globalNamed "errand/lang.ErrName" = some 5 := by kernel_rfl
theorem g6 : Tryz.prog.globalNamed "errand/lang.ErrType" = some 6 := by kernel_rfl
theorem y1 : (Tryz.prog.globals[0]?).map (·.type) = some 36 := by kernel_rfl
theorem y2 : (Tryz.prog.globals[1]?).map (·.type) = some 36 := by kernel_rfl
theorem y3 : (Tryz.prog.globals[3]?).map (·.type) = some 36 := by kernel_rfl
theorem y4 : (Tryz.prog.globals[4]?).map (·.type) = some 36 := by kernel_rfl
theorem y5 : (Tryz.prog.globals[5]?).map (·.type) = some 36 := by kernel_rfl
theorem y6 : (Tryz.prog.globals[6]?).map (·.type) = some 36 := by kernel_rfl
theorem yOps : (Tryz.prog.globals[8]?).map (·.type) = some 207 := by kernel_rfl
theorem cStr : Tryz.prog.cellsOf 9 = 1 := by kernel_rfl
theorem cErr : Tryz.prog.cellsOf 232 = 1 := by kernel_rfl
theorem cInt : Tryz.prog.cellsOf 3 = 1 := by kernel_rfl
theorem cKind : Tryz.prog.cellsOf 205 = 1 := by kernel_rfl
theorem cOp : Tryz.prog.cellsOf 206 = 4 := by kernel_rfl
theorem cOps : Tryz.prog.cellsOf 207 = 28 := by kernel_rfl
theorem star : "*" ++ "errors.errorString" = "*errors.errorString" := by decide
/-- One type bears the name. -/
theorem rowE (u : TypeId) (h : Tryz.prog.typeName? 3 u = some "*errors.errorString") : u = 230 :=
  typeName_ptr_named (nm := "errors.errorString") (by rw [star]; kernel_rfl) (by kernel_rfl) (by decide) u (by rw [star]; exact h)

/-- One operator's row of the table. -/
theorem op_cells {W : World} {fuel : Nat} {c : List Value} {b : List UInt8} {x y z : Int} {p : List MemPlace}
    (h : DataW.trod (H := Unit) (fun _ => ()) Tryz.prog W 0 (fun _ => true) false fuel 206 c = some (.agg [.lit (.string b), .lit (.int .i64 x), .lit (.int .i64 y), .lit (.int .i64 z)], p)) :
    c = [.string ⟨b.toArray⟩, .int .i64 x, .int .i64 y, .int .i64 z] := by
  obtain ⟨e0, e1, e2, e3, n, hx, hl, t0, t1, t2, t3⟩ := Joins.trod_struct4 Tryz.underlying206 h
  simp only [cStr, cInt, cKind, cOp] at hl t0 t1 t2 t3
  obtain ⟨s, c0, rfl, _⟩ := DataW.trod_string Tryz.underlying9 t0
  obtain ⟨z1, c1, rfl, _⟩ := DataW.trod_int Tryz.underlying3 t1
  obtain ⟨z2, c2, rfl, _⟩ := DataW.trod_int Tryz.underlying205 t2
  obtain ⟨z3, c3, rfl, _⟩ := DataW.trod_int Tryz.underlying205 t3
  match c, hl, c0, c1, c2, c3 with
  | [a0, a1, a2, a3], _, c0, c1, c2, c3 =>
    simp at c0 c1 c2 c3 hx
    obtain ⟨⟨h0, h1, h2, h3⟩, _⟩ := hx
    subst c0 c1 c2 c3 h0 h1 h2 h3
    rfl

theorem handle_of {W : World} (h : handlesMet Tryz.prog [("errors.errorType", Rows.laid_errors_errorType)] W) : W.cell? ⟨2, 0, none⟩ = some (.iface 116 (.agg #[.pointer (some ⟨14, 36, none⟩)])) := by
  obtain ⟨name, u, ty, e1, e2, e3, e4, e5⟩ := h _ (List.mem_singleton.2 rfl)
  have en : name = [101, 114, 114, 111, 114] := (Option.some.inj e1).symm
  subst en
  obtain rfl := Option.some.inj (rtRow.symm.trans e2)
  have hm : ty ∈ (List.range 288).filter fun t => Tryz.prog.rowNamed t [101, 114, 114, 111, 114] := List.mem_filter.2 ⟨List.mem_range.2 (by rw [← sizeT]; exact e3), e4⟩
  rw [oneRow] at hm
  obtain rfl := List.mem_singleton.1 hm
  have hh : typeHandle Tryz.prog 36 = .pointer (some ⟨14, 36, none⟩) := by kernel_rfl
  rw [hh] at e5
  simpa using World.var?_cell gEt e5 0

/-- The table of operators. -/
theorem ops_at {W : World} (h : laidMet Tryz.prog [("errand/lang.ops", Rows.laid_errand_lang_ops)] W) (j : Nat) : W.cell? ⟨8, j, none⟩ = Lg.opsC[j]? := by
  obtain ⟨ps, ⟨g, t, cs, fuel, p, q, hg, ht, hv, hd, _, _⟩, _, _⟩ := h
  obtain rfl := Option.some.inj (gOps.symm.trans hg)
  obtain rfl := Option.some.inj (yOps.symm.trans ht)
  obtain ⟨xs, m, _, hx, hl, hn, he⟩ := DataW.trod_array Tryz.underlying207 hd
  simp only [cOp, cOps] at hl he
  have hxs : xs.map (·.1) = [.agg [.lit (.string [43]), .lit (.int .i64 1), .lit (.int .i64 1), .lit (.int .i64 1)], .agg [.lit (.string [45]), .lit (.int .i64 1), .lit (.int .i64 1), .lit (.int .i64 1)], .agg [.lit (.string [42]), .lit (.int .i64 2), .lit (.int .i64 1), .lit (.int .i64 1)], .agg [.lit (.string [47]), .lit (.int .i64 2), .lit (.int .i64 1), .lit (.int .i64 1)], .agg [.lit (.string [60]), .lit (.int .i64 0), .lit (.int .i64 1), .lit (.int .i64 2)], .agg [.lit (.string [61]), .lit (.int .i64 0), .lit (.int .i64 0), .lit (.int .i64 2)], .agg [.lit (.string [35]), .lit (.int .i64 0), .lit (.int .i64 0), .lit (.int .i64 2)]] := by
    have := congrArg Prod.fst hx
    simpa [Rows.laid_errand_lang_ops] using this.symm
  match xs, hn, hxs, he with
  | [x0, x1, x2, x3, x4, x5, x6], _, hxs, he =>
    obtain ⟨d0, p0⟩ := x0
    obtain ⟨d1, p1⟩ := x1
    obtain ⟨d2, p2⟩ := x2
    obtain ⟨d3, p3⟩ := x3
    obtain ⟨d4, p4⟩ := x4
    obtain ⟨d5, p5⟩ := x5
    obtain ⟨d6, p6⟩ := x6
    simp only [List.map_cons, List.map_nil, List.cons.injEq, and_true] at hxs
    obtain ⟨rfl, rfl, rfl, rfl, rfl, rfl, rfl⟩ := hxs
    have q0 : (cs.toList.drop 0).take 4 = _ := op_cells (he 0 (by decide))
    have q1 : (cs.toList.drop 4).take 4 = _ := op_cells (he 1 (by decide))
    have q2 : (cs.toList.drop 8).take 4 = _ := op_cells (he 2 (by decide))
    have q3 : (cs.toList.drop 12).take 4 = _ := op_cells (he 3 (by decide))
    have q4 : (cs.toList.drop 16).take 4 = _ := op_cells (he 4 (by decide))
    have q5 : (cs.toList.drop 20).take 4 = _ := op_cells (he 5 (by decide))
    have q6 : (cs.toList.drop 24).take 4 = _ := op_cells (he 6 (by decide))
    have e : ∀ n, cs.toList.drop n = (cs.toList.drop n).take 4 ++ cs.toList.drop (n + 4) := fun n => by
      have := List.take_append_drop 4 (cs.toList.drop n)
      rw [List.drop_drop] at this
      exact this.symm
    have hall : cs.toList = Lg.opsC := by
      have e0 := e 0
      rw [e 4, e 8, e 12, e 16, e 20, e 24, q0, q1, q2, q3, q4, q5, q6, List.drop_of_length_le (by omega : cs.toList.length ≤ 24 + 4), List.drop_zero] at e0
      rw [e0]
      rfl
    rw [World.var?_cell gOps hv j, ← hall]
    simp

theorem ops_of {W : World} (h : laidMet Tryz.prog [("errand/lang.ops", Rows.laid_errand_lang_ops)] W) : ∀ j (hj : j < 28), W.cell? ⟨8, j, none⟩ = some (Lg.opsC[j]'hj) := fun j hj => by
  rw [ops_at h j]
  exact List.getElem?_eq_getElem hj

end Law
end Go.Proofs.YtcogbbneodihkaaGreatDoor

namespace Go.Proofs.YtcogbbneodihkaaGreatDoor
open Go.ChangeShapes Go.WideShapes Go.RowKit
namespace Law

def six {α : Type} (a1 a2 a3 a4 a5 a6 : α) : Nat → α
  | 1 => a1 | 2 => a2 | 3 => a3 | 4 => a4 | 5 => a5 | _ => a6

def text : Nat → List UInt8 := six [116, 104, 101, 32, 116, 101, 120, 116, 32, 105, 115, 32, 116, 111, 111, 32, 108, 111, 110, 103] [116, 104, 101, 32, 116, 101, 120, 116, 32, 105, 115, 32, 110, 111, 32, 101, 114, 114, 97, 110, 100] [98, 108, 111, 99, 107, 115, 32, 97, 110, 100, 32, 98, 114, 97, 99, 107, 101, 116, 115, 32, 115, 116, 97, 110, 100, 32, 116, 111, 111, 32, 100, 101, 101, 112] [97, 32, 110, 117, 109, 98, 101, 114, 32, 116, 104, 97, 116, 32, 109, 97, 121, 32, 110, 111, 116, 32, 115, 116, 97, 110, 100, 32, 116, 104, 101, 114, 101] [97, 32, 119, 111, 114, 100, 32, 116, 104, 97, 116, 32, 105, 115, 32, 103, 105, 118, 101, 110, 32, 110, 111, 119, 104, 101, 114, 101, 32, 97, 104, 101, 97, 100] [110, 111, 116, 32, 111, 102, 32, 116, 104, 101, 32, 107, 105, 110, 100, 32, 116, 104, 97, 116, 32, 105, 116, 32, 109, 117, 115, 116, 32, 98, 101]

theorem text_ne {i j : Nat} (h1 : 1 ≤ i) (h2 : i ≤ 6) (h3 : 1 ≤ j) (h4 : j ≤ 6) (h : i ≠ j) : text i ≠ text j := by
  have hi : i = 1 ∨ i = 2 ∨ i = 3 ∨ i = 4 ∨ i = 5 ∨ i = 6 := by omega
  have hj : j = 1 ∨ j = 2 ∨ j = 3 ∨ j = 4 ∨ j = 5 ∨ j = 6 := by omega
  rcases hi with rfl | rfl | rfl | rfl | rfl | rfl <;> rcases hj with rfl | rfl | rfl | rfl | rfl | rfl <;> first | exact absurd rfl h | decide

set_option maxRecDepth 100000 in
theorem gw_of_list {W : World} (hlo : 14 ≤ W.heap.size)
    (h : laidMet Tryz.prog [("errand/lang.ErrLong", Rows.laid_errand_lang_ErrLong), ("errand/lang.ErrText", Rows.laid_errand_lang_ErrText), ("errand/lang.ErrNest", Rows.laid_errand_lang_ErrNest), ("errand/lang.ErrCount", Rows.laid_errand_lang_ErrCount), ("errand/lang.ErrName", Rows.laid_errand_lang_ErrName), ("errand/lang.ErrType", Rows.laid_errand_lang_ErrType), ("errand/lang.ops", Rows.laid_errand_lang_ops)] W)
    (hh : handlesMet Tryz.prog [("errors.errorType", Rows.laid_errors_errorType)] W) : ∃ E, Lg.Gw W E := by
  obtain ⟨a1, a2, s1, s2, b1, b2, t1, t2, v1, v2, c1, e1, _, c2, e2, _, _, k1, k2⟩ := laid_sentinels2 h g1 y1 g2 y2 Tryz.underlying36 rowE Tryz.underlying230 Tryz.underlying232 rfl rfl Tryz.underlying9 cErr cStr
  obtain ⟨a3, a4, s3, s4, b3, b4, t3, t4, v3, v4, c3, e3, _, c4, e4, _, _, k3, k4⟩ := laid_sentinels2 h.tail.tail g3 y3 g4 y4 Tryz.underlying36 rowE Tryz.underlying230 Tryz.underlying232 rfl rfl Tryz.underlying9 cErr cStr
  obtain ⟨a5, a6, s5, s6, b5, b6, t5, t6, v5, v6, c5, e5, _, c6, e6, _, _, k5, k6⟩ := laid_sentinels2 h.tail.tail.tail.tail g5 y5 g6 y6 Tryz.underlying36 rowE Tryz.underlying230 Tryz.underlying232 rfl rfl Tryz.underlying9 cErr cStr
  have hops := ops_of h.tail.tail.tail.tail.tail.tail
  have het := handle_of hh
  have hT : ∀ i, 1 ≤ i → i ≤ 6 → ∃ s : ByteArray, W.cell? (six a1 a2 a3 a4 a5 a6 i) = some (.string s) ∧ s.data.toList = text i := fun i h1 h2 => by
    have hi : i = 1 ∨ i = 2 ∨ i = 3 ∨ i = 4 ∨ i = 5 ∨ i = 6 := by omega
    rcases hi with rfl | rfl | rfl | rfl | rfl | rfl
    · exact ⟨s1, c1, e1⟩
    · exact ⟨s2, c2, e2⟩
    · exact ⟨s3, c3, e3⟩
    · exact ⟨s4, c4, e4⟩
    · exact ⟨s5, c5, e5⟩
    · exact ⟨s6, c6, e6⟩
  refine ⟨six a1 a2 a3 a4 a5 a6, ⟨?_, ?_, ?_, ?_, ?_, ?_, ?_, ?_, het⟩, hops, hlo⟩
  · simpa [six] using World.var?_cell g1 v1 0
  · simpa [six] using World.var?_cell g2 v2 0
  · simpa [six] using World.var?_cell g3 v3 0
  · simpa [six] using World.var?_cell g4 v4 0
  · simpa [six] using World.var?_cell g5 v5 0
  · simpa [six] using World.var?_cell g6 v6 0
  · intro i h1 h2
    have hi : i = 1 ∨ i = 2 ∨ i = 3 ∨ i = 4 ∨ i = 5 ∨ i = 6 := by omega
    rcases hi with rfl | rfl | rfl | rfl | rfl | rfl
    · exact ⟨b1, t1, k1⟩
    · exact ⟨b2, t2, k2⟩
    · exact ⟨b3, t3, k3⟩
    · exact ⟨b4, t4, k4⟩
    · exact ⟨b5, t5, k5⟩
    · exact ⟨b6, t6, k6⟩
  · intro i j h1 h2 h3 h4 hne he
    obtain ⟨s, p1, p2⟩ := hT i h1 h2
    obtain ⟨s', q1, q2⟩ := hT j h3 h4
    rw [he, q1] at p1
    cases p1
    exact text_ne h1 h2 h3 h4 hne (p2.symm.trans q2)

theorem gTab : Tryz.prog.globalNamed "math/bits.deBruijn64tab" = some 13 := by kernel_rfl

set_option maxRecDepth 100000 in
theorem gw_of {W : World} (h : laidMetH Tryz.prog Rows.checksRow.laid W) : ∃ E, Lg.Gw W E := by
  have h' : laidMet Tryz.prog [("math/bits.deBruijn32tab", Rows.laid_math_bits_deBruijn32tab), ("math/bits.deBruijn64tab", Rows.laid_math_bits_deBruijn64tab), ("internal/strconv.uint64pow10", Rows.laid_internal_strconv_uint64pow10), ("strconv.ErrRange", Rows.laid_strconv_ErrRange), ("strconv.ErrSyntax", Rows.laid_strconv_ErrSyntax), ("errand/lang.ErrLong", Rows.laid_errand_lang_ErrLong), ("errand/lang.ErrText", Rows.laid_errand_lang_ErrText), ("errand/lang.ErrNest", Rows.laid_errand_lang_ErrNest), ("errand/lang.ErrCount", Rows.laid_errand_lang_ErrCount), ("errand/lang.ErrName", Rows.laid_errand_lang_ErrName), ("errand/lang.ErrType", Rows.laid_errand_lang_ErrType), ("errand/lang.ops", Rows.laid_errand_lang_ops)] W ∧ handlesMet Tryz.prog [("errors.errorType", Rows.laid_errors_errorType)] W := h
  have hlo : 14 ≤ W.heap.size := by
    obtain ⟨ps, ⟨g, t, cs, fuel, p, q, hg, ht, hv, _⟩, _, _⟩ := h'.1.tail
    obtain rfl := Option.some.inj (gTab.symm.trans hg)
    have : 13 < W.heap.size := by
      rcases Nat.lt_or_ge 13 W.heap.size with hb | hb
      · exact hb
      · unfold World.var? at hv
        rw [hg] at hv
        simp [Array.getElem?_eq_none hb] at hv
    omega
  exact gw_of_list hlo h'.1.tail.tail.tail.tail.tail h'.2

end Law
end Go.Proofs.YtcogbbneodihkaaGreatDoor

namespace Go.Proofs.YtcogbbneodihkaaGreatDoor
open Go.RowKit
namespace Lg

def pairW (w : World) (i tk mk : Nat) : World := w.alloc (.cells #[.string (tx i), .int .i64 (lv i), .int .i64 (kk tk : Int), .int .i64 (kk mk : Int)] 206)

theorem Ck.alloc {w : World} {c m B : Nat} {E : Nat → Addr} {K : Px.Lk} (h : Ck w c m B E K) (o : Obj) : Ck (w.alloc o) c m B E K := by
  have hf : Fr c m w (w.alloc o) := (Fr.refl c m w).alloc o
  refine ⟨h.g.below (h.fr hf), h.bc, ?_⟩
  obtain ⟨pf, h1, h2, h3, ⟨es, ck, h4, h4'⟩, h5⟩ := h.ex
  refine ⟨pf, by rw [Below.heap_alloc _ _ _ (lt_of_block h1)]; exact h1, h2, h3, ⟨es, ck, by rw [Below.heap_alloc _ _ _ (lt_of_block h4)]; exact h4, h4'⟩, ?_⟩
  rcases h5 with h5 | ⟨h5, f, h6, h7, h8, h9, h10⟩
  · exact Or.inl h5
  · refine Or.inr ⟨h5, f, h6, h7, h8, h9, ?_⟩
    unfold FltAt at h10 ⊢
    rw [Below.heap_alloc _ _ _ (lt_of_block h10)]; exact h10

def Op7 (op : Nat) : Prop := op = 42 ∨ op = 47 ∨ op = 43 ∨ op = 45 ∨ op = 60 ∨ op = 61 ∨ op = 35

theorem ops_cells {w : World} {B : Nat} {E : Nat → Addr} (g : Gc w B E) {op : Nat} (hop : Op7 op) :
    w.cell? ⟨8, opIx op * 4, none⟩ = some (.string (tx (opIx op))) ∧ w.cell? ⟨8, opIx op * 4 + 1, none⟩ = some (.int .i64 (lv (opIx op))) ∧
    w.cell? ⟨8, opIx op * 4 + 2, none⟩ = some (.int .i64 (kk (Px.takesP op) : Int)) ∧ w.cell? ⟨8, opIx op * 4 + 3, none⟩ = some (.int .i64 (kk (Px.makesP op) : Int)) := by
  rcases hop with rfl | rfl | rfl | rfl | rfl | rfl | rfl
  · exact ⟨g.ops 8 (by decide), g.ops 9 (by decide), g.ops 10 (by decide), g.ops 11 (by decide)⟩
  · exact ⟨g.ops 12 (by decide), g.ops 13 (by decide), g.ops 14 (by decide), g.ops 15 (by decide)⟩
  · exact ⟨g.ops 0 (by decide), g.ops 1 (by decide), g.ops 2 (by decide), g.ops 3 (by decide)⟩
  · exact ⟨g.ops 4 (by decide), g.ops 5 (by decide), g.ops 6 (by decide), g.ops 7 (by decide)⟩
  · exact ⟨g.ops 16 (by decide), g.ops 17 (by decide), g.ops 18 (by decide), g.ops 19 (by decide)⟩
  · exact ⟨g.ops 20 (by decide), g.ops 21 (by decide), g.ops 22 (by decide), g.ops 23 (by decide)⟩
  · exact ⟨g.ops 24 (by decide), g.ops 25 (by decide), g.ops 26 (by decide), g.ops 27 (by decide)⟩
theorem takes_k3 {op : Nat} : Px.K3 (Px.takesP op) := by unfold Px.takesP; split; exact Or.inr (Or.inr rfl); exact Or.inl rfl
theorem opIx_lt (op : Nat) : opIx op < 7 := by
  unfold opIx
  repeat' split
  all_goals omega

end Lg
end Go.Proofs.YtcogbbneodihkaaGreatDoor
