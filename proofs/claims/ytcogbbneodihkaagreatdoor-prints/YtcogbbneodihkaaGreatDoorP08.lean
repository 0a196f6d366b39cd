import Derived.Test.YtcogbbneodihkaaGreatDoorP07
import Derived.Test.YtcogbbneodihkaaGreatDoorProg
import Derived.WalkKit
import Derived.LaidEql
import Derived.Stop.Asserts
import Derived.RowKitTokens
namespace Go.Proofs.YtcogbbneodihkaaGreatDoor
open Go.RowKit
namespace Lg

/-- A variable, given. -/
theorem Ck.put {w : World} {c B m : Nat} {E : Nat → Addr} {K : Px.Lk} {pf : Option Addr} {o : Obj} {vs : List (ByteArray × Nat)} (g : Gc w B E) (bc : B ≤ c) (h1 : w.heap[c]? = some (.cells #[.map (some m), .pointer pf] 79)) (h2 : B ≤ m) (h3 : m ≠ c) (h4 : KMap w m K.vars)
    (h5 : (K.e = 0 ∧ pf = none) ∨ (K.e ≠ 0 ∧ ∃ f, pf = some ⟨f, 0, none⟩ ∧ B ≤ f ∧ f ≠ c ∧ f ≠ m ∧ FltAt w f K.pl (E K.e))) (hu : KMap { w with heap := w.heap.setIfInBounds m o } m vs) :
    Ck { w with heap := w.heap.setIfInBounds m o } c m B E ⟨vs, K.e, K.pl⟩ ∧ Fr c m w { w with heap := w.heap.setIfInBounds m o } := by
  obtain ⟨es, clock, hb, _⟩ := h4
  have hs := (MapKept.heap_set (o' := o) hb).2
  have hB : Below B w { w with heap := w.heap.setIfInBounds m o } := ⟨rfl, rfl, rfl, by simp, fun k hk => hs k (by omega)⟩
  refine ⟨⟨g.below hB, bc, pf, ?_, h2, h3, hu, ?_⟩, ⟨rfl, rfl, rfl, by simp, fun k _ _ hk => hs k hk⟩⟩
  · show (w.heap.setIfInBounds m o)[c]? = _
    rw [hs c (Ne.symm h3)]; exact h1
  · rcases h5 with h5 | ⟨h5, f, h6, h7, h8, h9, h10⟩
    · exact Or.inl h5
    · refine Or.inr ⟨h5, f, h6, h7, h8, h9, ?_⟩
      unfold FltAt at h10 ⊢
      show (w.heap.setIfInBounds m o)[f]? = _
      rw [hs f h9]; exact h10

set_option maxRecDepth 100000 in
theorem give_any (c m B q p k : Nat) (x : ByteArray) (E : Nat → Addr) (K : Px.Lk) (w : World) (h : Ck w c m B E K) (hv : VarAt w x p (· < B) q) (hk : Px.K3 k) (hV : Px.V3 K) :
    Calls Tryz.prog 165 #[.pointer (some ⟨c, 0, none⟩), .pointer (some ⟨q, 0, none⟩), .int .i64 (kk k : Int)] w fun r w' => r = .returned (.tuple #[]) ∧ Ck w' c m B E (Px.giveP x p k K) ∧ Fr c m w w' := by
  obtain ⟨pf, h1, h2, h3, h4, h5⟩ := h.ex
  obtain ⟨c0, c1, fr⟩ := cells2 h1
  obtain ⟨d0, d1, fd⟩ := cells2 hv.2
  have g6 := h.g.y
  have l1 := Ck.look x h4.drew
  have HH : Hid (Ck w c m B E K) := h
  cases hf : Px.findV K.vars x with
  | none =>
    rw [foundV_none hf, hf] at l1
    obtain ⟨o, u1, u2⟩ := run_update (P := Tryz.prog) (w := w.drew.drew) (h4.drew.drew) kindMap Tryz.underlying9 x hf k
    have hd := HH.out.drew.drew
    have PUT : Hid (_) := Ck.put hd.g hd.bc h1 h2 h3 h4.drew.drew h5 u2
    have hgv : Hid (Px.giveP x p k K = ⟨K.vars ++ [(x, k)], K.e, K.pl⟩) := by unfold Hid Px.giveP; rw [hf]
    clear h h1 h2 h3 h4 h5 hv u2 hd
    go_enter Tryz.func165, Tryz.ntmps165
    go_wp2_with fail
    go_region
    all_goals
      go_wp2_with fail
      go_region
      all_goals
        go_wp2_with fail
        go_end0
        rw [hgv.out]
        exact ⟨rfl, PUT.out.1, (Fr.refl c m w).drew.drew.trans PUT.out.2⟩
  | some i =>
    rw [foundV_some hf, hf] at l1
    have hk2 : Px.K3 (Px.kindAt K.vars i) := by
      obtain ⟨v, hv1, hv2⟩ := Px.kindAt_mem (Px.findV_lt hf)
      rw [hv2]; exact hV v hv1
    clear h h1 h2 h3 h4 h5 hv
    cases hfit : Px.fitsP (Px.kindAt K.vars i) k
    · have hgv : Hid (Px.giveP x p k K = Px.noteP 6 p K) := by unfold Hid Px.giveP; rw [hf]; simp only; rw [if_neg (by simp [hfit])]
      go_enter Tryz.func165, Tryz.ntmps165
      go_wp2_with fail
      go_region
      all_goals
        go_wp2_with fail
        refine (fits_any _ _ hk2 hk _).mono ?_
        rintro r w1 ⟨rfl, rfl⟩
        rw [hfit]
        go_wp2_with fail
        go_region_with (go_at_call 168; refine (note_any c m B E 6 p (by decide) K _ HH.out.drew.drew).mono ?_; rintro r w1 ⟨rfl, h3, h4⟩)
        all_goals
          go_wp2_with fail
          go_end0
          rw [hgv.out]
          exact ⟨rfl, h3, (Fr.refl c m w).drew.drew.trans h4⟩
    · have hgv : Hid (Px.giveP x p k K = K) := by unfold Hid Px.giveP; rw [hf]; simp only; rw [if_pos hfit]
      go_enter Tryz.func165, Tryz.ntmps165
      go_wp2_with fail
      go_region
      all_goals
        go_wp2_with fail
        refine (fits_any _ _ hk2 hk _).mono ?_
        rintro r w1 ⟨rfl, rfl⟩
        rw [hfit]
        go_wp2_with fail
        go_end0
        rw [hgv.out]
        exact ⟨rfl, HH.out.drew, (Fr.refl c m w).drew⟩

end Lg
end Go.Proofs.YtcogbbneodihkaaGreatDoor

namespace Go.Proofs.YtcogbbneodihkaaGreatDoor
open Go.RowKit
namespace Px

theorem noteP_vars (e p : Nat) (c : Lk) : (noteP e p c).vars = c.vars := by unfold noteP; split <;> rfl
theorem kindP_vars (x : Ex) : ∀ c, (kindP x c).2.vars = c.vars := by
  match x with
  | ⟨op, n, word, pl, own, none, _⟩ =>
    intro c
    simp only [kindP, leafP]
    split
    · rfl
    · split
      · rfl
      · split
        · exact noteP_vars _ _ _
        · rfl
  | ⟨op, n, word, pl, own, some l, none⟩ =>
    intro c
    simp only [kindP, notP]
    split
    · exact kindP_vars l c
    · rw [noteP_vars]; exact kindP_vars l c
  | ⟨op, n, word, pl, own, some l, some r⟩ =>
    intro c
    simp only [kindP, binP]
    split
    · rw [kindP_vars r, kindP_vars l]
    · rw [noteP_vars, kindP_vars r, kindP_vars l]
theorem kindP_v3 {x : Ex} {c : Lk} (h : V3 c) : V3 (kindP x c).2 := by unfold V3; rw [kindP_vars]; exact h
theorem kindP_k3 (x : Ex) (c : Lk) (h : V3 c) : K3 (kindP x c).1 := by
  match x with
  | ⟨op, n, word, pl, own, none, _⟩ =>
    simp only [kindP, leafP]
    split
    · exact Or.inl rfl
    · split
      · exact Or.inr (Or.inl rfl)
      · cases hf : findV c.vars word with
        | none => exact Or.inr (Or.inr rfl)
        | some i =>
          obtain ⟨v, hv1, hv2⟩ := kindAt_mem (findV_lt hf)
          simp only
          rw [hv2]; exact h v hv1
  | ⟨op, n, word, pl, own, some l, none⟩ => exact Or.inr (Or.inl rfl)
  | ⟨op, n, word, pl, own, some l, some r⟩ =>
    simp only [kindP, binP, makesP]
    split
    · exact Or.inr (Or.inl rfl)
    · exact Or.inl rfl

end Px
namespace Lg

/-- A call of kind, whichever the expr is. -/
def KindC (w : World) (c tl ql : Nat) (Q : Ending → World → Prop) : Prop :=
  (tl = 154 ∧ Calls Tryz.prog 181 #[.pointer (some ⟨ql, 0, none⟩), .pointer (some ⟨c, 0, none⟩)] w Q) ∨
  (tl = 171 ∧ Calls Tryz.prog 184 #[.pointer (some ⟨ql, 0, none⟩), .pointer (some ⟨c, 0, none⟩)] w Q) ∨
  (tl = 222 ∧ Calls Tryz.prog 193 #[.pointer (some ⟨ql, 0, none⟩), .pointer (some ⟨c, 0, none⟩)] w Q) ∨
  (tl = 225 ∧ Calls Tryz.prog 197 #[.pointer (some ⟨ql, 0, none⟩), .pointer (some ⟨c, 0, none⟩)] w Q) ∨
  (tl = 198 ∧ Calls Tryz.prog 186 #[.pointer (some ⟨ql, 0, none⟩), .pointer (some ⟨c, 0, none⟩)] w Q)

def Ty5 (tl : Nat) : Prop := tl = 154 ∨ tl = 171 ∨ tl = 222 ∨ tl = 225 ∨ tl = 198
theorem KindC.num {w : World} {c ql : Nat} {Q : Ending → World → Prop} (h : KindC w c 154 ql Q) : Calls Tryz.prog 181 #[.pointer (some ⟨ql, 0, none⟩), .pointer (some ⟨c, 0, none⟩)] w Q := by
  rcases h with ⟨h, k⟩ | ⟨h, k⟩ | ⟨h, k⟩ | ⟨h, k⟩ | ⟨h, k⟩ <;> first | exact k | (exact absurd h (by decide))
theorem KindC.var {w : World} {c ql : Nat} {Q : Ending → World → Prop} (h : KindC w c 171 ql Q) : Calls Tryz.prog 184 #[.pointer (some ⟨ql, 0, none⟩), .pointer (some ⟨c, 0, none⟩)] w Q := by
  rcases h with ⟨h, k⟩ | ⟨h, k⟩ | ⟨h, k⟩ | ⟨h, k⟩ | ⟨h, k⟩ <;> first | exact k | (exact absurd h (by decide))
theorem KindC.tru {w : World} {c ql : Nat} {Q : Ending → World → Prop} (h : KindC w c 222 ql Q) : Calls Tryz.prog 193 #[.pointer (some ⟨ql, 0, none⟩), .pointer (some ⟨c, 0, none⟩)] w Q := by
  rcases h with ⟨h, k⟩ | ⟨h, k⟩ | ⟨h, k⟩ | ⟨h, k⟩ | ⟨h, k⟩ <;> first | exact k | (exact absurd h (by decide))
theorem KindC.nots {w : World} {c ql : Nat} {Q : Ending → World → Prop} (h : KindC w c 225 ql Q) : Calls Tryz.prog 197 #[.pointer (some ⟨ql, 0, none⟩), .pointer (some ⟨c, 0, none⟩)] w Q := by
  rcases h with ⟨h, k⟩ | ⟨h, k⟩ | ⟨h, k⟩ | ⟨h, k⟩ | ⟨h, k⟩ <;> first | exact k | (exact absurd h (by decide))
theorem KindC.pair {w : World} {c ql : Nat} {Q : Ending → World → Prop} (h : KindC w c 198 ql Q) : Calls Tryz.prog 186 #[.pointer (some ⟨ql, 0, none⟩), .pointer (some ⟨c, 0, none⟩)] w Q := by
  rcases h with ⟨h, k⟩ | ⟨h, k⟩ | ⟨h, k⟩ | ⟨h, k⟩ | ⟨h, k⟩ <;> first | exact k | (exact absurd h (by decide))

theorem XAt.ty {w : World} {x : Px.Ex} {ok : Nat → Prop} {tl ql : Nat} (h : XAt w x ok (.iface tl (Ref.ptr ql))) : Ty5 tl := by
  unfold Ty5
  match x with
  | ⟨op, n, word, pl, own, none, none⟩ =>
    obtain ⟨q, h1, ⟨h2, h3, h4⟩ | ⟨h2, h3, h4⟩ | ⟨h2, h3, h4⟩⟩ := h <;> cases h3 <;> simp
  | ⟨op, n, word, pl, own, some l, none⟩ => obtain ⟨h0, q, tl, ql, h1, h2, h3⟩ := h; cases h2; simp
  | ⟨op, n, word, pl, own, some l, some r⟩ => obtain ⟨q, tl, ql, tr, qr, h1, h2, h3⟩ := h; cases h2; simp
  | ⟨_, _, _, _, _, none, some _⟩ => exact h.elim

theorem mNum (a : Addr) (w : World) : (method 388 154 (.pointer (some a)) "errand/lang.kind").run Tryz.prog w = .ok (181, .pointer (some a)) w := by kernel_rfl
theorem mVar (a : Addr) (w : World) : (method 388 171 (.pointer (some a)) "errand/lang.kind").run Tryz.prog w = .ok (184, .pointer (some a)) w := by kernel_rfl
theorem mTru (a : Addr) (w : World) : (method 388 222 (.pointer (some a)) "errand/lang.kind").run Tryz.prog w = .ok (193, .pointer (some a)) w := by kernel_rfl
theorem mNot (a : Addr) (w : World) : (method 388 225 (.pointer (some a)) "errand/lang.kind").run Tryz.prog w = .ok (197, .pointer (some a)) w := by kernel_rfl
theorem mPair (a : Addr) (w : World) : (method 388 198 (.pointer (some a)) "errand/lang.kind").run Tryz.prog w = .ok (186, .pointer (some a)) w := by kernel_rfl
theorem nNum (a : Addr) (w : World) : (nilAhead 388 154 (.pointer (some a)) "errand/lang.kind").run Tryz.prog w = .ok (some false) w := by kernel_rfl
theorem nVar (a : Addr) (w : World) : (nilAhead 388 171 (.pointer (some a)) "errand/lang.kind").run Tryz.prog w = .ok (some false) w := by kernel_rfl
theorem nTru (a : Addr) (w : World) : (nilAhead 388 222 (.pointer (some a)) "errand/lang.kind").run Tryz.prog w = .ok (some false) w := by kernel_rfl
theorem nNot (a : Addr) (w : World) : (nilAhead 388 225 (.pointer (some a)) "errand/lang.kind").run Tryz.prog w = .ok (some false) w := by kernel_rfl
theorem nPair (a : Addr) (w : World) : (nilAhead 388 198 (.pointer (some a)) "errand/lang.kind").run Tryz.prog w = .ok (some false) w := by kernel_rfl

def KindOk (c m B : Nat) (E : Nat → Addr) (x : Px.Ex) : Prop := ∀ (K : Px.Lk) (w : World) (tl ql : Nat), XAt w x (· < B) (.iface tl (Ref.ptr ql)) → Ck w c m B E K → Px.V3 K → KindC w c tl ql (KPost c m B E w (Px.kindP x K))

theorem XAt.below {w w' : World} {x : Px.Ex} {B : Nat} {v : Value} (h : XAt w x (· < B) v) (k : Below B w w') : XAt w' x (· < B) v := h.keep fun i hi => k.block i hi
theorem XAt.drew {w : World} {x : Px.Ex} {ok : Nat → Prop} {v : Value} (h : XAt w x ok v) : XAt w.drew x ok v := h.keep fun _ _ => rfl

end Lg
end Go.Proofs.YtcogbbneodihkaaGreatDoor

/- Kinds stay kinds: no program in it. -/
namespace Go.Proofs.YtcogbbneodihkaaGreatDoor
namespace Px

theorem noteP_v3 {c : Lk} (h : V3 c) (e p : Nat) : V3 (noteP e p c) := by unfold V3; rw [noteP_vars]; exact h
theorem giveP_v3 {c : Lk} (h : V3 c) {w : ByteArray} {p k : Nat} (hk : K3 k) : V3 (giveP w p k c) := by
  unfold giveP
  split
  · intro v hv
    rcases List.mem_append.1 hv with h1 | h1
    · exact h v h1
    · rw [List.mem_singleton] at h1; rw [h1]; exact hk
  · split
    · exact h
    · exact noteP_v3 h _ _
theorem rootP_v3 {c : Lk} (h : V3 c) (x : Ex) (k : Nat) : V3 (rootP x k c) := by
  unfold rootP
  split
  · exact kindP_v3 h
  · exact noteP_v3 (kindP_v3 h) _ _
theorem argP_v3 {c : Lk} (h : V3 c) (x : Option Ex) : V3 (argP x c) := by
  cases x with
  | none => exact h
  | some x => exact rootP_v3 h x 105
theorem asP_v3 {c : Lk} (h : V3 c) (w : ByteArray) (p : Nat) : V3 (asP w p c) := by
  unfold asP
  split
  · exact h
  · exact giveP_v3 h (Or.inl rfl)
theorem countP_v3 {c : Lk} (h : V3 c) (n p a b : Nat) : V3 (countP n p a b c) := by
  unfold countP
  split
  · exact noteP_v3 h _ _
  · exact h
theorem lookP_v3 (l : List Sm) : ∀ c, V3 c → V3 (lookP l c) := by
  match l with
  | [] => intro c h; rw [lookP_nil]; exact h
  | ⟨op, word, pl, ex, asw, asPl, undo, n, nPl, one, two⟩ :: rest =>
    intro c h
    rw [lookP_cons]
    refine lookP_v3 rest _ ?_
    unfold lookX'
    simp only
    split
    · cases ex with
      | none => exact h
      | some e => exact giveP_v3 (kindP_v3 h) (kindP_k3 e c h)
    · split
      · exact countP_v3 (asP_v3 (argP_v3 h _) _ _) _ _ _ _
      · split
        · cases ex with
          | none => exact h
          | some e => exact lookP_v3 two _ (lookP_v3 one _ (rootP_v3 h e 98))
        · split
          · exact lookP_v3 two _ (lookP_v3 one _ h)
          · split
            · exact lookP_v3 one _ (countP_v3 h _ _ _ _)
            · exact h
theorem lookX_v3 (x : Sm) (c : Lk) (h : V3 c) : V3 (lookX' x c) := by
  have := lookP_v3 [x] c h
  rw [lookP_cons, lookP_nil] at this
  exact this

end Px
end Go.Proofs.YtcogbbneodihkaaGreatDoor

namespace Go.Proofs.YtcogbbneodihkaaGreatDoor
open Go.RowKit
namespace Lg

def SPost (c m B : Nat) (E : Nat → Addr) (w : World) (K : Px.Lk) (e : Ending) (w' : World) : Prop := e = .returned (.tuple #[]) ∧ Ck w' c m B E K ∧ Fr c m w w'

/-- A call of check, whichever the statement is. -/
def CheckC (w : World) (c tl ql : Nat) (Q : Ending → World → Prop) : Prop :=
  (tl = 145 ∧ Calls Tryz.prog 163 #[.pointer (some ⟨ql, 0, none⟩), .pointer (some ⟨c, 0, none⟩)] w Q) ∨
  (tl = 147 ∧ Calls Tryz.prog 170 #[.pointer (some ⟨ql, 0, none⟩), .pointer (some ⟨c, 0, none⟩)] w Q) ∨
  (tl = 149 ∧ Calls Tryz.prog 175 #[.pointer (some ⟨ql, 0, none⟩), .pointer (some ⟨c, 0, none⟩)] w Q) ∨
  (tl = 151 ∧ Calls Tryz.prog 177 #[.pointer (some ⟨ql, 0, none⟩), .pointer (some ⟨c, 0, none⟩)] w Q) ∨
  (tl = 153 ∧ Calls Tryz.prog 179 #[.pointer (some ⟨ql, 0, none⟩), .pointer (some ⟨c, 0, none⟩)] w Q) ∨
  (tl = 158 ∧ Calls Tryz.prog 182 #[.pointer (some ⟨ql, 0, none⟩), .pointer (some ⟨c, 0, none⟩)] w Q)

def CheckOk (c m B : Nat) (E : Nat → Addr) (x : Px.Sm) : Prop := ∀ (K : Px.Lk) (w : World) (tl ql : Nat), SAt w x (· < B) (.iface tl (Ref.ptr ql)) → Ck w c m B E K → Px.V3 K → CheckC w c tl ql (SPost c m B E w (Px.lookX' x K))

def BlockOk (c m B : Nat) (E : Nat → Addr) (l : List Px.Sm) : Prop := ∀ (K : Px.Lk) (w : World) (v : Value) (vs : List Value), SlL w v vs (· < B) → LsAt w l (· < B) vs → Ck w c m B E K → Px.V3 K →
  Calls Tryz.prog 27 #[.pointer (some ⟨c, 0, none⟩), v] w (SPost c m B E w (Px.lookP l K))

theorem sLet (a : Addr) (w : World) : (method 388 145 (.pointer (some a)) "errand/lang.check").run Tryz.prog w = .ok (163, .pointer (some a)) w := by kernel_rfl
theorem sCall (a : Addr) (w : World) : (method 388 147 (.pointer (some a)) "errand/lang.check").run Tryz.prog w = .ok (170, .pointer (some a)) w := by kernel_rfl
theorem sIf (a : Addr) (w : World) : (method 388 149 (.pointer (some a)) "errand/lang.check").run Tryz.prog w = .ok (175, .pointer (some a)) w := by kernel_rfl
theorem sTry (a : Addr) (w : World) : (method 388 151 (.pointer (some a)) "errand/lang.check").run Tryz.prog w = .ok (177, .pointer (some a)) w := by kernel_rfl
theorem sRepeat (a : Addr) (w : World) : (method 388 153 (.pointer (some a)) "errand/lang.check").run Tryz.prog w = .ok (179, .pointer (some a)) w := by kernel_rfl
theorem sFail (a : Addr) (w : World) : (method 388 158 (.pointer (some a)) "errand/lang.check").run Tryz.prog w = .ok (182, .pointer (some a)) w := by kernel_rfl

theorem SlL.len {w : World} {v : Value} {vs : List Value} {ok : Nat → Prop} (h : SlL w v vs ok) : ∃ a cap, v = .slice a vs.length cap ∧ vs.length ≤ maxLen := by
  rcases h with ⟨h1, h2⟩ | ⟨g, cap, cur, h1, h2, h3, h4, h5, h6, h7⟩
  · subst h2; exact ⟨none, 0, h1, by simp⟩
  · exact ⟨_, cap, h1, by omega⟩
theorem SlL.cell {w : World} {v : Value} {vs : List Value} {ok : Nat → Prop} (h : SlL w v vs ok) {n : Nat} (hn : n < vs.length) : ∃ g cap, v = .slice (some ⟨g, 0, none⟩) vs.length cap ∧ ok g ∧ w.cell? ⟨g, n, none⟩ = some vs[n] := by
  rcases h with ⟨h1, h2⟩ | ⟨g, cap, cur, h1, h2, h3, h4, h5, h6, h7⟩
  · subst h2; simp at hn
  · refine ⟨g, cap, h1, h2, ?_⟩
    have : cur[n]? = some vs[n] := by
      have h8 : (cur.toList.take vs.length)[n]? = some vs[n] := by rw [h7]; exact List.getElem?_eq_getElem hn
      rw [List.getElem?_take_of_lt hn] at h8
      simpa using h8
    simp [World.cell?, h3, this]
theorem LsAt.len {w : World} {l : List Px.Sm} {ok : Nat → Prop} {vs : List Value} (h : LsAt w l ok vs) : vs.length = l.length := by
  induction l generalizing vs with
  | nil => simp [LsAt.nil_iff.1 h]
  | cons x l ih =>
    obtain ⟨v, vs', rfl, h1, h2⟩ := LsAt.cons_iff.1 h
    simp [ih h1]
theorem LsAt.get {w : World} {l : List Px.Sm} {ok : Nat → Prop} {vs : List Value} (h : LsAt w l ok vs) (n : Nat) (hn : n < l.length) (hm : n < vs.length) : SAt w l[n] ok vs[n] := by
  induction l generalizing vs n with
  | nil => simp at hn
  | cons x l ih =>
    obtain ⟨v, vs', rfl, h1, h2⟩ := LsAt.cons_iff.1 h
    cases n with
    | zero => exact h2
    | succ n => exact ih h1 n (by simpa using hn) (by simpa using hm)
theorem SAt.below {w w' : World} {x : Px.Sm} {B : Nat} {v : Value} (h : SAt w x (· < B) v) (k : Below B w w') : SAt w' x (· < B) v := h.keep fun i hi => k.block i hi

set_option maxRecDepth 100000 in
set_option maxHeartbeats 4000000 in
theorem chkBlock_any (c m B : Nat) (E : Nat → Addr) (l : List Px.Sm) (hx : ∀ i (hi : i < l.length), CheckOk c m B E l[i]) : BlockOk c m B E l := by
  intro K w v vs hs hm h hv
  obtain ⟨va, vc, rfl, hml⟩ := hs.len
  unfold maxLen at hml
  have hlen := hm.len
  have H : Hid (SlL w (.slice va vs.length vc) vs (· < B) ∧ LsAt w l (· < B) vs ∧ Ck w c m B E K) := ⟨hs, hm, h⟩
  have HX : Hid (∀ i (hi : i < l.length), CheckOk c m B E l[i]) := hx
  have HLen : Hid (vs.length = l.length) := hlen
  have m1 := sLet
  have m2 := sCall
  have m3 := sIf
  have m4 := sTry
  have m5 := sRepeat
  have m6 := sFail
  clear hs hm h hx hlen
  go_enter Tryz.func27, Tryz.ntmps27
  go_wp2_with fail
  go_loopw [8] (fun i wr => ∃ n : Nat, n ≤ vs.length ∧ i = .int .i64 n ∧ Hid (Fr c m w wr ∧ ∃ K', Ck wr c m B E K' ∧ Px.V3 K' ∧ Px.lookP (l.drop n) K' = Px.lookP l K)) (fun i _ => vs.length - (intOf i).toNat)
  case atStart => exact ⟨0, by omega, rfl, Fr.refl _ _ _, K, H.out.2.2, hv, rfl⟩
  case round =>
    obtain ⟨n, hn, rfl, hr⟩ := hrel
    obtain ⟨hf, K', hk', hv', he⟩ := hr.out
    clear hr
    by_cases hlt : n < vs.length
    · have hnl : n < l.length := by have := HLen.out; omega
      have hb := H.out.2.2.fr hf
      have hsat := (H.out.2.1.get n hnl hlt).below hb
      obtain ⟨t, q, hform⟩ := hsat.form
      obtain ⟨g, cap, hgv, hg, hcell⟩ := H.out.1.cell hlt
      cases hgv
      have hcr : wr.cell? ⟨g, n, none⟩ = some (.iface t (.pointer (some ⟨q, 0, none⟩))) := by rw [hb.cell (p := ⟨g, n, none⟩) hg, hcell, hform]; rfl
      have hdrop : l.drop n = l[n] :: l.drop (n + 1) := List.drop_eq_getElem_cons hnl
      rw [hdrop, Px.lookP_cons] at he
      rw [hform] at hsat
      have HH : Hid (Fr c m w wr ∧ Px.lookP (l.drop (n + 1)) (Px.lookX' l[n] K') = Px.lookP l K ∧ Px.V3 (Px.lookX' l[n] K')) := ⟨hf, he, Px.lookX_v3 _ _ hv'⟩
      have hC := HX.out n hnl K' wr t q hsat hk' hv'
      clear hf he hsat hcell hform hdrop hb hk'
      rcases hC with ⟨rfl, hC⟩ | ⟨rfl, hC⟩ | ⟨rfl, hC⟩ | ⟨rfl, hC⟩ | ⟨rfl, hC⟩ | ⟨rfl, hC⟩
      all_goals
        go_wp2_with fail
        refine hC.mono ?_
        rintro e w1 ⟨rfl, k1, f1⟩
        have L1 : Hid (_ ∧ _) := ⟨k1, f1⟩
        clear k1 f1
        go_wp2_with fail
        exact ⟨⟨n + 1, by omega, by go_num, HH.out.1.trans L1.out.2, _, L1.out.1, HH.out.2.2, HH.out.2.1⟩, by simp [intOf]; omega⟩
    · have hnl : l.drop n = [] := List.drop_of_length_le (by have := HLen.out; omega)
      rw [hnl, Px.lookP_nil] at he
      have HH : Hid (Fr c m w wr ∧ Ck wr c m B E (Px.lookP l K)) := ⟨hf, by rw [← he]; exact hk'⟩
      clear hf hk' he hnl
      go_wp2_with fail
      go_end0
      exact ⟨rfl, HH.out.2, HH.out.1⟩

end Lg
end Go.Proofs.YtcogbbneodihkaaGreatDoor

namespace Go.Proofs.YtcogbbneodihkaaGreatDoor
open Go.RowKit
namespace Lg

theorem fail_check (c m B q : Nat) (E : Nat → Addr) (K : Px.Lk) (w : World) (h : Ck w c m B E K) :
    Calls Tryz.prog 182 #[.pointer (some ⟨q, 0, none⟩), .pointer (some ⟨c, 0, none⟩)] w (SPost c m B E w K) := by
  have HH : Hid (Ck w c m B E K) := h
  clear h
  go_enter Tryz.func182, Tryz.ntmps182
  go_wp2_with fail
  go_end0
  exact ⟨rfl, HH.out, Fr.refl _ _ _⟩

theorem SlL.below {w w' : World} {v : Value} {vs : List Value} {B : Nat} (h : SlL w v vs (· < B)) (k : Below B w w') : SlL w' v vs (· < B) := h.keep fun i hi => k.block i hi
theorem LsAt.below {w w' : World} {l : List Px.Sm} {vs : List Value} {B : Nat} (h : LsAt w l (· < B) vs) (k : Below B w w') : LsAt w' l (· < B) vs := h.keep fun i hi => k.block i hi

set_option maxRecDepth 100000 in
theorem try_check (c m B q : Nat) (E : Nat → Addr) (one two : List Px.Sm) (i1 : BlockOk c m B E one) (i2 : BlockOk c m B E two) (K : Px.Lk) (w : World) (v1 v2 : Value) (u1 u2 : List Value) (hq : q < B) (hc : w.heap[q]? = some (.cells #[v1, v2] 188)) (s1 : SlL w v1 u1 (· < B)) (l1 : LsAt w one (· < B) u1) (s2 : SlL w v2 u2 (· < B)) (l2 : LsAt w two (· < B) u2) (h : Ck w c m B E K) (hv : Px.V3 K) :
    Calls Tryz.prog 177 #[.pointer (some ⟨q, 0, none⟩), .pointer (some ⟨c, 0, none⟩)] w (SPost c m B E w (Px.lookP two (Px.lookP one K))) := by
  obtain ⟨a1, n1, k1, rfl⟩ := s1.form
  obtain ⟨a2, n2, k2, rfl⟩ := s2.form
  obtain ⟨c0, c1, fr⟩ := cells2 hc
  have CQ : Hid (∀ W, Fr c m w W → W.heap[q]? = some (.cells #[.slice a1 n1 k1, .slice a2 n2 k2] 188)) := fun W hW => by rw [(h.fr hW).block q hq]; exact hc
  have C1 : Hid (Calls Tryz.prog 27 #[.pointer (some ⟨c, 0, none⟩), .slice a1 n1 k1] w (SPost c m B E w (Px.lookP one K))) := i1 K w _ u1 s1 l1 h hv
  have C2 : Hid (∀ W, Fr c m w W → Ck W c m B E (Px.lookP one K) → Calls Tryz.prog 27 #[.pointer (some ⟨c, 0, none⟩), .slice a2 n2 k2] W (SPost c m B E W (Px.lookP two (Px.lookP one K)))) := fun W hW hK => i2 _ W _ u2 (s2.below (h.fr hW)) (l2.below (h.fr hW)) hK (Px.lookP_v3 one K hv)
  clear i1 i2 s1 l1 s2 l2 h hc
  go_enter Tryz.func177, Tryz.ntmps177
  go_wp2_with fail
  refine C1.out.mono ?_
  rintro e w1 ⟨rfl, k1, f1⟩
  obtain ⟨d0, d1, fd⟩ := cells2 (CQ.out w1 f1)
  have K1 : Hid (_ ∧ _) := ⟨k1, f1⟩
  clear c0 c1 fr k1 f1
  go_wp2_with fail
  refine (C2.out _ K1.out.2 K1.out.1).mono ?_
  rintro e w2 ⟨rfl, k2, f2⟩
  have K2 : Hid (_ ∧ _) := ⟨k2, f2⟩
  clear k2 f2
  go_wp2_with fail
  go_end0
  exact ⟨rfl, K2.out.1, K1.out.2.trans K2.out.2⟩

set_option maxRecDepth 100000 in
theorem repeat_check (c m B q qn n nPl : Nat) (E : Nat → Addr) (one : List Px.Sm) (i1 : BlockOk c m B E one) (K : Px.Lk) (w : World) (v1 : Value) (u1 : List Value) (hq : q < B) (hc : w.heap[q]? = some (.cells #[Ref.ptr qn, v1] 157)) (hn : NumAt w n nPl (· < B) qn) (s1 : SlL w v1 u1 (· < B)) (l1 : LsAt w one (· < B) u1) (h : Ck w c m B E K) (hv : Px.V3 K) :
    Calls Tryz.prog 179 #[.pointer (some ⟨q, 0, none⟩), .pointer (some ⟨c, 0, none⟩)] w (SPost c m B E w (Px.lookP one (Px.countP n nPl 0 9 K))) := by
  obtain ⟨a1, n1, k1, rfl⟩ := s1.form
  unfold Ref.ptr at hc
  obtain ⟨c0, c1, fr⟩ := cells2 hc
  have CQ : Hid (∀ W, Fr c m w W → W.heap[q]? = some (.cells #[.pointer (some ⟨qn, 0, none⟩), .slice a1 n1 k1] 157)) := fun W hW => by rw [(h.fr hW).block q hq]; exact hc
  have HH : Hid (Ck w c m B E K ∧ NumAt w n nPl (· < B) qn) := ⟨h, hn⟩
  have C2 : Hid (∀ W, Fr c m w W → Ck W c m B E (Px.countP n nPl 0 9 K) → Calls Tryz.prog 27 #[.pointer (some ⟨c, 0, none⟩), .slice a1 n1 k1] W (SPost c m B E W (Px.lookP one (Px.countP n nPl 0 9 K)))) := fun W hW hK => i1 _ W _ u1 (s1.below (h.fr hW)) (l1.below (h.fr hW)) hK (Px.countP_v3 hv _ _ _ _)
  clear i1 s1 l1 h hc hn
  go_enter Tryz.func179, Tryz.ntmps179
  go_wp2_with fail
  refine (count_any c m B qn n nPl 0 9 E K _ HH.out.1 HH.out.2).mono ?_
  rintro e w1 ⟨rfl, k1, f1⟩
  obtain ⟨d0, d1, fd⟩ := cells2 (CQ.out w1 f1)
  have K1 : Hid (_ ∧ _) := ⟨k1, f1⟩
  clear c0 c1 fr k1 f1
  go_wp2_with fail
  refine (C2.out _ K1.out.2 K1.out.1).mono ?_
  rintro e w2 ⟨rfl, k2, f2⟩
  have K2 : Hid (_ ∧ _) := ⟨k2, f2⟩
  clear k2 f2
  go_wp2_with fail
  go_end0
  exact ⟨rfl, K2.out.1, K1.out.2.trans K2.out.2⟩

end Lg
end Go.Proofs.YtcogbbneodihkaaGreatDoor

namespace Go.Proofs.YtcogbbneodihkaaGreatDoor
open Go.RowKit
namespace Lg

set_option maxRecDepth 100000 in
set_option maxHeartbeats 4000000 in
theorem chkRoot_any (c m B : Nat) (E : Nat → Addr) (l : Px.Ex) (ih : KindOk c m B E l) (k : Nat) (hk : Px.K3 k) (K : Px.Lk) (w : World) (q : Nat) (hr : RootAt w l (· < B) q) (h : Ck w c m B E K) (hv : Px.V3 K) :
    Calls Tryz.prog 172 #[.pointer (some ⟨c, 0, none⟩), .pointer (some ⟨q, 0, none⟩), .int .i64 (kk k : Int)] w fun r w' => r = .returned (.tuple #[]) ∧ Ck w' c m B E (Px.rootP l k K) ∧ Fr c m w w' := by
  obtain ⟨hq, tl, ql, hc, hx⟩ := hr
  have hk3 := Px.kindP_k3 l K hv
  have CALL : Hid (∀ W, W = w.drew ∨ W = w → KindC W c tl ql (KPost c m B E W (Px.kindP l K))) := fun W hW => by
    rcases hW with rfl | rfl
    · exact ih K _ tl ql hx.drew h.drew hv
    · exact ih K _ tl ql hx h hv
  have CQ : Hid (∀ W, Below B w W → W.heap[q]? = some (.cells #[.iface tl (Ref.ptr ql), .int .i64 (l.pl : Int)] 202)) := fun W hW => by rw [hW.block q hq]; exact hc
  have ht := hx.ty
  unfold Ref.ptr at hc
  obtain ⟨c0, c1, fr⟩ := cells2 hc
  have HH : Hid (Ck w c m B E K) := h
  clear ih hx h hc
  unfold Ty5 at ht
  have hm1 := mNum
  have hm2 := mVar
  have hm3 := mTru
  have hm4 := mNot
  have hm5 := mPair
  rcases ht with rfl | rfl | rfl | rfl | rfl
  all_goals
    go_enter Tryz.func172, Tryz.ntmps172
    go_wp2_with fail
    first
      | refine (CALL.out w (Or.inr rfl)).num.mono ?_
      | refine (CALL.out w (Or.inr rfl)).var.mono ?_
      | refine (CALL.out w (Or.inr rfl)).tru.mono ?_
      | refine (CALL.out w (Or.inr rfl)).nots.mono ?_
      | refine (CALL.out w (Or.inr rfl)).pair.mono ?_
    rintro e w1 ⟨rfl, k1, b1⟩
    have hc1 := CQ.out w1 (HH.out.fr b1)
    unfold Ref.ptr at hc1
    obtain ⟨e0, e1, fe⟩ := cells2 hc1
    have g6 := k1.g.y
    have K1 : Hid (Ck w1 c m B E (Px.kindP l K).2 ∧ Fr c m w w1) := ⟨k1, b1⟩
    clear c0 c1 fr k1 b1 hc1
    cases hfit : Px.fitsP (Px.kindP l K).1 k
    · go_wp2_with fail
      refine (fits_any _ k hk3 hk _).mono ?_
      rintro r w2 ⟨rfl, rfl⟩
      rw [hfit]
      go_wp2_with fail
      go_region_with (go_at_call 168; refine (note_any c m B E 6 l.pl (by decide) _ _ K1.out.1.drew).mono ?_; rintro r w2 ⟨rfl, h3, h4⟩)
      all_goals
        go_wp2_with fail
        go_end0
        refine ⟨rfl, ?_, K1.out.2.drew.trans h4⟩
        unfold Px.rootP
        rw [if_neg (by simp [hfit])]
        exact h3
    · go_wp2_with fail
      refine (fits_any _ k hk3 hk _).mono ?_
      rintro r w2 ⟨rfl, rfl⟩
      rw [hfit]
      go_wp2_with fail
      go_end0
      refine ⟨rfl, ?_, K1.out.2⟩
      unfold Px.rootP
      rw [if_pos hfit]
      exact K1.out.1

end Lg
end Go.Proofs.YtcogbbneodihkaaGreatDoor

namespace Go.Proofs.YtcogbbneodihkaaGreatDoor
open Go.RowKit
namespace Lg

theorem cells3' {w : World} {k : Nat} {a b c : Value} {t : TypeId} (hh : w.heap[k]? = some (.cells #[a, b, c] t)) :
    w.cell? ⟨k, 0, none⟩ = some a ∧ w.cell? ⟨k, 1, none⟩ = some b ∧ w.cell? ⟨k, 2, none⟩ = some c ∧ ∀ o, w.frozen? ⟨k, o, none⟩ = false := by
  refine ⟨?_, ?_, ?_, ?_⟩ <;> simp [World.cell?, World.frozen?, hh]
theorem RootAt.below {w w' : World} {e : Px.Ex} {q B : Nat} (h : RootAt w e (· < B) q) (k : Below B w w') : RootAt w' e (· < B) q := h.keep fun i hi => k.block i hi

set_option maxRecDepth 100000 in
theorem if_check (c m B q qr : Nat) (E : Nat → Addr) (e : Px.Ex) (ie : KindOk c m B E e) (one two : List Px.Sm) (i1 : BlockOk c m B E one) (i2 : BlockOk c m B E two) (K : Px.Lk) (w : World) (v1 v2 : Value) (u1 u2 : List Value) (hq : q < B) (hc : w.heap[q]? = some (.cells #[Ref.ptr qr, v1, v2] 186)) (hr : RootAt w e (· < B) qr) (s1 : SlL w v1 u1 (· < B)) (l1 : LsAt w one (· < B) u1) (s2 : SlL w v2 u2 (· < B)) (l2 : LsAt w two (· < B) u2) (h : Ck w c m B E K) (hv : Px.V3 K) :
    Calls Tryz.prog 175 #[.pointer (some ⟨q, 0, none⟩), .pointer (some ⟨c, 0, none⟩)] w (SPost c m B E w (Px.lookP two (Px.lookP one (Px.rootP e 98 K)))) := by
  obtain ⟨a1, n1, k1, rfl⟩ := s1.form
  obtain ⟨a2, n2, k2, rfl⟩ := s2.form
  unfold Ref.ptr at hc
  obtain ⟨c0, c1, c2, fr⟩ := cells3' hc
  have CQ : Hid (∀ W, Fr c m w W → W.heap[q]? = some (.cells #[.pointer (some ⟨qr, 0, none⟩), .slice a1 n1 k1, .slice a2 n2 k2] 186)) := fun W hW => by rw [(h.fr hW).block q hq]; exact hc
  have C0 : Hid (Calls Tryz.prog 172 #[.pointer (some ⟨c, 0, none⟩), .pointer (some ⟨qr, 0, none⟩), .int .i64 2] w (SPost c m B E w (Px.rootP e 98 K))) := chkRoot_any c m B E e ie 98 (Or.inr (Or.inl rfl)) K w qr hr h hv
  have C1 : Hid (∀ W, Fr c m w W → Ck W c m B E (Px.rootP e 98 K) → Calls Tryz.prog 27 #[.pointer (some ⟨c, 0, none⟩), .slice a1 n1 k1] W (SPost c m B E W (Px.lookP one (Px.rootP e 98 K)))) := fun W hW hK => i1 _ W _ u1 (s1.below (h.fr hW)) (l1.below (h.fr hW)) hK (Px.rootP_v3 hv e 98)
  have C2 : Hid (∀ W, Fr c m w W → Ck W c m B E (Px.lookP one (Px.rootP e 98 K)) → Calls Tryz.prog 27 #[.pointer (some ⟨c, 0, none⟩), .slice a2 n2 k2] W (SPost c m B E W (Px.lookP two (Px.lookP one (Px.rootP e 98 K))))) := fun W hW hK => i2 _ W _ u2 (s2.below (h.fr hW)) (l2.below (h.fr hW)) hK (Px.lookP_v3 one _ (Px.rootP_v3 hv e 98))
  clear ie i1 i2 s1 l1 s2 l2 h hc hr
  go_enter Tryz.func175, Tryz.ntmps175
  go_wp2_with fail
  refine C0.out.mono ?_
  rintro r w1 ⟨rfl, k1, f1⟩
  obtain ⟨d0, d1, d2, fd⟩ := cells3' (CQ.out w1 f1)
  have K1 : Hid (_ ∧ _) := ⟨k1, f1⟩
  clear c0 c1 c2 fr k1 f1
  go_wp2_with fail
  refine (C1.out _ K1.out.2 K1.out.1).mono ?_
  rintro r w2 ⟨rfl, k2, f2⟩
  obtain ⟨j0, j1, j2, fj⟩ := cells3' (CQ.out w2 (K1.out.2.trans f2))
  have K2 : Hid (_ ∧ _) := ⟨k2, f2⟩
  clear d0 d1 d2 fd k2 f2
  go_wp2_with fail
  refine (C2.out _ (K1.out.2.trans K2.out.2) K2.out.1).mono ?_
  rintro r w3 ⟨rfl, k3, f3⟩
  have K3 : Hid (_ ∧ _) := ⟨k3, f3⟩
  clear k3 f3
  go_wp2_with fail
  go_end0
  exact ⟨rfl, K3.out.1, (K1.out.2.trans K2.out.2).trans K3.out.2⟩

end Lg
end Go.Proofs.YtcogbbneodihkaaGreatDoor

namespace Go.Proofs.YtcogbbneodihkaaGreatDoor
open Go.RowKit
namespace Lg

theorem NumAt.below {w w' : World} {n a q B : Nat} (h : NumAt w n a (· < B) q) (k : Below B w w') : NumAt w' n a (· < B) q := h.keep fun i hi => k.block i hi
theorem VarAt.below {w w' : World} {x : ByteArray} {a q B : Nat} (h : VarAt w x a (· < B) q) (k : Below B w w') : VarAt w' x a (· < B) q := h.keep fun i hi => k.block i hi

/-- The last part of a call's check. -/
def CNode (w : World) (q : Nat) (word undo : ByteArray) (pa ps : Option Addr) (qn : Nat) : Prop := w.heap[q]? = some (.cells #[.string word, .pointer pa, .pointer ps, .string undo, .pointer (some ⟨qn, 0, none⟩)] 183)
theorem CNode.cells {w : World} {q : Nat} {word undo : ByteArray} {pa ps : Option Addr} {qn : Nat} (h : CNode w q word undo pa ps qn) : w.cell? ⟨q, 1, none⟩ = some (.pointer pa) ∧ w.cell? ⟨q, 2, none⟩ = some (.pointer ps) ∧ w.cell? ⟨q, 4, none⟩ = some (.pointer (some ⟨qn, 0, none⟩)) ∧ ∀ o, w.frozen? ⟨q, o, none⟩ = false := by
  unfold CNode at h
  refine ⟨?_, ?_, ?_, ?_⟩ <;> simp [World.cell?, World.frozen?, h]

set_option maxRecDepth 100000 in
set_option maxHeartbeats 4000000 in
theorem call_check (c m B q qn n nPl asPl : Nat) (word undo asw : ByteArray) (pa ps : Option Addr) (E : Nat → Addr) (ex : Option Px.Ex) (ie : ∀ e, ex = some e → KindOk c m B E e) (K : Px.Lk) (w : World) (hq : q < B) (hc : w.heap[q]? = some (.cells #[.string word, .pointer pa, .pointer ps, .string undo, Ref.ptr qn] 183)) (ha : ArgAt w ex (· < B) (.pointer pa)) (hs : AsAt w asw asPl (· < B) (.pointer ps)) (hn : NumAt w n nPl (· < B) qn) (h : Ck w c m B E K) (hv : Px.V3 K) :
    Calls Tryz.prog 170 #[.pointer (some ⟨q, 0, none⟩), .pointer (some ⟨c, 0, none⟩)] w (SPost c m B E w (Px.countP n nPl 1 5 (Px.asP asw asPl (Px.argP ex K)))) := by
  have hc' : CNode w q word undo pa ps qn := hc
  have CQ : Hid (∀ W, Fr c m w W → CNode W q word undo pa ps qn) := fun W hW => by unfold CNode; rw [(h.fr hW).block q hq]; exact hc'
  obtain ⟨c1, c2, c4, fr⟩ := hc'.cells
  have C2 : Hid (∀ W, Fr c m w W → Ck W c m B E (Px.asP asw asPl (Px.argP ex K)) → Calls Tryz.prog 173 #[.pointer (some ⟨c, 0, none⟩), .pointer (some ⟨qn, 0, none⟩), .int .i64 1, .int .i64 5] W (SPost c m B E W (Px.countP n nPl 1 5 (Px.asP asw asPl (Px.argP ex K))))) := fun W hW hK => count_any c m B qn n nPl 1 5 E _ W hK (hn.below (h.fr hW))
  have HH : Hid (Ck w c m B E K) := h
  have CA : Hid ((ex = none ∧ pa = none ∧ Px.argP ex K = K) ∨ ∃ qa, pa = some ⟨qa, 0, none⟩ ∧ Calls Tryz.prog 172 #[.pointer (some ⟨c, 0, none⟩), .pointer (some ⟨qa, 0, none⟩), .int .i64 1] w (SPost c m B E w (Px.argP ex K))) := by
    cases ex with
    | none =>
      have : Value.pointer pa = .pointer none := ha
      cases this
      exact Or.inl ⟨rfl, rfl, rfl⟩
    | some e =>
      obtain ⟨qa, h1, h2⟩ := ha
      cases h1
      exact Or.inr ⟨qa, rfl, chkRoot_any c m B E e (ie e rfl) 105 (Or.inl rfl) K w qa h2 h hv⟩
  have CB : Hid ((ps = none ∧ Px.asP asw asPl (Px.argP ex K) = Px.argP ex K) ∨ ∃ qs, ps = some ⟨qs, 0, none⟩ ∧ ∀ W, Fr c m w W → Ck W c m B E (Px.argP ex K) → Calls Tryz.prog 165 #[.pointer (some ⟨c, 0, none⟩), .pointer (some ⟨qs, 0, none⟩), .int .i64 1] W (SPost c m B E W (Px.asP asw asPl (Px.argP ex K)))) := by
    rcases hs with ⟨h1, h2⟩ | ⟨h1, qs, h2, h3⟩
    · cases h2
      exact Or.inl ⟨rfl, by unfold Px.asP; rw [if_pos h1]⟩
    · cases h2
      refine Or.inr ⟨qs, rfl, fun W hW hK => ?_⟩
      unfold Px.asP
      rw [if_neg (by omega)]
      exact give_any c m B qs asPl 105 asw E _ W hK (h3.below (h.fr hW)) (Or.inl rfl) (Px.argP_v3 hv ex)
  clear ie ha hs hn h hc hc'
  generalize Px.argP ex K = K1 at *
  generalize Px.asP asw asPl K1 = K2 at *
  rcases CA.out with ⟨rfl, rfl, rfl⟩ | ⟨qa, rfl, ca⟩
  · rcases CB.out with ⟨rfl, rfl⟩ | ⟨qs, rfl, cb⟩
    · clear CA CB
      go_enter Tryz.func170, Tryz.ntmps170
      go_wp2_with fail
      refine (C2.out _ (Fr.refl _ _ _) HH.out).mono ?_
      rintro r w1 ⟨rfl, k1, f1⟩
      go_wp2_with fail
      go_end0
      exact ⟨rfl, k1, f1⟩
    · have CB' : Hid (_) := cb
      clear CA CB cb
      go_enter Tryz.func170, Tryz.ntmps170
      go_wp2_with fail
      refine (CB'.out _ (Fr.refl _ _ _) HH.out).mono ?_
      rintro r w1 ⟨rfl, k1, f1⟩
      obtain ⟨d1, d2, d4, fd⟩ := (CQ.out w1 f1).cells
      have L1 : Hid (_ ∧ _) := ⟨k1, f1⟩
      clear c1 c2 c4 fr k1 f1
      go_wp2_with fail
      refine (C2.out _ L1.out.2 L1.out.1).mono ?_
      rintro r w2 ⟨rfl, k2, f2⟩
      go_wp2_with fail
      go_end0
      exact ⟨rfl, k2, L1.out.2.trans f2⟩
  · rcases CB.out with ⟨rfl, rfl⟩ | ⟨qs, rfl, cb⟩
    · clear CA CB
      go_enter Tryz.func170, Tryz.ntmps170
      go_wp2_with fail
      refine ca.mono ?_
      rintro r w1 ⟨rfl, k1, f1⟩
      obtain ⟨d1, d2, d4, fd⟩ := (CQ.out w1 f1).cells
      have L1 : Hid (_ ∧ _) := ⟨k1, f1⟩
      clear c1 c2 c4 fr k1 f1 ca
      go_wp2_with fail
      refine (C2.out _ L1.out.2 L1.out.1).mono ?_
      rintro r w2 ⟨rfl, k2, f2⟩
      go_wp2_with fail
      go_end0
      exact ⟨rfl, k2, L1.out.2.trans f2⟩
    · have CB' : Hid (_) := cb
      clear CA CB cb
      go_enter Tryz.func170, Tryz.ntmps170
      go_wp2_with fail
      refine ca.mono ?_
      rintro r w1 ⟨rfl, k1, f1⟩
      obtain ⟨d1, d2, d4, fd⟩ := (CQ.out w1 f1).cells
      have L1 : Hid (_ ∧ _) := ⟨k1, f1⟩
      clear c1 c2 c4 fr k1 f1 ca
      go_wp2_with fail
      refine (CB'.out _ L1.out.2 L1.out.1).mono ?_
      rintro r w2 ⟨rfl, k2, f2⟩
      obtain ⟨j1, j2, j4, fj⟩ := (CQ.out w2 (L1.out.2.trans f2)).cells
      have L2 : Hid (_ ∧ _) := ⟨k2, f2⟩
      clear d1 d2 d4 fd k2 f2
      go_wp2_with fail
      refine (C2.out _ (L1.out.2.trans L2.out.2) L2.out.1).mono ?_
      rintro r w3 ⟨rfl, k3, f3⟩
      go_wp2_with fail
      go_end0
      exact ⟨rfl, k3, (L1.out.2.trans L2.out.2).trans f3⟩

end Lg
end Go.Proofs.YtcogbbneodihkaaGreatDoor

namespace Go.Proofs.YtcogbbneodihkaaGreatDoor
open Go.RowKit
namespace Lg

def CbPost (B : Nat) (E : Nat → Addr) (w : World) (K : Px.Lk) (e : Ending) (w' : World) : Prop :=
  Below B w w' ∧ ∃ er, e = .returned er ∧ ((K.e = 0 ∧ er = .nilIface) ∨ (K.e ≠ 0 ∧ ∃ f, er = .iface 50 (.pointer (some ⟨f, 0, none⟩)) ∧ FltAt w' f K.pl (E K.e)))

theorem makeKinds (w : World) : (Instr.makeMap 77 none).run Tryz.prog w = .ok (.map (some w.heap.size)) (w.alloc (.map #[] 0)) := rfl

def cbW (w : World) : World := (w.alloc (.map #[] 0)).alloc (.cells #[.map (some w.heap.size), .pointer none] 79)
theorem cbW_below (w : World) : Below w.heap.size w (cbW w) := ((Below.refl _ _).alloc (Nat.le_refl _) _).alloc (by simp) _
theorem cbW_ck {w : World} {E : Nat → Addr} (g : Gc w w.heap.size E) : Ck (cbW w) (w.heap.size + 1) w.heap.size w.heap.size E ⟨[], 0, 0⟩ := by
  refine ⟨g.below (cbW_below w), by omega, none, ?_, Nat.le_refl _, by omega, ⟨#[], 0, ?_, rfl⟩, Or.inl ⟨rfl, rfl⟩⟩
  · exact new2
  · show ((w.alloc _).alloc _).heap[w.heap.size]? = _
    rw [Below.heap_alloc _ _ _ (by simp)]
    exact new1

set_option maxRecDepth 100000 in
theorem checkBlock_any (E : Nat → Addr) (l : List Px.Sm) (w : World) (hl : ∀ c m, BlockOk c m w.heap.size E l) (v : Value) (vs : List Value) (hs : SlL w v vs (· < w.heap.size)) (hm : LsAt w l (· < w.heap.size) vs) (g : Gc w w.heap.size E) :
    Calls Tryz.prog 16 #[v] w (CbPost w.heap.size E w (Px.lookP l ⟨[], 0, 0⟩)) := by
  obtain ⟨a1, n1, k1, rfl⟩ := hs.form
  have mk := makeKinds
  have HB : Hid (Calls Tryz.prog 27 #[.pointer (some ⟨w.heap.size + 1, 0, none⟩), .slice a1 n1 k1] (cbW w) (SPost (w.heap.size + 1) w.heap.size w.heap.size E (cbW w) (Px.lookP l ⟨[], 0, 0⟩))) :=
    hl _ _ _ _ _ vs (hs.below (cbW_below w)) (hm.below (cbW_below w)) (cbW_ck g) (fun v hv => by cases hv)
  have HC : Hid (Ck (cbW w) (w.heap.size + 1) w.heap.size w.heap.size E ⟨[], 0, 0⟩) := cbW_ck g
  clear hl hs hm g
  go_enter Tryz.func16, Tryz.ntmps16
  go_wp2_with fail
  refine HB.out.mono ?_
  rintro r w1 ⟨rfl, k1, f1⟩
  generalize Px.lookP l ⟨[], 0, 0⟩ = K at *
  have hb : Hid (Below w.heap.size w w1) := (cbW_below w).trans (HC.out.fr f1)
  obtain ⟨pf, h1, h2, h3, h4, h5⟩ := k1.ex
  obtain ⟨c0, c1, fr⟩ := cells2 h1
  clear k1 f1 h1 h2 h3 h4
  rcases h5 with ⟨h5, rfl⟩ | ⟨h5, f, rfl, h6, h7, h8, h9⟩
  · go_wp2_with fail
    go_ret
    exact ⟨hb.out, _, rfl, Or.inl ⟨h5, rfl⟩⟩
  · have HF : Hid (_) := h9
    clear h9
    go_wp2_with fail
    go_ret
    exact ⟨hb.out, _, rfl, Or.inr ⟨h5, f, rfl, HF.out⟩⟩

end Lg
end Go.Proofs.YtcogbbneodihkaaGreatDoor

/- errors.Is, at the program's own errors. After the guide's worked contracts of errors.Is. -/
namespace Go.Proofs.YtcogbbneodihkaaGreatDoor
open Go.RowKit Go.Extern.Stop Go.Stop Go.Extern
namespace Lg

theorem isTypeOf (v : Value) (w : World) : (Extern.ReflectliteType.typeOf #[.iface 230 v]).run Tryz.prog w = .ok (.iface 116 (.agg #[.pointer (some ⟨14, 230, none⟩)])) w := by kernel_rfl
theorem isComparable (w : World) : ((Extern.ReflectliteType.method fun t => do Extern.Rtype.noPackHeld "Comparable" t; (fun a => Value.bool a.comparable) <$> typeInfo t) #[.agg #[.pointer (some ⟨14, 230, none⟩)]]).run Tryz.prog w = .ok (.bool true) w := by kernel_rfl
theorem isMethodComparable (v : Value) (w : World) : (Go.method 388 116 v "Comparable").run Tryz.prog w = .ok (154, v) w := by kernel_rfl
theorem isComp : (Tryz.prog.info? 230).map (·.comparable) = some true := by kernel_rfl
theorem isSize : (Tryz.prog.info? 232).map (·.size) = some 1 := by kernel_rfl
theorem noIsE (v : Value) (xT : TypeId) (w : World) : (Instr.typeAssert (.iface 230 v) xT 161 true).run Tryz.prog w = .ok (.tuple #[.nilIface, .bool false]) w := run_typeAssert_lacksB Tryz.underlying161 (by kernel_rfl) (by kernel_rfl) v xT w
theorem noUnwrapE (v : Value) (xT : TypeId) (w : World) : (Instr.typeAssert (.iface 230 v) xT 124 true).run Tryz.prog w = .ok (.tuple #[.nilIface, .bool false]) w := run_typeAssert_lacksB Tryz.underlying124 (by kernel_rfl) (by kernel_rfl) v xT w
theorem noUnwrapsE (v : Value) (xT : TypeId) (w : World) : (Instr.typeAssert (.iface 230 v) xT 126 true).run Tryz.prog w = .ok (.tuple #[.nilIface, .bool false]) w := run_typeAssert_lacksB Tryz.underlying126 (by kernel_rfl) (by kernel_rfl) v xT w
theorem noIsF (v : Value) (xT : TypeId) (w : World) : (Instr.typeAssert (.iface 50 v) xT 161 true).run Tryz.prog w = .ok (.tuple #[.nilIface, .bool false]) w := run_typeAssert_lacksB Tryz.underlying161 (by kernel_rfl) (by kernel_rfl) v xT w
theorem hasUnwrapF (v : Value) (xT : TypeId) (w : World) : (Instr.typeAssert (.iface 50 v) xT 124 true).run Tryz.prog w = .ok (.tuple #[.iface 50 v, .bool true]) w := run_typeAssert_hasB Tryz.underlying124 (by kernel_rfl) v xT w
theorem methodUnwrap (v : Value) (w : World) : (Go.method 388 50 v "Unwrap").run Tryz.prog w = .ok (147, v) w := by kernel_rfl

set_option maxRecDepth 100000 in
/-- errors.Is(x, x), x of errors.New's make. -/
theorem is_same (a : Addr) (w : World) :
    Calls Tryz.prog 32 #[.iface 230 (.pointer (some a)), .iface 230 (.pointer (some a))] w fun e w' => e = .returned (.bool true) ∧ w' = w := by
  obtain ⟨i, hi, hcmp⟩ := Option.map_eq_some_iff.1 isComp
  obtain ⟨j, hj, hjs⟩ := Option.map_eq_some_iff.1 isSize
  have h8 := @run_callFunc_extern Tryz.prog 43 _ Extern.ReflectliteType.typeOf Tryz.func43 (by kernel_rfl) (by kernel_rfl) (by kernel_rfl) (by kernel_rfl)
  have h32 := @run_callFunc_extern Tryz.prog 154 _ (Extern.ReflectliteType.method fun t => do Extern.Rtype.noPackHeld "Comparable" t; pure (.bool (← typeInfo t).comparable)) Tryz.func154 (by kernel_rfl) (by kernel_rfl) (by kernel_rfl) (by kernel_rfl)
  have tT := isTypeOf
  have cT := isComparable
  have mR := isMethodComparable
  have heq := run_eql_iface_ptr_same (P := Tryz.prog) w a Tryz.underlying36 Tryz.underlying230 hi hcmp hj
  go_enter Tryz.func32, Tryz.ntmps32
  go_wp2
  refine wp_loop_rounds 1 ?_
  rw [rounds_succ]
  go_wp2
  go_ret
  exact ⟨rfl, rfl⟩

set_option maxRecDepth 100000 in
/-- A fault that bears x. -/
theorem is_fault_same (f : Nat) (b : Addr) (w : World) (h1 : w.cell? ⟨f, 1, none⟩ = some (.iface 230 (.pointer (some b)))) :
    Calls Tryz.prog 32 #[.iface 50 (.pointer (some ⟨f, 0, none⟩)), .iface 230 (.pointer (some b))] w fun e w' => e = .returned (.bool true) ∧ w' = w := by
  obtain ⟨i, hi, hcmp⟩ := Option.map_eq_some_iff.1 isComp
  obtain ⟨j, hj, hjs⟩ := Option.map_eq_some_iff.1 isSize
  have h8 := @run_callFunc_extern Tryz.prog 43 _ Extern.ReflectliteType.typeOf Tryz.func43 (by kernel_rfl) (by kernel_rfl) (by kernel_rfl) (by kernel_rfl)
  have h32 := @run_callFunc_extern Tryz.prog 154 _ (Extern.ReflectliteType.method fun t => do Extern.Rtype.noPackHeld "Comparable" t; pure (.bool (← typeInfo t).comparable)) Tryz.func154 (by kernel_rfl) (by kernel_rfl) (by kernel_rfl) (by kernel_rfl)
  have tT := isTypeOf
  have cT := isComparable
  have mR := isMethodComparable
  have nE := noIsE
  have uE := noUnwrapE
  have vE := noUnwrapsE
  have nW := noIsF
  have uW := hasUnwrapF
  have mU := methodUnwrap
  have heq := run_eql_iface_ptr_same (P := Tryz.prog) w b Tryz.underlying36 Tryz.underlying230 hi hcmp hj
  have hty := run_eql_iface_types (P := Tryz.prog) 50 230 (.pointer (some ⟨f, 0, none⟩)) (.pointer (some b)) Tryz.underlying36 (by decide) w
  go_enter Tryz.func32, Tryz.ntmps32
  go_wp2
  refine wp_loop_rounds 2 ?_
  rw [rounds_succ]
  go_wp2
  rw [rounds_succ]
  go_wp2
  go_ret
  exact ⟨rfl, rfl⟩

set_option maxRecDepth 100000 in
/-- A fault that bears another one. -/
theorem is_fault_other (f : Nat) (b a : Addr) (ca cb : Array Value) (ta tb : TypeId) (w : World) (h1 : w.cell? ⟨f, 1, none⟩ = some (.iface 230 (.pointer (some a)))) (hne : a ≠ b) (ha : w.heap[a.block]? = some (.cells ca ta (0, 0))) (hb : w.heap[b.block]? = some (.cells cb tb (0, 0))) :
    Calls Tryz.prog 32 #[.iface 50 (.pointer (some ⟨f, 0, none⟩)), .iface 230 (.pointer (some b))] w fun e w' => e = .returned (.bool false) ∧ w' = w := by
  obtain ⟨i, hi, hcmp⟩ := Option.map_eq_some_iff.1 isComp
  obtain ⟨j, hj, hjs⟩ := Option.map_eq_some_iff.1 isSize
  have h8 := @run_callFunc_extern Tryz.prog 43 _ Extern.ReflectliteType.typeOf Tryz.func43 (by kernel_rfl) (by kernel_rfl) (by kernel_rfl) (by kernel_rfl)
  have h32 := @run_callFunc_extern Tryz.prog 154 _ (Extern.ReflectliteType.method fun t => do Extern.Rtype.noPackHeld "Comparable" t; pure (.bool (← typeInfo t).comparable)) Tryz.func154 (by kernel_rfl) (by kernel_rfl) (by kernel_rfl) (by kernel_rfl)
  have tT := isTypeOf
  have cT := isComparable
  have mR := isMethodComparable
  have nE := noIsE
  have uE := noUnwrapE
  have vE := noUnwrapsE
  have nW := noIsF
  have uW := hasUnwrapF
  have mU := methodUnwrap
  have heq := run_eql_iface_ptr_other (P := Tryz.prog) w Tryz.underlying36 Tryz.underlying230 hi hcmp hj (by rw [hjs]; decide) hne ha hb
  have hty := run_eql_iface_types (P := Tryz.prog) 50 230 (.pointer (some ⟨f, 0, none⟩)) (.pointer (some b)) Tryz.underlying36 (by decide) w
  go_enter Tryz.func32, Tryz.ntmps32
  go_wp2
  refine wp_loop_rounds 2 ?_
  rw [rounds_succ]
  go_wp2
  rw [rounds_succ]
  go_wp2
  go_ret
  exact ⟨rfl, rfl⟩

end Lg
end Go.Proofs.YtcogbbneodihkaaGreatDoor

/- errors.As, at the program's faults. After the guide's worked contracts of errors.As. -/
namespace Go.Proofs.YtcogbbneodihkaaGreatDoor
open Go.RowKit Go.Extern.Stop Go.Stop Go.Extern
namespace Lg

theorem as_nil (t : Value) (w : World) :
    Calls Tryz.prog 17 #[.nilIface, t] w fun e w' => e = .returned (.bool false) ∧ w' = w := by
  go_enter Tryz.func17, Tryz.ntmps17
  go_wp2
  go_ret
  exact ⟨rfl, rfl⟩

theorem valueOfPP (t : Addr) (w : World) : (ReflectliteValue.unpack (.iface 52 (.pointer (some t)))).run Tryz.prog w
    = .ok (.agg #[.pointer (some ⟨14, 52, none⟩), .pointer (some ⟨w.heap.size, 0, none⟩), .int .u64 150]) (w.alloc (.cells #[.pointer (some t)] 52)) := by kernel_rfl
theorem typePP (a : Addr) (w : World) : (ReflectliteValue.methodAny (ReflectliteValue.valueError "reflectlite.Value.Type" 0) (fun t _ _ _ => ReflectliteType.toType t) #[.agg #[.pointer (some ⟨14, 52, none⟩), .pointer (some a), .int .u64 150]]).run Tryz.prog w
    = .ok (.iface 116 (.agg #[.pointer (some ⟨14, 52, none⟩)])) w := by kernel_rfl
theorem methodKind (h : Value) (w : World) : (Go.method 388 116 (.agg #[h]) "Kind").run Tryz.prog w = .ok (143, h) w := by kernel_rfl
theorem kindPP (w : World) : ((ReflectliteType.abiMethod fun t => (fun a : Nat => Value.int IntKind.u8 (a : Int)) <$> Rtype.kind t) #[.pointer (some ⟨14, 52, none⟩)]).run Tryz.prog w = .ok (.int .u8 22) w := by kernel_rfl
theorem kindP1 (w : World) : ((ReflectliteType.abiMethod fun t => (fun a : Nat => Value.int IntKind.u8 (a : Int)) <$> Rtype.kind t) #[.pointer (some ⟨14, 50, none⟩)]).run Tryz.prog w = .ok (.int .u8 22) w := by kernel_rfl
theorem partsPP (a : Addr) (w : World) : (ReflectliteValue.parts (.agg #[.pointer (some ⟨14, 52, none⟩), .pointer (some a), .int .u64 150])).run Tryz.prog w = .ok (some (52, a, 150)) w := by kernel_rfl
theorem method_parts (z : Sem Value) (f : TypeId → Addr → Nat → Nat → Sem Value) (v : Value) : ∃ R : Option (TypeId × Addr × Nat) → Sem Value, ReflectliteValue.method z f #[v] = (ReflectliteValue.parts v >>= R) ∧ ∀ t a fl, R (some (t, a, fl)) = f t a fl (fl % 32) := ⟨_, rfl, fun _ _ _ => rfl⟩
theorem set_parts (v x : Value) : ∃ R : Option (TypeId × Addr × Nat) → Option (TypeId × Addr × Nat) → Sem Value, ReflectliteValue.set #[v, x] = (ReflectliteValue.parts v >>= fun a => ReflectliteValue.parts x >>= fun b => R a b) ∧
    ∀ ta b, ∃ S : Value → Bool → Sem Value, R (some (50, ta, 406)) (some (50, b, 150)) = (loadVar 50 b >>= fun val => Rtype.directlyAssignable 50 50 >>= fun c => S val c) ∧
      ∀ val, S val true = (storeVar 50 ta val >>= fun _ => pure (.tuple #[])) := ⟨_, rfl, fun _ _ => ⟨_, rfl, fun _ => rfl⟩⟩
theorem isNilPP (a p : Addr) (W : World) (ha : W.cell? a = some (.pointer (some p))) :
    (ReflectliteValue.method (ReflectliteValue.valueError "reflectlite.Value.IsNil" 0) ReflectliteValue.isNil #[.agg #[.pointer (some ⟨14, 52, none⟩), .pointer (some a), .int .u64 150]]).run Tryz.prog W = .ok (.bool false) W := by
  obtain ⟨R, h1, h2⟩ := method_parts (ReflectliteValue.valueError "reflectlite.Value.IsNil" 0) ReflectliteValue.isNil (.agg #[.pointer (some ⟨14, 52, none⟩), .pointer (some a), .int .u64 150])
  rw [h1]
  simp only [Sem.run_bind, partsPP, Result.andThen, h2]
  simp [ReflectliteValue.isNil, loadVar, isAgg, underlying, Tryz.underlying52, ha, Result.andThen]
theorem methodElem (h : Value) (w : World) : (Go.method 388 116 (.agg #[h]) "Elem").run Tryz.prog w = .ok (155, .agg #[h]) w := by kernel_rfl
theorem methodImplements (h : Value) (w : World) : (Go.method 388 116 (.agg #[h]) "Implements").run Tryz.prog w = .ok (156, .agg #[h]) w := by kernel_rfl
theorem methodAssignableTo (h : Value) (w : World) : (Go.method 388 116 (.agg #[h]) "AssignableTo").run Tryz.prog w = .ok (153, .agg #[h]) w := by kernel_rfl
theorem elemPP (w : World) : (ReflectliteType.method ReflectliteType.elem #[.agg #[.pointer (some ⟨14, 52, none⟩)]]).run Tryz.prog w = .ok (.iface 116 (.agg #[.pointer (some ⟨14, 50, none⟩)])) w := by kernel_rfl
theorem implementsP (w : World) : (ReflectliteType.relation "Implements" ReflectliteType.implements_ #[.agg #[.pointer (some ⟨14, 50, none⟩)], .iface 116 (.agg #[.pointer (some ⟨14, 36, none⟩)])]).run Tryz.prog w = .ok (.bool true) w := by kernel_rfl
theorem typeOfP (v : Value) (w : World) : (ReflectliteType.typeOf #[.iface 50 v]).run Tryz.prog w = .ok (.iface 116 (.agg #[.pointer (some ⟨14, 50, none⟩)])) w := by kernel_rfl
theorem assignableP (w : World) : (ReflectliteType.relation "AssignableTo" ReflectliteType.assignableTo #[.agg #[.pointer (some ⟨14, 50, none⟩)], .iface 116 (.agg #[.pointer (some ⟨14, 50, none⟩)])]).run Tryz.prog w = .ok (.bool true) w := by kernel_rfl
theorem assignableE (w : World) : (ReflectliteType.relation "AssignableTo" ReflectliteType.assignableTo #[.agg #[.pointer (some ⟨14, 230, none⟩)], .iface 116 (.agg #[.pointer (some ⟨14, 50, none⟩)])]).run Tryz.prog w = .ok (.bool false) w := by kernel_rfl
theorem valueOfP (e : Addr) (w : World) : (ReflectliteValue.unpack (.iface 50 (.pointer (some e)))).run Tryz.prog w
    = .ok (.agg #[.pointer (some ⟨14, 50, none⟩), .pointer (some ⟨w.heap.size, 0, none⟩), .int .u64 150]) (w.alloc (.cells #[.pointer (some e)] 50)) := by kernel_rfl
theorem elemOfPP (w : World) : (Rtype.elem? 52).run Tryz.prog w = .ok (some 50) w := by kernel_rfl
theorem mkP (p : Addr) (w : World) : (ReflectliteValue.mk 50 p ReflectliteValue.flagAddr).run Tryz.prog w = .ok (.agg #[.pointer (some ⟨14, 50, none⟩), .pointer (some p), .int .u64 406]) w := by kernel_rfl
theorem elemVPP (a p : Addr) (W : World) (ha : W.cell? a = some (.pointer (some p))) :
    (ReflectliteValue.method (ReflectliteValue.valueError "reflectlite.Value.Elem" 0) ReflectliteValue.elem #[.agg #[.pointer (some ⟨14, 52, none⟩), .pointer (some a), .int .u64 150]]).run Tryz.prog W
      = .ok (.agg #[.pointer (some ⟨14, 50, none⟩), .pointer (some p), .int .u64 406]) W := by
  obtain ⟨R, h1, h2⟩ := method_parts (ReflectliteValue.valueError "reflectlite.Value.Elem" 0) ReflectliteValue.elem (.agg #[.pointer (some ⟨14, 52, none⟩), .pointer (some a), .int .u64 150])
  rw [h1]
  simp only [Sem.run_bind, partsPP, Result.andThen, h2]
  simp [ReflectliteValue.elem, loadVar, isAgg, underlying, Tryz.underlying52, ha, Result.andThen, elemOfPP, mkP]
theorem partsPa (a : Addr) (w : World) : (ReflectliteValue.parts (.agg #[.pointer (some ⟨14, 50, none⟩), .pointer (some a), .int .u64 406])).run Tryz.prog w = .ok (some (50, a, 406)) w := by kernel_rfl
theorem partsP (a : Addr) (w : World) : (ReflectliteValue.parts (.agg #[.pointer (some ⟨14, 50, none⟩), .pointer (some a), .int .u64 150])).run Tryz.prog w = .ok (some (50, a, 150)) w := by kernel_rfl
theorem directP (w : World) : (Rtype.directlyAssignable 50 50).run Tryz.prog w = .ok true w := by kernel_rfl
theorem setP (ta b e : Addr) (old : Value) (W : World) (hb : W.cell? b = some (.pointer (some e))) (ht : W.cell? ta = some old) (hf : W.frozen? ta = false) :
    (ReflectliteValue.set #[.agg #[.pointer (some ⟨14, 50, none⟩), .pointer (some ta), .int .u64 406], .agg #[.pointer (some ⟨14, 50, none⟩), .pointer (some b), .int .u64 150]]).run Tryz.prog W
      = .ok (.tuple #[]) (W.setCell ta (.pointer (some e))) := by
  obtain ⟨R, h1, h2⟩ := set_parts (.agg #[.pointer (some ⟨14, 50, none⟩), .pointer (some ta), .int .u64 406]) (.agg #[.pointer (some ⟨14, 50, none⟩), .pointer (some b), .int .u64 150])
  obtain ⟨S, h3, h4⟩ := h2 ta b
  rw [h1]
  simp only [Sem.run_bind, partsPa, partsP, Result.andThen, h3, directP, h4]
  simp [loadVar, isAgg, underlying, Tryz.underlying50, hb, Result.andThen, storeVar, Value.cells, storeCells, Addr.add]
  rw [run_store Tryz.prog W ta _ _ (by rfl)]
  simp [ht, hf]
theorem noAsE (v : Value) (xT : TypeId) (w : World) : (Instr.typeAssert (.iface 230 v) xT 121 true).run Tryz.prog w = .ok (.tuple #[.nilIface, .bool false]) w := run_typeAssert_lacksB Tryz.underlying121 (by kernel_rfl) (by kernel_rfl) v xT w

end Lg
end Go.Proofs.YtcogbbneodihkaaGreatDoor

namespace Go.Proofs.YtcogbbneodihkaaGreatDoor
open Go.RowKit Go.Extern.Stop Go.Stop Go.Extern
namespace Lg

def asV (w : World) : Obj := .cells #[.pointer (some ⟨14, 52, none⟩), .pointer (some ⟨w.heap.size, 0, none⟩), .int .u64 150] 83

set_option maxRecDepth 100000 in
set_option maxHeartbeats 4000000 in
/-- The error is a fault: it is handed out. -/
theorem as_hit (e t : Addr) (old : Value) (w : World) (hg : w.cell? ⟨2, 0, none⟩ = some (.iface 116 (.agg #[.pointer (some ⟨14, 36, none⟩)]))) (ht0 : w.cell? t = some old) (hf0 : w.frozen? t = false) :
    Calls Tryz.prog 17 #[.iface 50 (.pointer (some e)), .iface 52 (.pointer (some t))] w fun ev w' => ev = .returned (.bool true) ∧ w' = ((((w.alloc (.cells #[.pointer (some t)] 52)).alloc (asV w)).alloc (asV w)).alloc (.cells #[.pointer (some e)] 50)).setCell t (.pointer (some e)) := by
  have h6 := @run_callFunc_extern Tryz.prog 28 _ (fun args => ReflectliteValue.unpack (args.getD 0 (.tuple #[]))) Tryz.func28 (by kernel_rfl) (by kernel_rfl) (by kernel_rfl) (by kernel_rfl)
  have h7 := @run_callFunc_extern Tryz.prog 29 _ (ReflectliteValue.methodAny (ReflectliteValue.valueError "reflectlite.Value.Type" 0) (fun t _ _ _ => ReflectliteType.toType t)) Tryz.func29 (by kernel_rfl) (by kernel_rfl) (by kernel_rfl) (by kernel_rfl)
  have h8 := @run_callFunc_extern Tryz.prog 30 _ (ReflectliteValue.method (ReflectliteValue.valueError "reflectlite.Value.IsNil" 0) ReflectliteValue.isNil) Tryz.func30 (by kernel_rfl) (by kernel_rfl) (by kernel_rfl) (by kernel_rfl)
  have h27 := @run_callFunc_extern Tryz.prog 143 _ (ReflectliteType.abiMethod fun t => do pure (.int .u8 (← Rtype.kind t))) Tryz.func143 (by kernel_rfl) (by kernel_rfl) (by kernel_rfl) (by kernel_rfl)
  have h37 := @run_callFunc_extern Tryz.prog 155 _ (ReflectliteType.method ReflectliteType.elem) Tryz.func155 (by kernel_rfl) (by kernel_rfl) (by kernel_rfl) (by kernel_rfl)
  have h38 := @run_callFunc_extern Tryz.prog 156 _ (ReflectliteType.relation "Implements" ReflectliteType.implements_) Tryz.func156 (by kernel_rfl) (by kernel_rfl) (by kernel_rfl) (by kernel_rfl)
  have h10 := @run_callFunc_extern Tryz.prog 43 _ ReflectliteType.typeOf Tryz.func43 (by kernel_rfl) (by kernel_rfl) (by kernel_rfl) (by kernel_rfl)
  have h35 := @run_callFunc_extern Tryz.prog 153 _ (ReflectliteType.relation "AssignableTo" ReflectliteType.assignableTo) Tryz.func153 (by kernel_rfl) (by kernel_rfl) (by kernel_rfl) (by kernel_rfl)
  have h11 := @run_callFunc_extern Tryz.prog 44 _ (ReflectliteValue.method (ReflectliteValue.valueError "reflectlite.Value.Elem" 0) ReflectliteValue.elem) Tryz.func44 (by kernel_rfl) (by kernel_rfl) (by kernel_rfl) (by kernel_rfl)
  have h12 := @run_callFunc_extern Tryz.prog 45 _ ReflectliteValue.set Tryz.func45 (by kernel_rfl) (by kernel_rfl) (by kernel_rfl) (by kernel_rfl)
  have tO := typeOfP
  have mA := methodAssignableTo
  have a25 := assignableP
  have v25 := valueOfP
  have f6 := valueOfPP
  have f7 := typePP
  have mK := methodKind
  have mE := methodElem
  have mI := methodImplements
  have k27 := kindPP
  have k25 := kindP1
  have e27 := elemPP
  have i25 := implementsP
  have n8 := isNilPP ⟨w.heap.size, 0, none⟩ t ((w.alloc (.cells #[.pointer (some t)] 52)).alloc (asV w)) (by simp [asV])
  have hlt : 2 < w.heap.size := by
    rcases Nat.lt_or_ge 2 w.heap.size with h | h
    · exact h
    · have : w.heap[2]? = none := by simp [h]
      simp [World.cell?, this] at hg
  have hg2 : ((w.alloc (.cells #[.pointer (some t)] 52)).alloc (asV w)).cell? ⟨2, 0, none⟩ = some (.iface 116 (.agg #[.pointer (some ⟨14, 36, none⟩)])) := by
    rw [World.cell?_alloc_lt _ _ ⟨2, 0, none⟩ (by simp; omega), World.cell?_alloc_lt _ _ ⟨2, 0, none⟩ hlt]; exact hg
  have htl : t.block < w.heap.size := by
    rcases Nat.lt_or_ge t.block w.heap.size with h | h
    · exact h
    · simp [World.cell?, Array.getElem?_eq_none h] at ht0
  have el := elemVPP ⟨w.heap.size, 0, none⟩ t (((w.alloc (.cells #[.pointer (some t)] 52)).alloc (asV w)).alloc (asV w)) (by rw [World.cell?_alloc_lt _ _ ⟨w.heap.size, 0, none⟩ (by simp; omega)]; simp [asV])
  have st := setP t ⟨w.heap.size + 1 + 1 + 1, 0, none⟩ e old ((((w.alloc (.cells #[.pointer (some t)] 52)).alloc (asV w)).alloc (asV w)).alloc (.cells #[.pointer (some e)] 50))
    (by rw [World.cell?_alloc_at _ _ _ _ (by simp)]; rfl)
    (by rw [World.cell?_alloc_lt _ _ t (by simp; omega), World.cell?_alloc_lt _ _ t (by simp; omega), World.cell?_alloc_lt _ _ t (by simp; omega), World.cell?_alloc_lt _ _ t htl]; exact ht0)
    (by rw [World.frozen?_alloc_old _ _ t (by simp; omega), World.frozen?_alloc_old _ _ t (by simp; omega), World.frozen?_alloc_old _ _ t (by simp; omega), World.frozen?_alloc_old _ _ t (Nat.ne_of_lt htl)]; exact hf0)
  unfold asV at *
  go_enter Tryz.func17, Tryz.ntmps17
  go_wp2
  refine wp_loop_rounds 1 ?_
  rw [rounds_succ]
  go_wp2
  go_ret
  exact ⟨rfl, rfl⟩

set_option maxRecDepth 100000 in
set_option maxHeartbeats 4000000 in
/-- The error is none of the faults. -/
theorem as_miss (e t : Addr) (w : World) (hg : w.cell? ⟨2, 0, none⟩ = some (.iface 116 (.agg #[.pointer (some ⟨14, 36, none⟩)]))) :
    Calls Tryz.prog 17 #[.iface 230 (.pointer (some e)), .iface 52 (.pointer (some t))] w fun ev w' => ev = .returned (.bool false) ∧ w' = (((w.alloc (.cells #[.pointer (some t)] 52)).alloc (asV w)).alloc (asV w)) := by
  have h6 := @run_callFunc_extern Tryz.prog 28 _ (fun args => ReflectliteValue.unpack (args.getD 0 (.tuple #[]))) Tryz.func28 (by kernel_rfl) (by kernel_rfl) (by kernel_rfl) (by kernel_rfl)
  have h7 := @run_callFunc_extern Tryz.prog 29 _ (ReflectliteValue.methodAny (ReflectliteValue.valueError "reflectlite.Value.Type" 0) (fun t _ _ _ => ReflectliteType.toType t)) Tryz.func29 (by kernel_rfl) (by kernel_rfl) (by kernel_rfl) (by kernel_rfl)
  have h8 := @run_callFunc_extern Tryz.prog 30 _ (ReflectliteValue.method (ReflectliteValue.valueError "reflectlite.Value.IsNil" 0) ReflectliteValue.isNil) Tryz.func30 (by kernel_rfl) (by kernel_rfl) (by kernel_rfl) (by kernel_rfl)
  have h27 := @run_callFunc_extern Tryz.prog 143 _ (ReflectliteType.abiMethod fun t => do pure (.int .u8 (← Rtype.kind t))) Tryz.func143 (by kernel_rfl) (by kernel_rfl) (by kernel_rfl) (by kernel_rfl)
  have h37 := @run_callFunc_extern Tryz.prog 155 _ (ReflectliteType.method ReflectliteType.elem) Tryz.func155 (by kernel_rfl) (by kernel_rfl) (by kernel_rfl) (by kernel_rfl)
  have h38 := @run_callFunc_extern Tryz.prog 156 _ (ReflectliteType.relation "Implements" ReflectliteType.implements_) Tryz.func156 (by kernel_rfl) (by kernel_rfl) (by kernel_rfl) (by kernel_rfl)
  have h10 := @run_callFunc_extern Tryz.prog 43 _ ReflectliteType.typeOf Tryz.func43 (by kernel_rfl) (by kernel_rfl) (by kernel_rfl) (by kernel_rfl)
  have h35 := @run_callFunc_extern Tryz.prog 153 _ (ReflectliteType.relation "AssignableTo" ReflectliteType.assignableTo) Tryz.func153 (by kernel_rfl) (by kernel_rfl) (by kernel_rfl) (by kernel_rfl)
  have tO := isTypeOf
  have mA := methodAssignableTo
  have aE := assignableE
  have f6 := valueOfPP
  have f7 := typePP
  have mK := methodKind
  have mE := methodElem
  have mI := methodImplements
  have k27 := kindPP
  have k25 := kindP1
  have e27 := elemPP
  have i25 := implementsP
  have nE := noAsE
  have uE := noUnwrapE
  have vE := noUnwrapsE
  have n8 := isNilPP ⟨w.heap.size, 0, none⟩ t ((w.alloc (.cells #[.pointer (some t)] 52)).alloc (asV w)) (by simp [asV])
  have hlt : 2 < w.heap.size := by
    rcases Nat.lt_or_ge 2 w.heap.size with h | h
    · exact h
    · have : w.heap[2]? = none := by simp [h]
      simp [World.cell?, this] at hg
  have hg2 : ((w.alloc (.cells #[.pointer (some t)] 52)).alloc (asV w)).cell? ⟨2, 0, none⟩ = some (.iface 116 (.agg #[.pointer (some ⟨14, 36, none⟩)])) := by
    rw [World.cell?_alloc_lt _ _ ⟨2, 0, none⟩ (by simp; omega), World.cell?_alloc_lt _ _ ⟨2, 0, none⟩ hlt]; exact hg
  unfold asV at *
  go_enter Tryz.func17, Tryz.ntmps17
  go_wp2
  refine wp_loop_rounds 1 ?_
  rw [rounds_succ]
  go_wp2
  go_ret
  exact ⟨rfl, rfl⟩

end Lg
end Go.Proofs.YtcogbbneodihkaaGreatDoor
