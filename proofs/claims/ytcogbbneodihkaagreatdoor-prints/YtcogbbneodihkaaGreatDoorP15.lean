import Derived.Test.YtcogbbneodihkaaGreatDoorP10
import Derived.Test.YtcogbbneodihkaaGreatDoorP11
import Derived.Test.YtcogbbneodihkaaGreatDoorP12
import Derived.Test.YtcogbbneodihkaaGreatDoorP13
import Derived.Test.YtcogbbneodihkaaGreatDoorP14
import Derived.Test.YtcogbbneodihkaaGreatDoorP08
import Derived.Test.YtcogbbneodihkaaGreatDoorP04
import Derived.Deep.DeepCutAuto
namespace Go.Proofs.YtcogbbneodihkaaGreatDoor
open Go.RowKit
namespace Lg

theorem pair_kind (c m B : Nat) (E : Nat → Addr) (op n : Nat) (word : ByteArray) (pl own : Nat) (l r : Px.Ex) (hop : Op7 op) (ihl : KindOk c m B E l) (ihr : KindOk c m B E r) (K : Px.Lk) (w : World) (q tl ql tr qr : Nat) (hq : q < B)
    (hc : w.heap[q]? = some (.cells #[.int .i64 (opIx op : Int), .iface tl (Ref.ptr ql), .iface tr (Ref.ptr qr), .int .i64 (own : Int)] 200)) (hx : XAt w l (· < B) (.iface tl (Ref.ptr ql))) (hy : XAt w r (· < B) (.iface tr (Ref.ptr qr))) (h : Ck w c m B E K) (hv : Px.V3 K) :
    Calls Tryz.prog 186 #[.pointer (some ⟨q, 0, none⟩), .pointer (some ⟨c, 0, none⟩)] w (KPost c m B E w (Px.kindP ⟨op, n, word, pl, own, some l, some r⟩ K)) := by
  have ht := hx.ty
  unfold Ty5 at ht
  rcases ht with rfl | rfl | rfl | rfl | rfl
  · exact pair_kind_num c m B E op n word pl own l r hop ihl ihr K w q ql tr qr hq hc hx hy h hv
  · exact pair_kind_var c m B E op n word pl own l r hop ihl ihr K w q ql tr qr hq hc hx hy h hv
  · exact pair_kind_tru c m B E op n word pl own l r hop ihl ihr K w q ql tr qr hq hc hx hy h hv
  · exact pair_kind_nots c m B E op n word pl own l r hop ihl ihr K w q ql tr qr hq hc hx hy h hv
  · exact pair_kind_pair c m B E op n word pl own l r hop ihl ihr K w q ql tr qr hq hc hx hy h hv

/-- Every expr that the language makes. -/
theorem kind_ok (c m B : Nat) (E : Nat → Addr) (x : Px.Ex) (hw : Px.WfE x) : KindOk c m B E x := by
  match x, hw with
  | ⟨op, n, word, pl, own, none, none⟩, _ =>
    intro K w tl ql hx h hv
    obtain ⟨q, hq, ⟨h2, h3, h4⟩ | ⟨h2, h3, h4⟩ | ⟨h2, h3, h4⟩⟩ := hx
    · cases h3; subst h2
      have hk : Px.kindP ⟨110, n, word, pl, own, none, none⟩ K = (105, K) := by simp only [Px.kindP, Px.leafP, if_true]
      rw [hk]
      exact Or.inl ⟨rfl, number_kind c m B _ E K w h⟩
    · cases h3; subst h2
      have hk : Px.kindP ⟨119, n, word, pl, own, none, none⟩ K = (match Px.findV K.vars word with
        | none => (63, Px.noteP 5 own K)
        | some i => (Px.kindAt K.vars i, K)) := by
        simp only [Px.kindP, Px.leafP, if_neg (by decide : ¬(119 : Nat) = 110), if_neg (by decide : ¬(119 : Nat) = 116)]
        cases Px.findV K.vars word <;> rfl
      rw [hk]
      exact Or.inr (Or.inl ⟨rfl, variable_kind c m B _ own word E K w h ⟨hq, h4⟩⟩)
    · cases h3; subst h2
      have hk : Px.kindP ⟨116, n, word, pl, own, none, none⟩ K = (98, K) := by simp only [Px.kindP, Px.leafP, if_true, if_neg (by decide : ¬(116 : Nat) = 110)]
      rw [hk]
      exact Or.inr (Or.inr (Or.inl ⟨rfl, truth_kind c m B _ E K w h⟩))
  | ⟨op, n, word, pl, own, some l, none⟩, hw =>
    intro K w tl ql hx h hv
    obtain ⟨_, q, tl', ql', hq, h2, h3, h4⟩ := hx
    cases h2
    exact Or.inr (Or.inr (Or.inr (Or.inl ⟨rfl, not_kind c m B E op n word pl own l (kind_ok c m B E l hw.2) K w _ tl' ql' hq h3 h4 h hv⟩)))
  | ⟨op, n, word, pl, own, some l, some r⟩, hw =>
    intro K w tl ql hx h hv
    obtain ⟨q, tl', ql', tr, qr, hq, h2, h3, h4, h5⟩ := hx
    cases h2
    exact Or.inr (Or.inr (Or.inr (Or.inr ⟨rfl, pair_kind c m B E op n word pl own l r hw.1 (kind_ok c m B E l hw.2.1) (kind_ok c m B E r hw.2.2) K w _ tl' ql' tr qr hq h3 h4 h5 h hv⟩)))
  | ⟨_, _, _, _, _, none, some _⟩, hw => exact hw.elim

end Lg
end Go.Proofs.YtcogbbneodihkaaGreatDoor

namespace Go.Proofs.YtcogbbneodihkaaGreatDoor
open Go.RowKit
namespace Lg

set_option maxRecDepth 100000 in
set_option maxHeartbeats 4000000 in
theorem let_check (c m B q qv tl ql p : Nat) (x : ByteArray) (E : Nat → Addr) (e : Px.Ex) (ie : KindOk c m B E e) (K : Px.Lk) (w : World) (hq : q < B) (hc : w.heap[q]? = some (.cells #[Ref.ptr qv, .iface tl (Ref.ptr ql)] 177)) (hx : VarAt w x p (· < B) qv) (he : XAt w e (· < B) (.iface tl (Ref.ptr ql))) (h : Ck w c m B E K) (hv : Px.V3 K) :
    Calls Tryz.prog 163 #[.pointer (some ⟨q, 0, none⟩), .pointer (some ⟨c, 0, none⟩)] w (SPost c m B E w (Px.giveP x p (Px.kindP e K).1 (Px.kindP e K).2)) := by
  have ht := he.ty
  unfold Ref.ptr at hc
  obtain ⟨c0, c1, fr⟩ := cells2 hc
  have CQ : Hid (∀ W, Fr c m w W → W.heap[q]? = some (.cells #[.pointer (some ⟨qv, 0, none⟩), .iface tl (.pointer (some ⟨ql, 0, none⟩))] 177)) := fun W hW => by rw [(h.fr hW).block q hq]; exact hc
  have C0 : Hid (KindC w.drew c tl ql (KPost c m B E w.drew (Px.kindP e K))) := ie K _ tl ql he.drew h.drew hv
  have C1 : Hid (∀ W, Fr c m w W → Ck W c m B E (Px.kindP e K).2 → Calls Tryz.prog 165 #[.pointer (some ⟨c, 0, none⟩), .pointer (some ⟨qv, 0, none⟩), .int .i64 (kk (Px.kindP e K).1 : Int)] W (SPost c m B E W (Px.giveP x p (Px.kindP e K).1 (Px.kindP e K).2))) := fun W hW hK => give_any c m B qv p _ x E _ W hK (hx.keep fun i hi => (h.fr hW).block i hi) (Px.kindP_k3 e K hv) (Px.kindP_v3 hv)
  have m1 := mNum
  have m2 := mVar
  have m3 := mTru
  have m4 := mNot
  have m5 := mPair
  clear ie hx he h hc
  unfold Ty5 at ht
  go_enter Tryz.func163, Tryz.ntmps163
  go_wp2_with fail
  rcases ht with rfl | rfl | rfl | rfl | rfl
  · go_region_with (first
      | (go_at_call 181; refine C0.out.num.mono ?_; rintro r w1 ⟨rfl, k1, f1⟩; obtain ⟨e0, e1, fe⟩ := cells2 (CQ.out w1 ((Fr.refl c m w).drew.trans f1)); have K1 : Hid (Ck w1 c m B E (Px.kindP e K).2 ∧ Fr c m w w1) := ⟨k1, (Fr.refl c m w).drew.trans f1⟩; clear k1 f1)
      | (go_at_call 165; refine (C1.out _ K1.out.2 K1.out.1).mono ?_; rintro r w2 ⟨rfl, k2, f2⟩))
    all_goals
      go_wp2_with fail
      go_end0
      exact ⟨rfl, k2, K1.out.2.trans f2⟩
  · go_region_with (first
      | (go_at_call 184; refine C0.out.var.mono ?_; rintro r w1 ⟨rfl, k1, f1⟩; obtain ⟨e0, e1, fe⟩ := cells2 (CQ.out w1 ((Fr.refl c m w).drew.trans f1)); have K1 : Hid (Ck w1 c m B E (Px.kindP e K).2 ∧ Fr c m w w1) := ⟨k1, (Fr.refl c m w).drew.trans f1⟩; clear k1 f1)
      | (go_at_call 165; refine (C1.out _ K1.out.2 K1.out.1).mono ?_; rintro r w2 ⟨rfl, k2, f2⟩))
    all_goals
      go_wp2_with fail
      go_end0
      exact ⟨rfl, k2, K1.out.2.trans f2⟩
  · go_region_with (first
      | (go_at_call 193; refine C0.out.tru.mono ?_; rintro r w1 ⟨rfl, k1, f1⟩; obtain ⟨e0, e1, fe⟩ := cells2 (CQ.out w1 ((Fr.refl c m w).drew.trans f1)); have K1 : Hid (Ck w1 c m B E (Px.kindP e K).2 ∧ Fr c m w w1) := ⟨k1, (Fr.refl c m w).drew.trans f1⟩; clear k1 f1)
      | (go_at_call 165; refine (C1.out _ K1.out.2 K1.out.1).mono ?_; rintro r w2 ⟨rfl, k2, f2⟩))
    all_goals
      go_wp2_with fail
      go_end0
      exact ⟨rfl, k2, K1.out.2.trans f2⟩
  · go_region_with (first
      | (go_at_call 197; refine C0.out.nots.mono ?_; rintro r w1 ⟨rfl, k1, f1⟩; obtain ⟨e0, e1, fe⟩ := cells2 (CQ.out w1 ((Fr.refl c m w).drew.trans f1)); have K1 : Hid (Ck w1 c m B E (Px.kindP e K).2 ∧ Fr c m w w1) := ⟨k1, (Fr.refl c m w).drew.trans f1⟩; clear k1 f1)
      | (go_at_call 165; refine (C1.out _ K1.out.2 K1.out.1).mono ?_; rintro r w2 ⟨rfl, k2, f2⟩))
    all_goals
      go_wp2_with fail
      go_end0
      exact ⟨rfl, k2, K1.out.2.trans f2⟩
  · go_region_with (first
      | (go_at_call 186; refine C0.out.pair.mono ?_; rintro r w1 ⟨rfl, k1, f1⟩; obtain ⟨e0, e1, fe⟩ := cells2 (CQ.out w1 ((Fr.refl c m w).drew.trans f1)); have K1 : Hid (Ck w1 c m B E (Px.kindP e K).2 ∧ Fr c m w w1) := ⟨k1, (Fr.refl c m w).drew.trans f1⟩; clear k1 f1)
      | (go_at_call 165; refine (C1.out _ K1.out.2 K1.out.1).mono ?_; rintro r w2 ⟨rfl, k2, f2⟩))
    all_goals
      go_wp2_with fail
      go_end0
      exact ⟨rfl, k2, K1.out.2.trans f2⟩

end Lg
end Go.Proofs.YtcogbbneodihkaaGreatDoor

namespace Go.Proofs.YtcogbbneodihkaaGreatDoor
open Go.RowKit
namespace Lg

theorem check_ok (c m B : Nat) (E : Nat → Addr) (x : Px.Sm) (hw : Px.WfH x) (i1 : BlockOk c m B E x.one) (i2 : BlockOk c m B E x.two) : CheckOk c m B E x := by
  intro K w tl ql hs h hv
  obtain ⟨v1, v2, u1, u2, ⟨q, hq, hnd⟩, s1, l1, s2, l2⟩ := hs
  rcases hnd with ⟨h0, h1, qv, tl', ql', e, h2, h3, h4, h5⟩ | ⟨h0, h1, pa, ps, qn, h2, h3, h4, h5⟩ | ⟨h0, h1, qr, e, h2, h3, h4⟩ | ⟨h0, h1, h2⟩ | ⟨h0, h1, qn, h2, h3⟩ | ⟨h0, h1⟩
  · cases h1
    have hx : Px.lookX' x K = Px.giveP x.word x.pl (Px.kindP e K).1 (Px.kindP e K).2 := by unfold Px.lookX'; rw [if_pos h0, h4]
    rw [hx]
    exact Or.inl ⟨rfl, let_check c m B _ qv tl' ql' x.pl x.word E e (kind_ok c m B E e (hw.1 e h4)) K w hq h2 h3 h5 h hv⟩
  · cases h1
    have hx : Px.lookX' x K = Px.countP x.n x.nPl 1 5 (Px.asP x.asw x.asPl (Px.argP x.ex K)) := by unfold Px.lookX'; rw [if_neg (by omega), if_pos h0]
    rw [hx]
    exact Or.inr (Or.inl ⟨rfl, call_check c m B _ qn x.n x.nPl x.asPl x.word x.undo x.asw pa ps E x.ex (fun e he => kind_ok c m B E e (hw.1 e he)) K w hq h2 h3 h4 h5 h hv⟩)
  · cases h1
    have hx : Px.lookX' x K = Px.lookP x.two (Px.lookP x.one (Px.rootP e 98 K)) := by unfold Px.lookX'; rw [if_neg (by omega), if_neg (by omega), if_pos h0, h3]
    rw [hx]
    exact Or.inr (Or.inr (Or.inl ⟨rfl, if_check c m B _ qr E e (kind_ok c m B E e (hw.1 e h3)) x.one x.two i1 i2 K w v1 v2 u1 u2 hq h2 h4 s1 l1 s2 l2 h hv⟩))
  · cases h1
    have hx : Px.lookX' x K = Px.lookP x.two (Px.lookP x.one K) := by unfold Px.lookX'; rw [if_neg (by omega), if_neg (by omega), if_neg (by omega), if_pos h0]
    rw [hx]
    exact Or.inr (Or.inr (Or.inr (Or.inl ⟨rfl, try_check c m B _ E x.one x.two i1 i2 K w v1 v2 u1 u2 hq h2 s1 l1 s2 l2 h hv⟩)))
  · cases h1
    have hx : Px.lookX' x K = Px.lookP x.one (Px.countP x.n x.nPl 0 9 K) := by unfold Px.lookX'; rw [if_neg (by omega), if_neg (by omega), if_neg (by omega), if_neg (by omega), if_pos h0]
    rw [hx]
    exact Or.inr (Or.inr (Or.inr (Or.inr (Or.inl ⟨rfl, repeat_check c m B _ qn x.n x.nPl E x.one i1 K w v1 u1 hq h2 h3 s1 l1 h hv⟩))))
  · cases h1
    have hx : Px.lookX' x K = K := by unfold Px.lookX'; rw [if_neg (by omega), if_neg (by omega), if_neg (by omega), if_neg (by omega), if_neg (by omega)]
    rw [hx]
    exact Or.inr (Or.inr (Or.inr (Or.inr (Or.inr ⟨rfl, fail_check c m B _ E K w h⟩))))

theorem all_ok (c m B : Nat) (E : Nat → Addr) (l : List Px.Sm) (hw : Px.WfS l) : ∀ i (hi : i < l.length), CheckOk c m B E l[i] := by
  match l, hw with
  | [], _ => intro i hi; simp at hi
  | ⟨op, word, pl, ex, asw, asPl, undo, n, nPl, one, two⟩ :: rest, hw =>
    obtain ⟨w0, w1, w2, w3⟩ := Px.WfS_cons.1 hw
    intro i hi
    cases i with
    | zero => exact check_ok c m B E _ w0 (chkBlock_any c m B E one (all_ok c m B E one w1)) (chkBlock_any c m B E two (all_ok c m B E two w2))
    | succ i => exact all_ok c m B E rest w3 i (by simpa using hi)

theorem block_ok (c m B : Nat) (E : Nat → Addr) (l : List Px.Sm) (hw : Px.WfS l) : BlockOk c m B E l := chkBlock_any c m B E l (all_ok c m B E l hw)

end Lg
end Go.Proofs.YtcogbbneodihkaaGreatDoor

namespace Go.Proofs.YtcogbbneodihkaaGreatDoor
open Go.RowKit
namespace Ref

/-- A block of eleven cells, for a walk. -/
theorem cells11 {w : World} {k : Nat} {a b c d e f g h i j l : Value} {t : TypeId} (hh : w.heap[k]? = some (.cells #[a, b, c, d, e, f, g, h, i, j, l] t)) :
    w.cell? ⟨k, 0, none⟩ = some a ∧ w.cell? ⟨k, 1, none⟩ = some b ∧ w.cell? ⟨k, 2, none⟩ = some c ∧ w.cell? ⟨k, 3, none⟩ = some d ∧ w.cell? ⟨k, 4, none⟩ = some e ∧ w.cell? ⟨k, 5, none⟩ = some f ∧ w.cell? ⟨k, 6, none⟩ = some g ∧ w.cell? ⟨k, 7, none⟩ = some h ∧ w.cell? ⟨k, 8, none⟩ = some i ∧ w.cell? ⟨k, 9, none⟩ = some j ∧ w.cell? ⟨k, 10, none⟩ = some l ∧ ∀ o, w.frozen? ⟨k, o, none⟩ = false := by
  refine ⟨?_, ?_, ?_, ?_, ?_, ?_, ?_, ?_, ?_, ?_, ?_, ?_⟩ <;> simp [World.cell?, World.frozen?, hh]

/-- A statement that is being made: its block q, the pen; R: what has been read so far. -/
structure Mk (b : Nat) (s : ByteArray) (w0 : World) (q : Nat) (R : Except Nat (Px.Sm × Px.Ps)) (N : Int) (w : World) : Prop where
  kp : Kp b w0 w
  cells : ∃ (y : Px.Sm) (ve : Option Addr) (a1 : Option Addr) (n1 c1 : Nat) (a2 : Option Addr) (n2 c2 : Nat), w.heap[q]? = some (.cells (smCells y (.pointer ve) (.slice a1 n1 c1) (.slice a2 n2 c2)) 106) ∧
    ∀ x st, R = .ok (x, st) → y = x ∧ st.nest = N ∧ (∃ q1 q2, ExO w x.ex (fun k => In w0 w k ∧ k ≠ q) (.pointer ve) ∧ SlAt w (.slice a1 n1 c1) q1 (fun k => In w0 w k ∧ k ≠ q) ∧ SmsAt w x.one (fun k => In w0 w k ∧ k ≠ q) q1 ∧ SlAt w (.slice a2 n2 c2) q2 (fun k => In w0 w k ∧ k ≠ q) ∧ SmsAt w x.two (fun k => In w0 w k ∧ k ≠ q) q2)
  pen : PSt w b s (R.map Prod.snd)

/-- Behind a call that goes over the pen alone. -/
theorem Mk.on {b : Nat} {s : ByteArray} {w0 w w1 : World} {q : Nat} {R R' : Except Nat (Px.Sm × Px.Ps)} {N : Int} (h : Mk b s w0 q R N w) (hb : b < w0.heap.size) (hq : w0.heap.size ≤ q) (k : Kp b w w1) (hp : PSt w1 b s (R'.map Prod.snd)) (hR : ∀ x st', R' = .ok (x, st') → st'.nest = N ∧ ∃ st, R = .ok (x, st)) : Mk b s w0 q R' N w1 := by
  obtain ⟨y, ve, a1, n1, c1, a2, n2, c2, h1, h2⟩ := h.cells
  refine ⟨h.kp.trans k, ⟨y, ve, a1, n1, c1, a2, n2, c2, Kp.heap k h1 (by omega), fun x st' hx => ?_⟩, hp⟩
  obtain ⟨hn, st, hs⟩ := hR x st' hx
  obtain ⟨e1, e2, q1, q2, e3, e4, e5, e6, e7⟩ := h2 x st hs
  have z := k.size
  have hk : ∀ i, In w0 w i ∧ i ≠ q → w1.heap[i]? = w.heap[i]? := fun i hi => k.block i hi.1.2 (by have := hi.1.1; omega)
  have hm : ∀ i, In w0 w i ∧ i ≠ q → In w0 w1 i ∧ i ≠ q := fun i hi => ⟨⟨hi.1.1, by have := hi.1.2; omega⟩, hi.2⟩
  exact ⟨e1, hn, q1, q2, (e3.keep hk).mono hm, (e4.keep hk).mono hm, (e5.keep hk).mono hm, (e6.keep hk).mono hm, (e7.keep hk).mono hm⟩

/-- Behind stores into the statement's own cells (not its exprs and blocks). -/
theorem Mk.store {b : Nat} {s : ByteArray} {w0 w W : World} {q : Nat} {R R' : Except Nat (Px.Sm × Px.Ps)} {N : Int} (φ : Px.Sm → Px.Sm) (hφ : ∀ y, (φ y).ex = y.ex ∧ (φ y).one = y.one ∧ (φ y).two = y.two) (h : Mk b s w0 q R N w) (k : Kp b w0 W) (hz : w.heap.size ≤ W.heap.size) (hO : ∀ i, i < w.heap.size → i ≠ q → W.heap[i]? = w.heap[i]?)
    (hQ : ∀ y ve v1 v2, w.heap[q]? = some (.cells (smCells y ve v1 v2) 106) → W.heap[q]? = some (.cells (smCells (φ y) ve v1 v2) 106)) (hp : PSt W b s (R'.map Prod.snd)) (hR : ∀ x' st', R' = .ok (x', st') → st'.nest = N ∧ ∃ x st, R = .ok (x, st) ∧ x' = φ x) : Mk b s w0 q R' N W := by
  obtain ⟨y, ve, a1, n1, c1, a2, n2, c2, h1, h2⟩ := h.cells
  refine ⟨k, ⟨φ y, ve, a1, n1, c1, a2, n2, c2, hQ _ _ _ _ h1, fun x' st' hx => ?_⟩, hp⟩
  obtain ⟨hn, x, st, hs, rfl⟩ := hR x' st' hx
  obtain ⟨e1, e2, q1, q2, e3, e4, e5, e6, e7⟩ := h2 x st hs
  obtain ⟨f1, f2, f3⟩ := hφ x
  have hk : ∀ i, In w0 w i ∧ i ≠ q → W.heap[i]? = w.heap[i]? := fun i hi => hO i hi.1.2 hi.2
  have hm : ∀ i, In w0 w i ∧ i ≠ q → In w0 W i ∧ i ≠ q := fun i hi => ⟨⟨hi.1.1, by have := hi.1.2; omega⟩, hi.2⟩
  subst e1
  rw [f1, f2, f3]
  exact ⟨rfl, hn, q1, q2, (e3.keep hk).mono hm, (e4.keep hk).mono hm, (e5.keep hk).mono hm, (e6.keep hk).mono hm, (e7.keep hk).mono hm⟩

/-- What is read next. -/
def thenR (R : Except Nat (Px.Sm × Px.Ps)) (f : Px.Sm → Px.Ps → Except Nat (Px.Sm × Px.Ps)) : Except Nat (Px.Sm × Px.Ps) :=
  match R with
  | .ok (x, st) => f x st
  | .error p => .error p

def callHead (s : ByteArray) (st : Px.Ps) : Except Nat (Px.Sm × Px.Ps) :=
  match Px.kind s 119 st with
  | .ok st1 => .ok ({ Px.zeroS with op := 99, word := Px.txt s st.t, pl := st.t.a, n := 1 }, st1)
  | .error p => .error p
def needX (s x : ByteArray) (y : Px.Sm) (st : Px.Ps) : Except Nat (Px.Sm × Px.Ps) :=
  match Px.need s x st with
  | .ok st1 => .ok (y, st1)
  | .error p => .error p

theorem call_eq (s : ByteArray) (st : Px.Ps) : Px.call s st = thenR (thenR (thenR (thenR (thenR (thenR (thenR (callHead s st) (needX s ⟨#[40]⟩)) (Px.callArg s)) (needX s ⟨#[41]⟩)) (Px.callAs s)) (Px.callUndo s)) (Px.callTries s)) (needX s ⟨#[59]⟩) := by
  unfold Px.call callHead
  cases Px.kind s 119 st with
  | error p => rfl
  | ok st1 =>
    simp only [thenR, needX]
    cases Px.need s ⟨#[40]⟩ st1 with
    | error p => rfl
    | ok st2 =>
      simp only
      cases Px.callArg s { Px.zeroS with op := 99, word := Px.txt s st.t, pl := st.t.a, n := 1 } st2 with
      | error p => rfl
      | ok r =>
        obtain ⟨x3, st3⟩ := r
        simp only
        cases Px.need s ⟨#[41]⟩ st3 with
        | error p => rfl
        | ok st4 =>
          simp only
          cases Px.callAs s x3 st4 with
          | error p => rfl
          | ok r =>
            obtain ⟨x5, st5⟩ := r
            simp only
            cases Px.callUndo s x5 st5 with
            | error p => rfl
            | ok r =>
              obtain ⟨x6, st6⟩ := r
              simp only
              cases Px.callTries s x6 st6 with
              | error p => rfl
              | ok r =>
                obtain ⟨x7, st7⟩ := r
                simp only
                cases Px.need s ⟨#[59]⟩ st7 <;> rfl

def kindX (s : ByteArray) (k : Nat) (y : Px.Sm) (st : Px.Ps) : Except Nat (Px.Sm × Px.Ps) :=
  match Px.kind s k st with
  | .ok st1 => .ok (y, st1)
  | .error p => .error p
def gotX (s x : ByteArray) (y : Px.Sm) (st : Px.Ps) : Except Nat (Px.Sm × Px.Ps) := .ok (y, if Px.onB s st.t x then Px.nx s st else st)

theorem pst_kind {w : World} {b : Nat} {s : ByteArray} {k : Nat} {R : Except Nat (Px.Sm × Px.Ps)} (h : PSt w b s ((R.map Prod.snd).bind (Px.kind s k))) : PSt w b s ((thenR R (kindX s k)).map Prod.snd) := by
  cases R with
  | error p => exact h
  | ok r =>
    obtain ⟨x, st⟩ := r
    have h' : PSt w b s (Px.kind s k st) := h
    unfold thenR kindX
    simp only
    cases hk : Px.kind s k st <;> rw [hk] at h' <;> exact h'
theorem pst_need {w : World} {b : Nat} {s x : ByteArray} {R : Except Nat (Px.Sm × Px.Ps)} (h : PSt w b s ((R.map Prod.snd).bind (Px.need s x))) : PSt w b s ((thenR R (needX s x)).map Prod.snd) := by
  cases R with
  | error p => exact h
  | ok r =>
    obtain ⟨y, st⟩ := r
    have h' : PSt w b s (Px.need s x st) := h
    unfold thenR needX
    simp only
    cases hk : Px.need s x st <;> rw [hk] at h' <;> exact h'
theorem pst_got {w : World} {b : Nat} {s x : ByteArray} {R : Except Nat (Px.Sm × Px.Ps)} (h : PSt w b s (gotR s (R.map Prod.snd) x)) : PSt w b s ((thenR R (gotX s x)).map Prod.snd) := by
  cases R with
  | error p => exact h
  | ok r =>
    obtain ⟨y, st⟩ := r
    have h' : PSt w b s (if Px.onB s st.t x then .ok (Px.nx s st) else .ok st) := h
    unfold thenR gotX
    simp only
    cases hk : Px.onB s st.t x <;> simp [hk] at h' <;> exact h'

theorem kindX_ok {s : ByteArray} {k : Nat} {R : Except Nat (Px.Sm × Px.Ps)} {x : Px.Sm} {st' : Px.Ps} (h : thenR R (kindX s k) = .ok (x, st')) : ∃ st, R = .ok (x, st) ∧ st.t.k = k ∧ st' = Px.nx s st := by
  cases R with
  | error p => cases h
  | ok r =>
    obtain ⟨y, st⟩ := r
    unfold thenR kindX Px.kind at h
    simp only at h
    by_cases hk : st.t.k = k
    · rw [if_pos hk] at h; cases h; exact ⟨st, rfl, hk, rfl⟩
    · rw [if_neg hk] at h; cases h
theorem needX_ok {s z : ByteArray} {R : Except Nat (Px.Sm × Px.Ps)} {x : Px.Sm} {st' : Px.Ps} (h : thenR R (needX s z) = .ok (x, st')) : ∃ st, R = .ok (x, st) ∧ Px.onB s st.t z = true ∧ st' = Px.nx s st := by
  cases R with
  | error p => cases h
  | ok r =>
    obtain ⟨y, st⟩ := r
    unfold thenR needX Px.need at h
    simp only at h
    by_cases hk : Px.onB s st.t z = true
    · rw [if_pos hk] at h; cases h; exact ⟨st, rfl, hk, rfl⟩
    · rw [if_neg hk] at h; cases h
theorem gotX_ok {s z : ByteArray} {R : Except Nat (Px.Sm × Px.Ps)} {x : Px.Sm} {st' : Px.Ps} (h : thenR R (gotX s z) = .ok (x, st')) : ∃ st, R = .ok (x, st) ∧ st' = if Px.onB s st.t z then Px.nx s st else st := by
  cases R with
  | error p => cases h
  | ok r =>
    obtain ⟨y, st⟩ := r
    unfold thenR gotX at h
    simp only at h
    cases h
    exact ⟨st, rfl, rfl⟩

theorem Mk.nest {b : Nat} {s : ByteArray} {w0 w : World} {q : Nat} {R : Except Nat (Px.Sm × Px.Ps)} {N : Int} (h : Mk b s w0 q R N w) {x : Px.Sm} {st : Px.Ps} (e : R = .ok (x, st)) : st.nest = N := by
  obtain ⟨y, ve, a1, n1, c1, a2, n2, c2, h1, h2⟩ := h.cells
  exact (h2 x st e).2.1
theorem Mk.tk {b : Nat} {s : ByteArray} {w0 w : World} {q : Nat} {R : Except Nat (Px.Sm × Px.Ps)} {N : Int} (h : Mk b s w0 q R N w) {x : Px.Sm} {st : Px.Ps} (e : R = .ok (x, st)) : Px.Tk s st.t := by
  have := h.pen
  rw [e] at this
  exact this.2

theorem Mk.need {b : Nat} {s z : ByteArray} {w0 w w1 : World} {q : Nat} {R : Except Nat (Px.Sm × Px.Ps)} {N : Int} (h : Mk b s w0 q R N w) (hb : b < w0.heap.size) (hq : w0.heap.size ≤ q) (k : Kp b w w1) (hp : PSt w1 b s ((R.map Prod.snd).bind (Px.need s z))) : Mk b s w0 q (thenR R (needX s z)) N w1 :=
  h.on hb hq k (pst_need hp) fun x st' hx => by
    obtain ⟨st, h1, h2, rfl⟩ := needX_ok hx
    exact ⟨(h.nest h1 : st.nest = N), st, h1⟩
theorem Mk.kind {b : Nat} {s : ByteArray} {z : Nat} {w0 w w1 : World} {q : Nat} {R : Except Nat (Px.Sm × Px.Ps)} {N : Int} (h : Mk b s w0 q R N w) (hb : b < w0.heap.size) (hq : w0.heap.size ≤ q) (k : Kp b w w1) (hp : PSt w1 b s ((R.map Prod.snd).bind (Px.kind s z))) : Mk b s w0 q (thenR R (kindX s z)) N w1 :=
  h.on hb hq k (pst_kind hp) fun x st' hx => by
    obtain ⟨st, h1, h2, rfl⟩ := kindX_ok hx
    exact ⟨(h.nest h1 : st.nest = N), st, h1⟩
theorem Mk.got {b : Nat} {s z : ByteArray} {w0 w w1 : World} {q : Nat} {R : Except Nat (Px.Sm × Px.Ps)} {N : Int} (h : Mk b s w0 q R N w) (hb : b < w0.heap.size) (hq : w0.heap.size ≤ q) (k : Kp b w w1) (hp : PSt w1 b s (gotR s (R.map Prod.snd) z)) : Mk b s w0 q (thenR R (gotX s z)) N w1 :=
  h.on hb hq k (pst_got hp) fun x st' hx => by
    obtain ⟨st, h1, rfl⟩ := gotX_ok hx
    refine ⟨?_, st, h1⟩
    split
    · exact (h.nest h1 : st.nest = N)
    · exact h.nest h1

def exX (s : ByteArray) (y : Px.Sm) (st : Px.Ps) : Except Nat (Px.Sm × Px.Ps) :=
  match Px.exprOf s st with
  | .ok (e, st') => .ok ({ y with ex := some e }, st')
  | .error p => .error p

/-- Behind an expr that is laid into the statement. -/
theorem Mk.expr {b : Nat} {s : ByteArray} {w0 w w1 : World} {q q1 : Nat} {R : Except Nat (Px.Sm × Px.Ps)} {N : Int} (h : Mk b s w0 q R N w) (hb : b < w0.heap.size) (hq : w0.heap.size ≤ q) (hp : ExPost b s w ((R.map Prod.snd).bind (Px.exprOf s)) (.returned (.pointer (some ⟨q1, 0, none⟩))) w1) : Mk b s w0 q (thenR R (exX s)) N (w1.setCell ⟨q, 3, none⟩ (.pointer (some ⟨q1, 0, none⟩))) := by
  obtain ⟨k, q1', he, h3⟩ := hp
  obtain rfl : q1 = q1' := by simpa using he
  obtain ⟨y, ve, a1, n1, c1, a2, n2, c2, h1, h2⟩ := h.cells
  have hqw : q < w.heap.size := (Array.getElem?_eq_some_iff.1 h1).1
  have z := k.size
  have hc : (w1.setCell ⟨q, 3, none⟩ (.pointer (some ⟨q1, 0, none⟩))).heap[q]? = some (.cells (smCells y (.pointer (some ⟨q1, 0, none⟩)) (.slice a1 n1 c1) (.slice a2 n2 c2)) 106) := by
    rw [heap_set _ (Kp.heap k h1 (by omega))]; simp [smCells]
  have hkp : Kp b w0 (w1.setCell ⟨q, 3, none⟩ (.pointer (some ⟨q1, 0, none⟩))) := (h.kp.trans k).setN hq _
  have hbq : b ≠ q := by omega
  cases R with
  | error p =>
    exact ⟨hkp, ⟨y, _, a1, n1, c1, a2, n2, c2, hc, fun x st hx => by cases hx⟩, PSt.setN (r := .error p) h3.2.2 hbq _⟩
  | ok r =>
    obtain ⟨x, st⟩ := r
    obtain ⟨e1, e2, r1, r2, e3, e4, e5, e6, e7⟩ := h2 x st rfl
    subst e1
    have h3' : match Px.exprOf s st with
      | .ok (x, st) => ExAt w1 x (In w w1) q1 ∧ PenAt w1 b s st.t (-1) st.nest st.deep
      | .error p => w.heap.size ≤ q1 ∧ (∃ v0 v1 v2 v3 v4 v5, w1.heap[q1]? = some (.cells #[v0, v1, v2, v3, v4, v5] 141)) ∧ ∃ t nest deep, PenAt w1 b s t ((p : Nat) : Int) nest deep := h3
    cases hr : Px.exprOf s st with
    | error p =>
      rw [hr] at h3'
      have er : thenR (.ok (y, st)) (exX s) = .error p := by simp [thenR, exX, hr]
      rw [er]
      exact ⟨hkp, ⟨y, _, a1, n1, c1, a2, n2, c2, hc, fun x st hx => by cases hx⟩, PSt.setN (r := .error p) h3'.2.2 hbq _⟩
    | ok r =>
      obtain ⟨e, st'⟩ := r
      rw [hr] at h3'
      have er : thenR (.ok (y, st)) (exX s) = .ok ({ y with ex := some e }, st') := by simp [thenR, exX, hr]
      have hgo := Px.exprOf_goes s _ _ _ (h.tk rfl) hr
      rw [er]
      have hk : ∀ i, In w0 w i ∧ i ≠ q → (w1.setCell ⟨q, 3, none⟩ (.pointer (some ⟨q1, 0, none⟩))).heap[i]? = w.heap[i]? := fun i hi => by rw [heap_set_ne _ hi.2]; exact k.block i hi.1.2 (by have := hi.1.1; omega)
      have hm : ∀ i, In w0 w i ∧ i ≠ q → In w0 (w1.setCell ⟨q, 3, none⟩ (.pointer (some ⟨q1, 0, none⟩))) i ∧ i ≠ q := fun i hi => ⟨⟨hi.1.1, by rw [size_set]; have := hi.1.2; omega⟩, hi.2⟩
      have z0 := h.kp.size
      refine ⟨hkp, ⟨{ y with ex := some e }, _, a1, n1, c1, a2, n2, c2, hc, fun x2 st2 hx => ?_⟩, PSt.setN (r := .ok st') ⟨h3'.2, hgo.tk⟩ hbq _⟩
      cases hx
      refine ⟨rfl, hgo.nest.trans e2, r1, r2, ⟨q1, rfl, ?_⟩, (e4.keep hk).mono hm, (e5.keep hk).mono hm, (e6.keep hk).mono hm, (e7.keep hk).mono hm⟩
      refine (h3'.1.keep fun i hi => heap_set_ne _ (by have := hi.1; omega)).mono fun i hi => ⟨⟨?_, ?_⟩, ?_⟩
      · have := hi.1; omega
      · rw [size_set]; exact hi.2
      · have := hi.1; omega

theorem head_pen {s : ByteArray} {st : Px.Ps} : (thenR (.ok (Px.zeroS, st)) (kindX s 119)).map Prod.snd = (callHead s st).map Prod.snd := by
  unfold thenR kindX callHead
  simp only
  cases Px.kind s 119 st <;> rfl

theorem arg_no {s : ByteArray} {R : Except Nat (Px.Sm × Px.Ps)} (h : onR s (R.map Prod.snd) ⟨#[41]⟩ = true) : thenR R (Px.callArg s) = R := by
  cases R with
  | error p => rfl
  | ok r =>
    obtain ⟨x, st⟩ := r
    have h' : Px.onB s st.t ⟨#[41]⟩ = true := h
    simp [thenR, Px.callArg, h']
theorem arg_yes {s : ByteArray} {R : Except Nat (Px.Sm × Px.Ps)} (h : onR s (R.map Prod.snd) ⟨#[41]⟩ = false) : thenR R (Px.callArg s) = thenR R (exX s) := by
  cases R with
  | error p => rfl
  | ok r =>
    obtain ⟨x, st⟩ := r
    have h' : Px.onB s st.t ⟨#[41]⟩ = false := h
    simp [thenR, Px.callArg, h', exX]
    cases Px.exprOf s st <;> rfl

theorem on_got {s z : ByteArray} {R : Except Nat (Px.Sm × Px.Ps)} (h : onR s (R.map Prod.snd) z = true) : ∃ x st, R = .ok (x, st) ∧ Px.onB s st.t z = true ∧ thenR R (gotX s z) = .ok (x, Px.nx s st) := by
  cases R with
  | error p => cases h
  | ok r =>
    obtain ⟨x, st⟩ := r
    have h' : Px.onB s st.t z = true := h
    exact ⟨x, st, rfl, h', by simp [thenR, gotX, h']⟩
theorem off_got {s z : ByteArray} {R : Except Nat (Px.Sm × Px.Ps)} (h : onR s (R.map Prod.snd) z = false) : thenR R (gotX s z) = R := by
  cases R with
  | error p => rfl
  | ok r =>
    obtain ⟨x, st⟩ := r
    have h' : Px.onB s st.t z = false := h
    simp [thenR, gotX, h']
theorem off_as {s : ByteArray} {R : Except Nat (Px.Sm × Px.Ps)} (h : onR s (R.map Prod.snd) ⟨#[97, 115]⟩ = false) : thenR R (Px.callAs s) = R := by
  cases R with
  | error p => rfl
  | ok r =>
    obtain ⟨x, st⟩ := r
    have h' : Px.onB s st.t ⟨#[97, 115]⟩ = false := h
    simp [thenR, Px.callAs, h']
theorem off_undo {s : ByteArray} {R : Except Nat (Px.Sm × Px.Ps)} (h : onR s (R.map Prod.snd) ⟨#[117, 110, 100, 111]⟩ = false) : thenR R (Px.callUndo s) = R := by
  cases R with
  | error p => rfl
  | ok r =>
    obtain ⟨x, st⟩ := r
    have h' : Px.onB s st.t ⟨#[117, 110, 100, 111]⟩ = false := h
    simp [thenR, Px.callUndo, h']
theorem off_tries {s : ByteArray} {R : Except Nat (Px.Sm × Px.Ps)} (h : onR s (R.map Prod.snd) ⟨#[116, 114, 105, 101, 115]⟩ = false) : thenR R (Px.callTries s) = R := by
  cases R with
  | error p => rfl
  | ok r =>
    obtain ⟨x, st⟩ := r
    have h' : Px.onB s st.t ⟨#[116, 114, 105, 101, 115]⟩ = false := h
    simp [thenR, Px.callTries, h']

/-- The kind's sign, behind 'as'. -/
theorem as_pen {s : ByteArray} {R : Except Nat (Px.Sm × Px.Ps)} (h : onR s (R.map Prod.snd) ⟨#[97, 115]⟩ = true) : (thenR (thenR R (gotX s ⟨#[97, 115]⟩)) (kindX s 119)).map Prod.snd = (thenR R (Px.callAs s)).map Prod.snd ∧
    ∀ x' st', thenR R (Px.callAs s) = .ok (x', st') → ∃ x, thenR (thenR R (gotX s ⟨#[97, 115]⟩)) (kindX s 119) = .ok (x, st') ∧ x' = { x with asw := kindT s ((thenR R (gotX s ⟨#[97, 115]⟩)).map Prod.snd) 119, asPl := kindA ((thenR R (gotX s ⟨#[97, 115]⟩)).map Prod.snd) 119 } := by
  obtain ⟨x, st, rfl, h1, h2⟩ := on_got h
  rw [h2]
  simp only [thenR, Px.callAs, if_pos h1, kindX]
  by_cases hk : (Px.nx s st).t.k = 119
  · simp [Px.kind, hk, Except.map, kindT, kindA, Px.txt]
  · simp [Px.kind, hk, Except.map]
theorem undo_pen {s : ByteArray} {R : Except Nat (Px.Sm × Px.Ps)} (h : onR s (R.map Prod.snd) ⟨#[117, 110, 100, 111]⟩ = true) : (thenR (thenR R (gotX s ⟨#[117, 110, 100, 111]⟩)) (kindX s 119)).map Prod.snd = (thenR R (Px.callUndo s)).map Prod.snd ∧
    ∀ x' st', thenR R (Px.callUndo s) = .ok (x', st') → ∃ x, thenR (thenR R (gotX s ⟨#[117, 110, 100, 111]⟩)) (kindX s 119) = .ok (x, st') ∧ x' = { x with undo := kindT s ((thenR R (gotX s ⟨#[117, 110, 100, 111]⟩)).map Prod.snd) 119 } := by
  obtain ⟨x, st, rfl, h1, h2⟩ := on_got h
  rw [h2]
  simp only [thenR, Px.callUndo, if_pos h1, kindX]
  by_cases hk : (Px.nx s st).t.k = 119
  · simp [Px.kind, hk, Except.map, kindT, Px.txt]
  · simp [Px.kind, hk, Except.map]
theorem tries_pen {s : ByteArray} {R : Except Nat (Px.Sm × Px.Ps)} (h : onR s (R.map Prod.snd) ⟨#[116, 114, 105, 101, 115]⟩ = true) : (thenR (thenR R (gotX s ⟨#[116, 114, 105, 101, 115]⟩)) (kindX s 110)).map Prod.snd = (thenR R (Px.callTries s)).map Prod.snd ∧
    ∀ x' st', thenR R (Px.callTries s) = .ok (x', st') → ∃ x, thenR (thenR R (gotX s ⟨#[116, 114, 105, 101, 115]⟩)) (kindX s 110) = .ok (x, st') ∧ x' = { x with n := Px.valOf (kindT s ((thenR R (gotX s ⟨#[116, 114, 105, 101, 115]⟩)).map Prod.snd) 110).toList, nPl := kindA ((thenR R (gotX s ⟨#[116, 114, 105, 101, 115]⟩)).map Prod.snd) 110 } := by
  obtain ⟨x, st, rfl, h1, h2⟩ := on_got h
  rw [h2]
  simp only [thenR, Px.callTries, if_pos h1, kindX]
  by_cases hk : (Px.nx s st).t.k = 110
  · simp [Px.kind, hk, Except.map, kindT, kindA, Px.txt]
  · simp [Px.kind, hk, Except.map]

/-- A number's sign, for 'value'. -/
theorem kindT_num {w : World} {b : Nat} {s : ByteArray} {r : Except Nat Px.Ps} (h : PSt w b s r) : (kindT s r 110).size ≤ 4 ∧ ∀ j (hj : j < (kindT s r 110).size), Px.isDig (kindT s r 110)[j] = true := by
  cases r with
  | error p => exact ⟨Nat.zero_le _, fun j hj => absurd hj (Nat.not_lt_zero j)⟩
  | ok st =>
    by_cases hk : st.t.k = 110
    · have e : kindT s (.ok st) 110 = s.extract st.t.a st.t.b := by simp [kindT, hk]
      have := dig_extract h.2 hk
      simp only [e]
      exact this
    · have e : kindT s (.ok st) 110 = ⟨#[]⟩ := by simp [kindT, hk]
      simp only [e]
      exact ⟨Nat.zero_le _, fun j hj => absurd hj (Nat.not_lt_zero j)⟩

set_option maxRecDepth 100000 in
set_option maxHeartbeats 4000000 in
theorem call_ok (b : Nat) (s : ByteArray) (hs3 : s.size ≤ 300) (w0 : World) (q : Nat) (hb : b < w0.heap.size) (hq : w0.heap.size ≤ q) (st : Px.Ps) (w : World) (hN0 : 0 ≤ st.nest) (hN : st.nest + (s.size + 1 : Nat) ≤ 1000000) (M : Mk b s w0 q (.ok (Px.zeroS, st)) st.nest w) :
    Calls Tryz.prog 55 #[.pointer (some ⟨b, 0, none⟩), .pointer (some ⟨q, 0, none⟩)] w fun e w' => e = .returned (.tuple #[]) ∧ Mk b s w0 q (Px.call s st) st.nest w' := by
  have hs : s.size ≤ maxLen := by unfold maxLen; omega
  have HM : Hid (Mk b s w0 q (.ok (Px.zeroS, st)) st.nest w) := M
  clear M
  go_enter Tryz.func55, Tryz.ntmps55
  go_wp2_with fail
  refine (kindU b s 119 (.ok st) _ HM.out.pen hs).mono ?_
  rintro e w1 ⟨⟨kv, kx, rfl⟩, k1, p1⟩
  have m1 := HM.out.kind hb hq k1 p1
  obtain ⟨y, ve, a1, n1, c1, a2, n2, c2, hc, hcx⟩ := m1.cells
  clear hcx
  obtain ⟨d0, d1, d2, d3, d4, d5, d6, d7, d8, d9, d10, df⟩ := cells11 hc
  have hq1 : q < w1.heap.size := lt_of_cell d0
  have M1 : Hid (_) := m1
  clear k1 p1 hc m1
  go_wp2_with fail
  have m2 : Mk b s w0 q (callHead s st) st.nest _ := Mk.store (fun y => { y with op := 99, word := kindT s (.ok st) 119, pl := kindA (.ok st) 119, n := 1 }) (fun y => ⟨rfl, rfl, rfl⟩) M1.out
    (W := ((((w1.setCell ⟨q, 0, none⟩ (.int .u8 99)).setCell ⟨q, 1, none⟩ (.string (kindT s (.ok st) 119))).setCell ⟨q, 2, none⟩ (.int .i64 (kindA (.ok st) 119))).setCell ⟨q, 7, none⟩ (.int .i64 1)).alloc (.cells #[.int .u8 kv, .string (kindT s (.ok st) 119), .int .i64 (kindA (.ok st) 119), .int .i64 kx] 96))
    (((((M1.out.kp.setN hq _).setN hq _).setN hq _).setN hq _).alloc _) (by simp) (fun i hi hne => by rw [Below.heap_alloc _ _ _ (by simpa [size_set] using hi), heap_set_ne _ hne, heap_set_ne _ hne, heap_set_ne _ hne, heap_set_ne _ hne])
    (fun y ve v1 v2 h => by rw [Below.heap_alloc _ _ _ (by simpa [size_set] using hq1), heap_set _ (heap_set _ (heap_set _ (heap_set _ h)))]; simp [smCells])
    ?pp ?rr
  case pp =>
    rw [← head_pen]
    exact ((((M1.out.pen.setN (by omega) _).setN (by omega) _).setN (by omega) _).setN (by omega) _).alloc _
  case rr =>
    intro x' st' hx
    unfold callHead Px.kind at hx
    by_cases hk : st.t.k = 119
    · rw [if_pos hk] at hx
      cases hx
      refine ⟨rfl, Px.zeroS, Px.nx s st, ?_, ?_⟩
      · simp [thenR, kindX, Px.kind, hk]
      · simp [kindT, kindA, hk, Px.txt]
    · rw [if_neg hk] at hx; cases hx
  have M2 : Hid (_) := m2
  clear m2 M1 d0 d1 d2 d3 d4 d5 d6 d7 d8 d9 d10 df
  refine (needU b s _ _ _ M2.out.pen hs).mono ?_
  rintro e w2 ⟨rfl, k2, p2⟩
  have M3 : Hid (Mk b s w0 q (thenR (callHead s st) (needX s ⟨#[40]⟩)) st.nest w2) := M2.out.need hb hq k2 p2
  clear k2 p2 M2
  go_wp2_with fail
  refine (onU b s _ _ _ M3.out.pen).mono ?_
  rintro e w' ⟨rfl, rfl⟩
  generalize hB : onR s ((thenR (callHead s st) (needX s ⟨#[40]⟩)).map Prod.snd) ⟨#[41]⟩ = B
  have HB : Hid (_) := hB
  clear hB
  go_upto_if 35 with fail
  go_cut [] (fun wc => Hid (Mk b s w0 q (thenR (thenR (callHead s st) (needX s ⟨#[40]⟩)) (Px.callArg s)) st.nest wc))
  case first =>
    cases B
    · go_wp2_with fail
      refine (exprU b s _ _ M3.out.pen hs ?hn).mono ?_
      case hn =>
        intro st1 h1
        cases hr : thenR (callHead s st) (needX s ⟨#[40]⟩) with
        | error p => rw [hr] at h1; cases h1
        | ok r =>
          obtain ⟨x, st2⟩ := r
          rw [hr] at h1
          cases h1
          rw [M3.out.nest hr]
          exact ⟨hN0, hN⟩
      rintro e w3 h3
      obtain ⟨q1, he⟩ : ∃ q1, e = .returned (.pointer (some ⟨q1, 0, none⟩)) := by obtain ⟨_, q1, he, _⟩ := h3; exact ⟨q1, he⟩
      subst he
      have m4 := M3.out.expr hb hq h3
      obtain ⟨y, ve, a1, n1, c1, a2, n2, c2, hc, hcx⟩ := M3.out.cells
      have hc3 := Kp.heap h3.1 hc (by omega)
      obtain ⟨d0, d1, d2, d3, d4, d5, d6, d7, d8, d9, d10, df⟩ := cells11 hc3
      have M4 : Hid (_) := m4
      clear hc hcx hc3 m4 h3
      go_wp2_with fail
      go_meet
      case rel =>
        show Mk _ _ _ _ _ _ _
        rw [arg_yes HB.out]
        exact M4.out
    · go_wp2_with fail
      go_meet
      case rel =>
        show Mk _ _ _ _ _ _ _
        rw [arg_no HB.out]
        exact M3.out
  case rest =>
  have M4 : Hid (Mk b s w0 q (thenR (thenR (callHead s st) (needX s ⟨#[40]⟩)) (Px.callArg s)) st.nest wc) := hcut
  clear hcut M3 HB
  go_wp2_with fail
  refine (needU b s _ _ _ M4.out.pen hs).mono ?_
  rintro e w3 ⟨rfl, k3, p3⟩
  have N1 : Hid (Mk b s w0 q (thenR (thenR (thenR (callHead s st) (needX s ⟨#[40]⟩)) (Px.callArg s)) (needX s ⟨#[41]⟩)) st.nest w3) := M4.out.need hb hq k3 p3
  clear k3 p3 M4
  go_wp2_with fail
  refine (gotU b s _ _ _ N1.out.pen hs).mono ?_
  rintro e w4 ⟨rfl, k4, p4⟩
  have M4 : Hid (Mk b s w0 q (thenR (thenR (thenR (thenR (callHead s st) (needX s ⟨#[40]⟩)) (Px.callArg s)) (needX s ⟨#[41]⟩)) (gotX s ⟨#[97, 115]⟩)) st.nest w4) := N1.out.got hb hq k4 p4
  clear k4 p4
  generalize hB : onR s (((thenR (thenR (thenR (callHead s st) (needX s ⟨#[40]⟩)) (Px.callArg s)) (needX s ⟨#[41]⟩))).map Prod.snd) ⟨#[97, 115]⟩ = B
  have HB : Hid (onR s (((thenR (thenR (thenR (callHead s st) (needX s ⟨#[40]⟩)) (Px.callArg s)) (needX s ⟨#[41]⟩))).map Prod.snd) ⟨#[97, 115]⟩ = B) := hB
  clear hB
  go_upto_if 45 with fail
  go_cut [7] (fun _ wc => Hid (Mk b s w0 q (thenR (thenR (thenR (thenR (callHead s st) (needX s ⟨#[40]⟩)) (Px.callArg s)) (needX s ⟨#[41]⟩)) (Px.callAs s)) st.nest wc))
  case first =>
    cases B
    · go_wp2_with fail
      go_meet
      case rel =>
        show Mk _ _ _ _ _ _ _
        have h := M4.out
        rw [off_got HB.out] at h
        rw [off_as HB.out]
        exact h
    · go_wp2_with fail
      generalize hr5 : (thenR (thenR (thenR (thenR (callHead s st) (needX s ⟨#[40]⟩)) (Px.callArg s)) (needX s ⟨#[41]⟩)) (gotX s ⟨#[97, 115]⟩)).map Prod.snd = r5 at *
      refine (kindU b s 119 r5 _ (by rw [← hr5]; exact M4.out.pen) hs).mono ?_
      rintro e w5 ⟨⟨kv5, kx5, rfl⟩, k5, p5⟩
      have m5 := M4.out.kind hb hq k5 (by rw [hr5]; exact p5)
      obtain ⟨y, ve, a1, n1, c1, a2, n2, c2, hc, hcx⟩ := m5.cells
      obtain ⟨d0, d1, d2, d3, d4, d5, d6, d7, d8, d9, d10, df⟩ := cells11 hc
      have hq5 : q < w5.heap.size := lt_of_cell d0
      have V5 : Hid (_) := kindT_num (show PSt w4 b s r5 by rw [← hr5]; exact M4.out.pen)
      have M5 : Hid (Mk b s w0 q (thenR (thenR (thenR (thenR (thenR (callHead s st) (needX s ⟨#[40]⟩)) (Px.callArg s)) (needX s ⟨#[41]⟩)) (gotX s ⟨#[97, 115]⟩)) (kindX s 119)) st.nest w5) := m5
      have HR5 : Hid (_ = r5) := hr5
      clear k5 p5 hc hcx m5 hr5
      go_wp2_with fail
      go_meet
      case rel =>
        show Mk _ _ _ _ _ _ _
        obtain ⟨pn, pr⟩ := as_pen HB.out
        rw [HR5.out] at pr
        exact Mk.store (fun y => { y with asw := kindT s r5 119, asPl := kindA r5 119 }) (fun y => ⟨rfl, rfl, rfl⟩) M5.out (W := (((w5.setCell ⟨q, 4, none⟩ (.string (kindT s r5 119))).setCell ⟨q, 5, none⟩ (.int .i64 (kindA r5 119))).alloc (.cells #[.int .u8 kv5, .string (kindT s r5 119), .int .i64 (kindA r5 119), .int .i64 kx5] 96))) (((M5.out.kp.setN hq _).setN hq _).alloc _) (by simp) (fun i hi hne => by rw [Below.heap_alloc _ _ _ (by simpa [size_set] using hi), heap_set_ne _ hne, heap_set_ne _ hne])
          (fun y ve v1 v2 h => by rw [Below.heap_alloc _ _ _ (by simpa [size_set] using hq5), heap_set _ (heap_set _ h)]; simp [smCells]) (by rw [← pn]; exact ((M5.out.pen.setN (by omega) _).setN (by omega) _).alloc _)
          (fun x' st' hx => by
            obtain ⟨x, h1, h2⟩ := pr x' st' hx
            exact ⟨M5.out.nest h1, x, st', h1, h2⟩)
  case rest =>
  have N2 : Hid (Mk b s w0 q (thenR (thenR (thenR (thenR (callHead s st) (needX s ⟨#[40]⟩)) (Px.callArg s)) (needX s ⟨#[41]⟩)) (Px.callAs s)) st.nest wc) := hcut
  clear hcut M4 N1 HB
  go_wp2_with fail
  refine (gotU b s _ _ _ N2.out.pen hs).mono ?_
  rintro e w4 ⟨rfl, k4, p4⟩
  have M4 : Hid (Mk b s w0 q (thenR (thenR (thenR (thenR (thenR (callHead s st) (needX s ⟨#[40]⟩)) (Px.callArg s)) (needX s ⟨#[41]⟩)) (Px.callAs s)) (gotX s ⟨#[117, 110, 100, 111]⟩)) st.nest w4) := N2.out.got hb hq k4 p4
  clear k4 p4
  generalize hB : onR s (((thenR (thenR (thenR (thenR (callHead s st) (needX s ⟨#[40]⟩)) (Px.callArg s)) (needX s ⟨#[41]⟩)) (Px.callAs s))).map Prod.snd) ⟨#[117, 110, 100, 111]⟩ = B
  have HB : Hid (onR s (((thenR (thenR (thenR (thenR (callHead s st) (needX s ⟨#[40]⟩)) (Px.callArg s)) (needX s ⟨#[41]⟩)) (Px.callAs s))).map Prod.snd) ⟨#[117, 110, 100, 111]⟩ = B) := hB
  clear hB
  go_upto_if 60 with fail
  go_cut [9] (fun _ wc => Hid (Mk b s w0 q (thenR (thenR (thenR (thenR (thenR (callHead s st) (needX s ⟨#[40]⟩)) (Px.callArg s)) (needX s ⟨#[41]⟩)) (Px.callAs s)) (Px.callUndo s)) st.nest wc))
  case first =>
    cases B
    · go_wp2_with fail
      go_meet
      case rel =>
        show Mk _ _ _ _ _ _ _
        have h := M4.out
        rw [off_got HB.out] at h
        rw [off_undo HB.out]
        exact h
    · go_wp2_with fail
      generalize hr5 : (thenR (thenR (thenR (thenR (thenR (callHead s st) (needX s ⟨#[40]⟩)) (Px.callArg s)) (needX s ⟨#[41]⟩)) (Px.callAs s)) (gotX s ⟨#[117, 110, 100, 111]⟩)).map Prod.snd = r5 at *
      refine (kindU b s 119 r5 _ (by rw [← hr5]; exact M4.out.pen) hs).mono ?_
      rintro e w5 ⟨⟨kv5, kx5, rfl⟩, k5, p5⟩
      have m5 := M4.out.kind hb hq k5 (by rw [hr5]; exact p5)
      obtain ⟨y, ve, a1, n1, c1, a2, n2, c2, hc, hcx⟩ := m5.cells
      obtain ⟨d0, d1, d2, d3, d4, d5, d6, d7, d8, d9, d10, df⟩ := cells11 hc
      have hq5 : q < w5.heap.size := lt_of_cell d0
      have V5 : Hid (_) := kindT_num (show PSt w4 b s r5 by rw [← hr5]; exact M4.out.pen)
      have M5 : Hid (Mk b s w0 q (thenR (thenR (thenR (thenR (thenR (thenR (callHead s st) (needX s ⟨#[40]⟩)) (Px.callArg s)) (needX s ⟨#[41]⟩)) (Px.callAs s)) (gotX s ⟨#[117, 110, 100, 111]⟩)) (kindX s 119)) st.nest w5) := m5
      have HR5 : Hid (_ = r5) := hr5
      clear k5 p5 hc hcx m5 hr5
      go_wp2_with fail
      go_meet
      case rel =>
        show Mk _ _ _ _ _ _ _
        obtain ⟨pn, pr⟩ := undo_pen HB.out
        rw [HR5.out] at pr
        exact Mk.store (fun y => { y with undo := kindT s r5 119 }) (fun y => ⟨rfl, rfl, rfl⟩) M5.out (W := ((w5.setCell ⟨q, 6, none⟩ (.string (kindT s r5 119))).alloc (.cells #[.int .u8 kv5, .string (kindT s r5 119), .int .i64 (kindA r5 119), .int .i64 kx5] 96))) ((M5.out.kp.setN hq _).alloc _) (by simp) (fun i hi hne => by rw [Below.heap_alloc _ _ _ (by simpa [size_set] using hi), heap_set_ne _ hne])
          (fun y ve v1 v2 h => by rw [Below.heap_alloc _ _ _ (by simpa [size_set] using hq5), heap_set _ h]; simp [smCells]) (by rw [← pn]; exact (M5.out.pen.setN (by omega) _).alloc _)
          (fun x' st' hx => by
            obtain ⟨x, h1, h2⟩ := pr x' st' hx
            exact ⟨M5.out.nest h1, x, st', h1, h2⟩)
  case rest =>
  have N3 : Hid (Mk b s w0 q (thenR (thenR (thenR (thenR (thenR (callHead s st) (needX s ⟨#[40]⟩)) (Px.callArg s)) (needX s ⟨#[41]⟩)) (Px.callAs s)) (Px.callUndo s)) st.nest wc) := hcut
  clear hcut M4 N2 HB
  go_wp2_with fail
  refine (gotU b s _ _ _ N3.out.pen hs).mono ?_
  rintro e w4 ⟨rfl, k4, p4⟩
  have M4 : Hid (Mk b s w0 q (thenR (thenR (thenR (thenR (thenR (thenR (callHead s st) (needX s ⟨#[40]⟩)) (Px.callArg s)) (needX s ⟨#[41]⟩)) (Px.callAs s)) (Px.callUndo s)) (gotX s ⟨#[116, 114, 105, 101, 115]⟩)) st.nest w4) := N3.out.got hb hq k4 p4
  clear k4 p4
  generalize hB : onR s (((thenR (thenR (thenR (thenR (thenR (callHead s st) (needX s ⟨#[40]⟩)) (Px.callArg s)) (needX s ⟨#[41]⟩)) (Px.callAs s)) (Px.callUndo s))).map Prod.snd) ⟨#[116, 114, 105, 101, 115]⟩ = B
  have HB : Hid (onR s (((thenR (thenR (thenR (thenR (thenR (callHead s st) (needX s ⟨#[40]⟩)) (Px.callArg s)) (needX s ⟨#[41]⟩)) (Px.callAs s)) (Px.callUndo s))).map Prod.snd) ⟨#[116, 114, 105, 101, 115]⟩ = B) := hB
  clear hB
  go_upto_if 70 with fail
  go_cut [11] (fun _ wc => Hid (Mk b s w0 q (thenR (thenR (thenR (thenR (thenR (thenR (callHead s st) (needX s ⟨#[40]⟩)) (Px.callArg s)) (needX s ⟨#[41]⟩)) (Px.callAs s)) (Px.callUndo s)) (Px.callTries s)) st.nest wc))
  case first =>
    cases B
    · go_wp2_with fail
      go_meet
      case rel =>
        show Mk _ _ _ _ _ _ _
        have h := M4.out
        rw [off_got HB.out] at h
        rw [off_tries HB.out]
        exact h
    · go_wp2_with fail
      generalize hr5 : (thenR (thenR (thenR (thenR (thenR (thenR (callHead s st) (needX s ⟨#[40]⟩)) (Px.callArg s)) (needX s ⟨#[41]⟩)) (Px.callAs s)) (Px.callUndo s)) (gotX s ⟨#[116, 114, 105, 101, 115]⟩)).map Prod.snd = r5 at *
      refine (kindU b s 110 r5 _ (by rw [← hr5]; exact M4.out.pen) hs).mono ?_
      rintro e w5 ⟨⟨kv5, kx5, rfl⟩, k5, p5⟩
      have m5 := M4.out.kind hb hq k5 (by rw [hr5]; exact p5)
      obtain ⟨y, ve, a1, n1, c1, a2, n2, c2, hc, hcx⟩ := m5.cells
      obtain ⟨d0, d1, d2, d3, d4, d5, d6, d7, d8, d9, d10, df⟩ := cells11 hc
      have hq5 : q < w5.heap.size := lt_of_cell d0
      have V5 : Hid (_) := kindT_num (show PSt w4 b s r5 by rw [← hr5]; exact M4.out.pen)
      have M5 : Hid (Mk b s w0 q (thenR (thenR (thenR (thenR (thenR (thenR (thenR (callHead s st) (needX s ⟨#[40]⟩)) (Px.callArg s)) (needX s ⟨#[41]⟩)) (Px.callAs s)) (Px.callUndo s)) (gotX s ⟨#[116, 114, 105, 101, 115]⟩)) (kindX s 110)) st.nest w5) := m5
      have HR5 : Hid (_ = r5) := hr5
      clear k5 p5 hc hcx m5 hr5
      go_wp2_with fail
      refine (value_any _ _ V5.out.1 V5.out.2).mono ?_
      rintro e w' ⟨rfl, hw⟩
      rw [hw]
      clear hw
      go_wp2_with fail
      go_meet
      case rel =>
        show Mk _ _ _ _ _ _ _
        obtain ⟨pn, pr⟩ := tries_pen HB.out
        rw [HR5.out] at pr
        exact Mk.store (fun y => { y with n := Px.valOf (kindT s r5 110).toList, nPl := kindA r5 110 }) (fun y => ⟨rfl, rfl, rfl⟩) M5.out (W := (((w5.setCell ⟨q, 7, none⟩ (.int .i64 (Px.valOf (kindT s r5 110).toList))).setCell ⟨q, 8, none⟩ (.int .i64 (kindA r5 110))).alloc (.cells #[.int .u8 kv5, .string (kindT s r5 110), .int .i64 (kindA r5 110), .int .i64 kx5] 96))) (((M5.out.kp.setN hq _).setN hq _).alloc _) (by simp) (fun i hi hne => by rw [Below.heap_alloc _ _ _ (by simpa [size_set] using hi), heap_set_ne _ hne, heap_set_ne _ hne])
          (fun y ve v1 v2 h => by rw [Below.heap_alloc _ _ _ (by simpa [size_set] using hq5), heap_set _ (heap_set _ h)]; simp [smCells]) (by rw [← pn]; exact ((M5.out.pen.setN (by omega) _).setN (by omega) _).alloc _)
          (fun x' st' hx => by
            obtain ⟨x, h1, h2⟩ := pr x' st' hx
            exact ⟨M5.out.nest h1, x, st', h1, h2⟩)
  case rest =>
  have N4 : Hid (Mk b s w0 q (thenR (thenR (thenR (thenR (thenR (thenR (callHead s st) (needX s ⟨#[40]⟩)) (Px.callArg s)) (needX s ⟨#[41]⟩)) (Px.callAs s)) (Px.callUndo s)) (Px.callTries s)) st.nest wc) := hcut
  clear hcut M4 N3 HB
  go_wp2_with fail
  refine (needU b s _ _ _ N4.out.pen hs).mono ?_
  rintro e w8 ⟨rfl, k8, p8⟩
  have M8 : Hid (Mk b s w0 q (thenR (thenR (thenR (thenR (thenR (thenR (thenR (callHead s st) (needX s ⟨#[40]⟩)) (Px.callArg s)) (needX s ⟨#[41]⟩)) (Px.callAs s)) (Px.callUndo s)) (Px.callTries s)) (needX s ⟨#[59]⟩)) st.nest w8) := N4.out.need hb hq k8 p8
  clear k8 p8 N4
  go_wp2_with fail
  go_end0
  rw [call_eq]
  exact ⟨rfl, M8.out⟩

end Ref
end Go.Proofs.YtcogbbneodihkaaGreatDoor

namespace Go.Proofs.YtcogbbneodihkaaGreatDoor
open Go.RowKit
namespace Ref

theorem Mk.post {b : Nat} {s : ByteArray} {w0 w : World} {q : Nat} {R : Except Nat (Px.Sm × Px.Ps)} {N : Int} (h : Mk b s w0 q R N w) (hq : w0.heap.size ≤ q) : StPost b s w0 R (.returned (ptr q)) w := by
  refine ⟨h.kp, q, rfl, ?_⟩
  obtain ⟨y, ve, a1, n1, c1, a2, n2, c2, h1, h2⟩ := h.cells
  have hp := h.pen
  have hqw : q < w.heap.size := (Array.getElem?_eq_some_iff.1 h1).1
  cases R with
  | error p => exact hp
  | ok r =>
    obtain ⟨x, st⟩ := r
    obtain ⟨e1, e2, q1, q2, e3, e4, e5, e6, e7⟩ := h2 x st rfl
    subst e1
    have hm : ∀ i, In w0 w i ∧ i ≠ q → In w0 w i := fun i hi => hi.1
    exact ⟨⟨⟨hq, hqw⟩, .pointer ve, .slice a1 n1 c1, .slice a2 n2 c2, q1, q2, h1, e3.mono hm, e4.mono hm, e5.mono hm, e6.mono hm, e7.mono hm⟩, hp.1⟩

theorem Mk.startF {b : Nat} {s : ByteArray} {w : World} {st : Px.Ps} {N : Int} (hN : st.nest = N) (hp : PSt w b s (.ok st)) :
    Mk b s w w.heap.size (.ok ({ Px.zeroS with op := 102 }, st)) N (w.alloc (.cells #[.int .u8 102, .string ⟨#[]⟩, .int .i64 0, .pointer none, .string ⟨#[]⟩, .int .i64 0, .string ⟨#[]⟩, .int .i64 0, .int .i64 0, .slice none 0 0, .slice none 0 0] 106)) := by
  refine ⟨(Kp.refl _ _).alloc _, ⟨{ Px.zeroS with op := 102 }, none, none, 0, 0, none, 0, 0, one_new (Kp.refl b _) hp.lt, fun x st' hx => ?_⟩, hp.alloc _⟩
  cases hx
  exact ⟨rfl, hN, [], [], rfl, Or.inl ⟨rfl, rfl⟩, SmsAt.nil_iff.2 rfl, Or.inl ⟨rfl, rfl⟩, SmsAt.nil_iff.2 rfl⟩

theorem Mk.start {b : Nat} {s : ByteArray} {w w1 : World} {st : Px.Ps} {N : Int} (hb : b < w.heap.size) (hN : st.nest = N)
    (k : Kp b (w.alloc (.cells #[.int .u8 0, .string ⟨#[]⟩, .int .i64 0, .pointer none, .string ⟨#[]⟩, .int .i64 0, .string ⟨#[]⟩, .int .i64 0, .int .i64 0, .slice none 0 0, .slice none 0 0] 106)) w1) (hp : PSt w1 b s (.ok st)) : Mk b s w w.heap.size (.ok (Px.zeroS, st)) N w1 := by
  refine ⟨k.of_alloc, ⟨Px.zeroS, none, none, 0, 0, none, 0, 0, one_new k hb, fun x st' hx => ?_⟩, hp⟩
  cases hx
  exact ⟨rfl, hN, [], [], rfl, Or.inl ⟨rfl, rfl⟩, SmsAt.nil_iff.2 rfl, Or.inl ⟨rfl, rfl⟩, SmsAt.nil_iff.2 rfl⟩

def oneX (s : ByteArray) (g : Px.Ps → Except Nat (Px.Sm × Px.Ps)) (y : Px.Sm) (st : Px.Ps) : Except Nat (Px.Sm × Px.Ps) :=
  match Px.block s g st with
  | .ok (l, st') => .ok ({ y with one := l }, st')
  | .error p => .error p

/-- Behind a block that is laid into the statement. -/
theorem Mk.one {b : Nat} {s : ByteArray} {w0 w w1 : World} {q : Nat} {R : Except Nat (Px.Sm × Px.Ps)} {N : Int} {g : Px.Ps → Except Nat (Px.Sm × Px.Ps)} {va : Option Addr} {vn vc : Nat} (h : Mk b s w0 q R N w) (hg : Px.Goes s g) (hb : b < w0.heap.size) (hq : w0.heap.size ≤ q) (hp : BlPost b s w ((R.map Prod.snd).bind (Px.block s g)) (.returned (.slice va vn vc)) w1) : Mk b s w0 q (thenR R (oneX s g)) N (w1.setCell ⟨q, 9, none⟩ (.slice va vn vc)) := by
  obtain ⟨k, va', vn', vc', he, h3⟩ := hp
  obtain ⟨rfl, rfl, rfl⟩ : va = va' ∧ vn = vn' ∧ vc = vc' := by simpa using he
  obtain ⟨y, ve, a1, n1, c1, a2, n2, c2, h1, h2⟩ := h.cells
  have hqw : q < w.heap.size := (Array.getElem?_eq_some_iff.1 h1).1
  have z := k.size
  have hc : (w1.setCell ⟨q, 9, none⟩ (.slice va vn vc)).heap[q]? = some (.cells (smCells y (.pointer ve) (.slice va vn vc) (.slice a2 n2 c2)) 106) := by
    rw [heap_set _ (Kp.heap k h1 (by omega))]; simp [smCells]
  have hkp : Kp b w0 (w1.setCell ⟨q, 9, none⟩ (.slice va vn vc)) := (h.kp.trans k).setN hq _
  have hbq : b ≠ q := by omega
  cases R with
  | error p =>
    exact ⟨hkp, ⟨y, ve, va, vn, vc, a2, n2, c2, hc, fun x st hx => by cases hx⟩, PSt.setN (r := .error p) h3 hbq _⟩
  | ok r =>
    obtain ⟨x, st⟩ := r
    obtain ⟨e1, e2, r1, r2, e3, e4, e5, e6, e7⟩ := h2 x st rfl
    subst e1
    have h3' : match Px.block s g st with
      | .ok (l, st) => ∃ qs, SlAt w1 (.slice va vn vc) qs (In w w1) ∧ SmsAt w1 l (In w w1) qs ∧ PenAt w1 b s st.t (-1) st.nest st.deep
      | .error p => ∃ t nest deep, PenAt w1 b s t ((p : Nat) : Int) nest deep := h3
    cases hr : Px.block s g st with
    | error p =>
      rw [hr] at h3'
      have er : thenR (.ok (y, st)) (oneX s g) = .error p := by simp [thenR, oneX, hr]
      rw [er]
      exact ⟨hkp, ⟨y, ve, va, vn, vc, a2, n2, c2, hc, fun x st hx => by cases hx⟩, PSt.setN (r := .error p) h3' hbq _⟩
    | ok r =>
      obtain ⟨e, st'⟩ := r
      rw [hr] at h3'
      obtain ⟨q', f1, f2, f3⟩ := h3'
      have er : thenR (.ok (y, st)) (oneX s g) = .ok ({ y with one := e }, st') := by simp [thenR, oneX, hr]
      have hgo := Px.block_goes hg _ _ _ (h.tk rfl) hr
      rw [er]
      have hk : ∀ i, In w0 w i ∧ i ≠ q → (w1.setCell ⟨q, 9, none⟩ (.slice va vn vc)).heap[i]? = w.heap[i]? := fun i hi => by rw [heap_set_ne _ hi.2]; exact k.block i hi.1.2 (by have := hi.1.1; omega)
      have hm : ∀ i, In w0 w i ∧ i ≠ q → In w0 (w1.setCell ⟨q, 9, none⟩ (.slice va vn vc)) i ∧ i ≠ q := fun i hi => ⟨⟨hi.1.1, by rw [size_set]; have := hi.1.2; omega⟩, hi.2⟩
      have z0 := h.kp.size
      have hk' : ∀ i, In w w1 i → (w1.setCell ⟨q, 9, none⟩ (.slice va vn vc)).heap[i]? = w1.heap[i]? := fun i hi => heap_set_ne _ (by have := hi.1; omega)
      have hm' : ∀ i, In w w1 i → In w0 (w1.setCell ⟨q, 9, none⟩ (.slice va vn vc)) i ∧ i ≠ q := fun i hi => ⟨⟨by have := hi.1; omega, by rw [size_set]; exact hi.2⟩, by have := hi.1; omega⟩
      refine ⟨hkp, ⟨{ y with one := e }, ve, va, vn, vc, a2, n2, c2, hc, fun x2 st2 hx => ?_⟩, PSt.setN (r := .ok st') ⟨f3, hgo.tk⟩ hbq _⟩
      cases hx
      exact ⟨rfl, hgo.nest.trans e2, q', r2, (e3.keep hk).mono hm, (f1.keep hk').mono hm', (f2.keep hk').mono hm', (e6.keep hk).mono hm, (e7.keep hk).mono hm⟩

def twoX (s : ByteArray) (g : Px.Ps → Except Nat (Px.Sm × Px.Ps)) (y : Px.Sm) (st : Px.Ps) : Except Nat (Px.Sm × Px.Ps) :=
  match Px.block s g st with
  | .ok (l, st') => .ok ({ y with two := l }, st')
  | .error p => .error p

/-- Behind a block that is laid into the statement. -/
theorem Mk.two {b : Nat} {s : ByteArray} {w0 w w1 : World} {q : Nat} {R : Except Nat (Px.Sm × Px.Ps)} {N : Int} {g : Px.Ps → Except Nat (Px.Sm × Px.Ps)} {va : Option Addr} {vn vc : Nat} (h : Mk b s w0 q R N w) (hg : Px.Goes s g) (hb : b < w0.heap.size) (hq : w0.heap.size ≤ q) (hp : BlPost b s w ((R.map Prod.snd).bind (Px.block s g)) (.returned (.slice va vn vc)) w1) : Mk b s w0 q (thenR R (twoX s g)) N (w1.setCell ⟨q, 10, none⟩ (.slice va vn vc)) := by
  obtain ⟨k, va', vn', vc', he, h3⟩ := hp
  obtain ⟨rfl, rfl, rfl⟩ : va = va' ∧ vn = vn' ∧ vc = vc' := by simpa using he
  obtain ⟨y, ve, a1, n1, c1, a2, n2, c2, h1, h2⟩ := h.cells
  have hqw : q < w.heap.size := (Array.getElem?_eq_some_iff.1 h1).1
  have z := k.size
  have hc : (w1.setCell ⟨q, 10, none⟩ (.slice va vn vc)).heap[q]? = some (.cells (smCells y (.pointer ve) (.slice a1 n1 c1) (.slice va vn vc)) 106) := by
    rw [heap_set _ (Kp.heap k h1 (by omega))]; simp [smCells]
  have hkp : Kp b w0 (w1.setCell ⟨q, 10, none⟩ (.slice va vn vc)) := (h.kp.trans k).setN hq _
  have hbq : b ≠ q := by omega
  cases R with
  | error p =>
    exact ⟨hkp, ⟨y, ve, a1, n1, c1, va, vn, vc, hc, fun x st hx => by cases hx⟩, PSt.setN (r := .error p) h3 hbq _⟩
  | ok r =>
    obtain ⟨x, st⟩ := r
    obtain ⟨e1, e2, r1, r2, e3, e4, e5, e6, e7⟩ := h2 x st rfl
    subst e1
    have h3' : match Px.block s g st with
      | .ok (l, st) => ∃ qs, SlAt w1 (.slice va vn vc) qs (In w w1) ∧ SmsAt w1 l (In w w1) qs ∧ PenAt w1 b s st.t (-1) st.nest st.deep
      | .error p => ∃ t nest deep, PenAt w1 b s t ((p : Nat) : Int) nest deep := h3
    cases hr : Px.block s g st with
    | error p =>
      rw [hr] at h3'
      have er : thenR (.ok (y, st)) (twoX s g) = .error p := by simp [thenR, twoX, hr]
      rw [er]
      exact ⟨hkp, ⟨y, ve, a1, n1, c1, va, vn, vc, hc, fun x st hx => by cases hx⟩, PSt.setN (r := .error p) h3' hbq _⟩
    | ok r =>
      obtain ⟨e, st'⟩ := r
      rw [hr] at h3'
      obtain ⟨q', f1, f2, f3⟩ := h3'
      have er : thenR (.ok (y, st)) (twoX s g) = .ok ({ y with two := e }, st') := by simp [thenR, twoX, hr]
      have hgo := Px.block_goes hg _ _ _ (h.tk rfl) hr
      rw [er]
      have hk : ∀ i, In w0 w i ∧ i ≠ q → (w1.setCell ⟨q, 10, none⟩ (.slice va vn vc)).heap[i]? = w.heap[i]? := fun i hi => by rw [heap_set_ne _ hi.2]; exact k.block i hi.1.2 (by have := hi.1.1; omega)
      have hm : ∀ i, In w0 w i ∧ i ≠ q → In w0 (w1.setCell ⟨q, 10, none⟩ (.slice va vn vc)) i ∧ i ≠ q := fun i hi => ⟨⟨hi.1.1, by rw [size_set]; have := hi.1.2; omega⟩, hi.2⟩
      have z0 := h.kp.size
      have hk' : ∀ i, In w w1 i → (w1.setCell ⟨q, 10, none⟩ (.slice va vn vc)).heap[i]? = w1.heap[i]? := fun i hi => heap_set_ne _ (by have := hi.1; omega)
      have hm' : ∀ i, In w w1 i → In w0 (w1.setCell ⟨q, 10, none⟩ (.slice va vn vc)) i ∧ i ≠ q := fun i hi => ⟨⟨by have := hi.1; omega, by rw [size_set]; exact hi.2⟩, by have := hi.1; omega⟩
      refine ⟨hkp, ⟨{ y with two := e }, ve, a1, n1, c1, va, vn, vc, hc, fun x2 st2 hx => ?_⟩, PSt.setN (r := .ok st') ⟨f3, hgo.tk⟩ hbq _⟩
      cases hx
      exact ⟨rfl, hgo.nest.trans e2, r1, q', (e3.keep hk).mono hm, (e4.keep hk).mono hm, (e5.keep hk).mono hm, (f1.keep hk').mono hm', (f2.keep hk').mono hm'⟩

def letHead (s : ByteArray) (st : Px.Ps) : Except Nat (Px.Sm × Px.Ps) :=
  match Px.kind s 119 st with
  | .ok st1 => .ok ({ Px.zeroS with op := 108, word := Px.txt s st.t, pl := st.t.a }, st1)
  | .error p => .error p

theorem letHead_pen {s : ByteArray} {st : Px.Ps} : (thenR (.ok (Px.zeroS, st)) (kindX s 119)).map Prod.snd = (letHead s st).map Prod.snd := by
  unfold thenR kindX letHead
  simp only
  cases Px.kind s 119 st <;> rfl

theorem let_eq (s : ByteArray) (st : Px.Ps) : Px.letS s st = thenR (thenR (thenR (letHead s st) (needX s ⟨#[61]⟩)) (exX s)) (needX s ⟨#[59]⟩) := by
  unfold Px.letS letHead
  cases Px.kind s 119 st with
  | error p => rfl
  | ok st1 =>
    simp only [thenR, needX]
    cases Px.need s ⟨#[61]⟩ st1 with
    | error p => rfl
    | ok st2 =>
      simp only [exX]
      cases Px.exprOf s st2 with
      | error p => rfl
      | ok r =>
        obtain ⟨e, st3⟩ := r
        simp only
        cases Px.need s ⟨#[59]⟩ st3 <;> rfl

def opS (op : Nat) (st : Px.Ps) : Except Nat (Px.Sm × Px.Ps) := .ok ({ Px.zeroS with op := op }, st)

def elseX (s : ByteArray) (g : Px.Ps → Except Nat (Px.Sm × Px.Ps)) (y : Px.Sm) (st : Px.Ps) : Except Nat (Px.Sm × Px.Ps) :=
  if Px.onB s st.t ⟨#[101, 108, 115, 101]⟩ then twoX s g y (Px.nx s st) else .ok (y, st)

theorem if_eq (s : ByteArray) (g : Px.Ps → Except Nat (Px.Sm × Px.Ps)) (st : Px.Ps) : Px.ifS s g st = thenR (thenR (thenR (opS 105 st) (exX s)) (oneX s g)) (elseX s g) := by
  unfold Px.ifS opS
  simp only [thenR, exX]
  cases Px.exprOf s st with
  | error p => rfl
  | ok r =>
    obtain ⟨e, st1⟩ := r
    simp only [oneX]
    cases Px.block s g st1 with
    | error p => rfl
    | ok r =>
      obtain ⟨l, st2⟩ := r
      simp only [elseX]
      by_cases h : Px.onB s st2.t ⟨#[101, 108, 115, 101]⟩ = true
      · rw [if_pos h, if_pos h]
        simp only [twoX]
        cases Px.block s g (Px.nx s st2) with
        | error p => rfl
        | ok r => obtain ⟨m, st3⟩ := r; rfl
      · rw [if_neg h, if_neg h]

theorem try_eq (s : ByteArray) (g : Px.Ps → Except Nat (Px.Sm × Px.Ps)) (st : Px.Ps) : Px.tryS s g st = thenR (thenR (thenR (opS 116 st) (oneX s g)) (needX s ⟨#[101, 108, 115, 101]⟩)) (twoX s g) := by
  unfold Px.tryS opS
  simp only [thenR, oneX]
  cases Px.block s g st with
  | error p => rfl
  | ok r =>
    obtain ⟨l, st1⟩ := r
    simp only [needX]
    cases Px.need s ⟨#[101, 108, 115, 101]⟩ st1 with
    | error p => rfl
    | ok st2 =>
      simp only [twoX]
      cases Px.block s g st2 with
      | error p => rfl
      | ok r => obtain ⟨m, st3⟩ := r; rfl

def repHead (s : ByteArray) (st : Px.Ps) : Except Nat (Px.Sm × Px.Ps) :=
  match Px.kind s 110 st with
  | .ok st1 => .ok ({ Px.zeroS with op := 114, n := Px.valOf (Px.txt s st.t).toList, nPl := st.t.a }, st1)
  | .error p => .error p
theorem repHead_pen {s : ByteArray} {st : Px.Ps} : (thenR (opS 114 st) (kindX s 110)).map Prod.snd = (repHead s st).map Prod.snd := by
  unfold thenR kindX repHead opS
  simp only
  cases Px.kind s 110 st <;> rfl
theorem rep_eq (s : ByteArray) (g : Px.Ps → Except Nat (Px.Sm × Px.Ps)) (st : Px.Ps) : Px.repeatS s g st = thenR (repHead s st) (oneX s g) := by
  unfold Px.repeatS repHead
  cases Px.kind s 110 st with
  | error p => rfl
  | ok st1 =>
    simp only [thenR, oneX]
    cases Px.block s g st1 with
    | error p => rfl
    | ok r => obtain ⟨m, st3⟩ := r; rfl
theorem fail_eq (s : ByteArray) (st : Px.Ps) : Px.failS s st = thenR (thenR (opS 102 st) (needX s ⟨#[102, 97, 105, 108]⟩)) (needX s ⟨#[59]⟩) := by
  unfold Px.failS opS
  simp only [thenR, needX]
  cases Px.need s ⟨#[102, 97, 105, 108]⟩ st with
  | error p => rfl
  | ok st1 =>
    simp only
    cases Px.need s ⟨#[59]⟩ st1 <;> rfl

theorem off_else {s : ByteArray} {g : Px.Ps → Except Nat (Px.Sm × Px.Ps)} {R : Except Nat (Px.Sm × Px.Ps)} (h : onR s (R.map Prod.snd) ⟨#[101, 108, 115, 101]⟩ = false) : thenR R (elseX s g) = R := by
  cases R with
  | error p => rfl
  | ok r =>
    obtain ⟨x, st⟩ := r
    have h' : Px.onB s st.t ⟨#[101, 108, 115, 101]⟩ = false := h
    simp [thenR, elseX, h']
theorem on_else {s : ByteArray} {g : Px.Ps → Except Nat (Px.Sm × Px.Ps)} {R : Except Nat (Px.Sm × Px.Ps)} (h : onR s (R.map Prod.snd) ⟨#[101, 108, 115, 101]⟩ = true) : thenR R (elseX s g) = thenR (thenR R (gotX s ⟨#[101, 108, 115, 101]⟩)) (twoX s g) := by
  obtain ⟨x, st, rfl, h1, h2⟩ := on_got h
  rw [h2]
  simp [thenR, elseX, h1]

/-- A statement's kind, stored. -/
theorem Mk.op {b : Nat} {s : ByteArray} {w0 w : World} {q : Nat} {st : Px.Ps} {N : Int} (o : Nat) (h : Mk b s w0 q (.ok (Px.zeroS, st)) N w) (hb : b < w0.heap.size) (hq : w0.heap.size ≤ q) : Mk b s w0 q (opS o st) N (w.setCell ⟨q, 0, none⟩ (.int .u8 (o : Int))) :=
  h.store (fun y => { y with op := o }) (fun _ => ⟨rfl, rfl, rfl⟩) (h.kp.setN hq _) (by rw [size_set]; exact Nat.le_refl _) (fun i _ hne => heap_set_ne _ hne) (fun y ve v1 v2 hh => by rw [heap_set _ hh]; simp [smCells]) (PSt.setN (r := .ok st) h.pen (by omega) _)
    (fun x' st' hx => by cases hx; exact ⟨h.nest rfl, Px.zeroS, st, rfl, rfl⟩)

end Ref
end Go.Proofs.YtcogbbneodihkaaGreatDoor
