import Derived.Test.YtcogbbneodihkaaGreatDoorQ33
import Derived.Test.YtcogbbneodihkaaGreatDoorQ17
import Derived.Test.YtcogbbneodihkaaGreatDoorQ28
import Derived.Test.YtcogbbneodihkaaGreatDoorQ29
import Derived.Test.YtcogbbneodihkaaGreatDoorP09
import Derived.Test.YtcogbbneodihkaaGreatDoorP15
import Derived.Lib.BufferRead
import Derived.Lib.SmallJoins
import Derived.Lib.LaidTab
import Derived.OpenShut
import Derived.ChangeMaps5
namespace Go.Proofs.YtcogbbneodihkaaGreatDoor
open Go.RowKit
namespace Px

theorem check_zero {s : ByteArray} {l : List Sm} (h : read s = .ok l) (h0 : (check s).1 = 0) : check s = (0, 0) := by
  unfold check at h0 ⊢
  rw [h] at h0 ⊢
  simp only at h0 ⊢
  split
  · rfl
  · rename_i hn
    rw [if_neg hn] at h0
    exact absurd h0 hn
theorem print_ok {s : ByteArray} {l : List Sm} (h : read s = .ok l) (h0 : (check s).1 = 0) : print s = (wrS l [], (0, 0)) := by
  unfold print
  rw [h]
  simp only
  rw [if_pos (check_zero h h0)]
theorem print_err {s : ByteArray} (h0 : (check s).1 ≠ 0) : print s = ([], check s) := by
  unfold print
  cases h : read s with
  | error r =>
    have : check s = r := by unfold check; rw [h]
    rw [this]
  | ok l =>
    simp only
    rw [if_neg (fun h1 => h0 (by rw [h1]))]

end Px
namespace Ref

theorem outX_ok (b : Nat) (x : Px.Sm) (hw : Px.WfH x) (i1 : OutS b x.one) (i2 : OutS b x.two) : OutX b x := by
  rcases hw.2 with ⟨h, _⟩ | h | ⟨h, _⟩ | h | h | h
  · exact outX_let b x h
  · exact outX_call b x h
  · by_cases h2 : x.two = []
    · exact outX_if1 b x h h2 i1
    · exact outX_if2 b x h h2 i1 i2
  · exact outX_try b x h i1 i2
  · exact outX_rep b x h i1
  · exact outX_fail b x h

theorem wfgd_get {l : List Px.Sm} (h : Px.WfS l) (g : Px.GdS l) (i : Nat) (hi : i < l.length) : Px.WfH l[i] ∧ Px.GdX l[i] := by
  induction l generalizing i with
  | nil => simp at hi
  | cons x l ih =>
    obtain ⟨h1, _, _, h4⟩ := Px.WfS_cons.1 h
    obtain ⟨g1, g2⟩ := Px.GdS_cons.1 g
    cases i with
    | zero => exact ⟨h1, g1⟩
    | succ i => exact ih h4 g2 i (by simpa using hi)

theorem outAll (b : Nat) (l : List Px.Sm) (hw : Px.WfS l) (hg : Px.GdS l) : ∀ i (hi : i < l.length), OutX b l[i] := by
  match l, hw, hg with
  | [], _, _ => intro i hi; simp at hi
  | ⟨op, word, pl, ex, asw, asPl, undo, n, nPl, one, two⟩ :: rest, hw, hg =>
    obtain ⟨w0, w1, w2, w3⟩ := Px.WfS_cons.1 hw
    obtain ⟨g0, g3⟩ := Px.GdS_cons.1 hg
    intro i hi
    cases i with
    | zero => exact outX_ok b _ w0 (outs_ok b one (outAll b one w1 g0.2.2.2.1) (wfgd_get w1 g0.2.2.2.1)) (outs_ok b two (outAll b two w2 g0.2.2.2.2) (wfgd_get w2 g0.2.2.2.2))
    | succ i => exact outAll b rest w3 g3 i (by simpa using hi)

theorem outS_ok (b : Nat) (l : List Px.Sm) (hw : Px.WfS l) (hg : Px.GdS l) : OutS b l := outs_ok b l (outAll b l hw hg) (wfgd_get hw hg)

def PrPost (s : ByteArray) (w : World) (e : Ending) (w' : World) : Prop :=
  Below w.heap.size w w' ∧ ∃ T : ByteArray, e = .returned (.tuple #[.string T, .int .i64 ((Px.print s).2.1 : Int), .int .i64 ((Px.print s).2.2 : Int)]) ∧ T.data.toList = (Px.print s).1

set_option maxRecDepth 100000 in
set_option maxHeartbeats 2000000 in
theorem print_any (s : ByteArray) (w : World) (hs : s.size ≤ maxLen) : Calls Tryz.prog 9 #[.string s] w (PrPost s w) := by
  go_enter Tryz.func9, Tryz.ntmps9
  go_wp2_with fail
  refine (looked_any s _ hs).mono ?_
  rintro e w1 ⟨hb, a, n, c, a', n', c', rfl, hr⟩
  have HB : Hid (Below w.heap.size w w1) := hb
  clear hb
  by_cases h0 : (Px.check s).1 = 0
  · obtain ⟨l, qs, h1, h2, h3⟩ := hr h0
    have hz := Px.check_zero h1 h0
    have hp : Hid (Px.print s = (Px.wrS l [], (0, 0))) := Px.print_ok h1 h0
    obtain ⟨hg, hsz⟩ := Px.read_sz h1
    have hwf := (Px.read_makes h1).1
    have t1 : (((Px.check s).1 : Int) != 0) = false := by rw [h0]; rfl
    have C1 : Hid (∀ W, Below w1.heap.size w1 W → OutAt W w1.heap.size [] → Calls Tryz.prog 14 #[.pointer (some ⟨w1.heap.size, 0, none⟩), .slice a n c] W (OPost w1.heap.size W (Px.wrS l []))) := fun W hW hO =>
      outS_ok w1.heap.size l hwf hg W [] (In w w1) _ qs (h2.keep fun i hi => hW.block i hi.2) (h3.keep fun i hi => hW.block i hi.2) (fun i hi => hi.2) hO (by simp; omega)
    have O1 : Hid (OutAt (w1.alloc (.cells #[.string ⟨#[]⟩] 47)) w1.heap.size []) := ⟨⟨#[]⟩, rfl, by show (w1.heap.push _)[w1.heap.size]? = _; rw [Array.getElem?_push, if_pos rfl]⟩
    clear hr h1 h2 h3 hg hsz hwf hs
    go_wp2_with fail
    refine (C1.out _ ((Below.refl _ _).alloc (Nat.le_refl _) _) O1.out).mono ?_
    rintro e w2 ⟨rfl, o2, b2⟩
    have B2 : Hid (Below w.heap.size w w2) := (HB.out.alloc HB.out.size _).trans (b2.mono HB.out.size)
    obtain ⟨S, hS, hc⟩ := o2
    obtain ⟨c0, fr⟩ := cell1 hc
    clear b2 hc
    have F : Hid (S.data.toList = (Px.print s).1) := by unfold Hid; rw [hp.out]; exact hS
    go_wp2_with fail
    go_ret3
    exact ⟨B2.out, S, by rw [hp.out]; rfl, F.out⟩
  · have t1 : (((Px.check s).1 : Int) != 0) = true := by rw [bne_iff_ne]; omega
    have hp : Hid (Px.print s = ([], Px.check s)) := Px.print_err h0
    clear hr
    go_wp2_with fail
    go_ret3
    exact ⟨HB.out, ⟨#[]⟩, by rw [hp.out]; rfl, by rw [hp.out]⟩

end Ref
end Go.Proofs.YtcogbbneodihkaaGreatDoor

namespace Go.Proofs.YtcogbbneodihkaaGreatDoor
open Go.RowKit
namespace Lg

theorem ws_ok (b : Nat) (x : Px.Sm) (hw : Px.WfH x) (i1 : WBlockOk b x.one) (i2 : WBlockOk b x.two) : WsOk b x := by
  intro w o tl ql hs h g hg hl
  obtain ⟨v1, v2, u1, u2, ⟨q, hq, hnd⟩, s1, l1, s2, l2⟩ := hs
  obtain ⟨g0, g9, ge, g1, g2⟩ := hg
  unfold Px.szX at hl
  rw [Px.wrX_eq]
  rcases hnd with ⟨h0, h1, qv, tl', ql', e, h2, h3, h4, h5⟩ | ⟨h0, h1, pa, ps, qn, h2, h3, h4, h5⟩ | ⟨h0, h1, qr, e, h2, h3, h4⟩ | ⟨h0, h1, h2⟩ | ⟨h0, h1, qn, h2, h3⟩ | ⟨h0, h1⟩
  · cases h1
    rw [if_pos h0, h4]
    rw [h4, Px.szO] at hl
    exact Or.inl ⟨rfl, let_write b _ qv tl' ql' x.pl x.word e (hw.1 e h4) o w hq h2 h3 h5 h g (ge e h4) (g0 (Or.inl h0)) (by omega)⟩
  · cases h1
    rw [if_neg (by omega), if_pos h0]
    exact Or.inr (Or.inl ⟨rfl, call_write b _ qn x.n x.nPl x.asPl x.word x.undo x.asw pa ps x.ex hw.1 o w hq h2 h3 h4 h5 h g ge (g0 (Or.inr h0)) g9 (by omega)⟩)
  · cases h1
    rw [if_neg (by omega), if_neg (by omega), if_pos h0, h3]
    rw [h3, Px.szO] at hl
    exact Or.inr (Or.inr (Or.inl ⟨rfl, if_write b _ qr e (hw.1 e h3) x.one x.two i1 i2 o w v1 v2 u1 u2 hq h2 h4 s1 l1 s2 l2 h g (ge e h3) g1 g2 (by omega)⟩))
  · cases h1
    rw [if_neg (by omega), if_neg (by omega), if_neg (by omega), if_pos h0]
    exact Or.inr (Or.inr (Or.inr (Or.inl ⟨rfl, try_write b _ x.one x.two i1 i2 o w v1 v2 u1 u2 hq h2 s1 l1 s2 l2 h g g1 g2 (by omega)⟩)))
  · cases h1
    rw [if_neg (by omega), if_neg (by omega), if_neg (by omega), if_neg (by omega), if_pos h0]
    exact Or.inr (Or.inr (Or.inr (Or.inr (Or.inl ⟨rfl, repeat_write b _ qn x.n x.nPl x.one i1 o w v1 u1 hq h2 h3 s1 l1 h g g9 g1 (by omega)⟩))))
  · cases h1
    rw [if_neg (by omega), if_neg (by omega), if_neg (by omega), if_neg (by omega), if_neg (by omega)]
    exact Or.inr (Or.inr (Or.inr (Or.inr (Or.inr ⟨rfl, fail_write b _ o w h (by omega)⟩))))

theorem wall_ok (b : Nat) (l : List Px.Sm) (hw : Px.WfS l) : ∀ i (hi : i < l.length), WsOk b l[i] := by
  match l, hw with
  | [], _ => intro i hi; simp at hi
  | ⟨op, word, pl, ex, asw, asPl, undo, n, nPl, one, two⟩ :: rest, hw =>
    obtain ⟨w0, w1, w2, w3⟩ := Px.WfS_cons.1 hw
    intro i hi
    cases i with
    | zero => exact ws_ok b _ w0 (wblock_any b one (wstmts_any b one (wall_ok b one w1))) (wblock_any b two (wstmts_any b two (wall_ok b two w2)))
    | succ i => exact wall_ok b rest w3 i (by simpa using hi)

theorem wstmts_ok (b : Nat) (l : List Px.Sm) (hw : Px.WfS l) : StmtsOk b l := wstmts_any b l (wall_ok b l hw)

theorem Gp.below {w w' : World} (g : Gp w w.heap.size) (h : Below w.heap.size w w') : Gp w' w.heap.size := by
  have hl := g.lo
  refine ⟨Joins.tab_stays gPow g.tab h (Nat.le_refl _), fun j hj => ?_, hl⟩
  rw [World.cell?_of_block (w := w) (h.block _ (by show 8 < w.heap.size; omega))]
  exact g.ops j hj

/-- What the writer holds, as a string. -/
theorem written {w : World} {b : Nat} {o : List UInt8} (h : WrAt w b o) : ∃ a n c, w.heap[b]? = some (.cells #[.slice a n c] 64) ∧ (convert 62 9 (.slice a n c)).run Tryz.prog w = .ok (.string ⟨o.toArray⟩) w := by
  obtain ⟨v, h1, h2⟩ := h
  rcases h2.2 with ⟨h3, h4⟩ | ⟨g, cap, cur, h3, h4, h5, h6, h7, h8, h9⟩
  · subst h3
    have : o = [] := List.length_eq_zero_iff.1 h4
    subst this
    exact ⟨none, 0, 0, h1, Lib.run_convert_nil_bytes w _ _ 5 0 Tryz.underlying62 Tryz.underlying5 Tryz.underlying9⟩
  · subst h3
    refine ⟨_, _, _, h1, run_convert_bytes_back (P := Tryz.prog) w _ _ 5 ⟨g, 0, none⟩ cap o Tryz.underlying62 Tryz.underlying5 Tryz.underlying9 (Lib.bytes_of_row h5 ?_)⟩
    rw [Nat.mul_one] at h9
    exact h9

def LPost (l : List Px.Sm) (w : World) (e : Ending) (w' : World) : Prop := e = .returned (.string ⟨(Px.wrS l []).toArray⟩) ∧ Below w.heap.size w w'

set_option maxRecDepth 100000 in
theorem lprint_any (l : List Px.Sm) (hw : Px.WfS l) (hg : Px.GdS l) (hz : Px.szS l ≤ 1000000000) (w : World) (v : Value) (vs : List Value) (hs : SlL w v vs (· < w.heap.size)) (hm : LsAt w l (· < w.heap.size) vs) (g : Gp w w.heap.size) :
    Calls Tryz.prog 13 #[v] w (LPost l w) := by
  obtain ⟨a, n, c, rfl⟩ := hs.form
  have hb : Below w.heap.size w (w.alloc (.cells #[.slice none 0 0] 64)) := (Below.refl _ _).alloc (Nat.le_refl _) _
  have C1 : Hid (Calls Tryz.prog 21 #[.pointer (some ⟨w.heap.size, 0, none⟩), .slice a n c] (w.alloc (.cells #[.slice none 0 0] 64)) (WPost w.heap.size (w.alloc (.cells #[.slice none 0 0] 64)) (Px.wrS l []))) :=
    wstmts_ok w.heap.size l hw _ [] _ vs (hs.keep fun i hi => hb.block i hi) (hm.keep fun i hi => hb.block i hi) ⟨_, new1, World.ownsRow_nil _ _ _ _⟩ (g.below hb) hg (by simpa using hz)
  have HB : Hid (Below w.heap.size w (w.alloc (.cells #[.slice none 0 0] 64))) := hb
  clear hw hg hz hs hm g hb
  go_enter Tryz.func13, Tryz.ntmps13
  go_wp2_with fail
  refine C1.out.mono ?_
  rintro e w1 ⟨rfl, h1, f1⟩
  obtain ⟨a1, n1, c1, hc, hcv⟩ := written h1
  obtain ⟨c0, fr⟩ := cell1' hc
  have L1 : Hid (Below w.heap.size w w1) := HB.out.trans f1.below
  clear h1 f1 hc
  go_wp2_with fail
  go_ret
  exact ⟨rfl, L1.out⟩

def PPost (s : ByteArray) (w : World) (e : Ending) (w' : World) : Prop :=
  Below w.heap.size w w' ∧ ∃ T : ByteArray, e = .returned (.tuple #[.string T, .int .i64 ((Px.print s).2.1 : Int), .int .i64 ((Px.print s).2.2 : Int)]) ∧ T.data.toList = (Px.print s).1

set_option maxRecDepth 100000 in
set_option maxHeartbeats 1000000 in
theorem print_any (E : Nat → Addr) (s : ByteArray) (w : World) (hs : s.size ≤ maxLen) (g : Gw w E) (ht : Lib.TabIs Tryz.prog w "internal/strconv.uint64pow10" .u64 Lib.pow10Tab) :
    Calls Tryz.prog 8 #[.string s] w (PPost s w) := by
  have G0 : Hid (Gw w E) := g
  have T0 : Hid (Lib.TabIs Tryz.prog w "internal/strconv.uint64pow10" .u64 Lib.pow10Tab) := ht
  have HR : Hid (Calls Tryz.prog 10 #[.string s] w (ReadPost s E w)) := read_any E (fun l hl c m B => block_ok c m B E l hl) s w hs g
  clear g hs ht
  go_enter Tryz.func8, Tryz.ntmps8
  go_wp2_with fail
  refine HR.out.mono ?_
  rintro e w1 ⟨hb, v, er, rfl, hc⟩
  have HB : Hid (Below w.heap.size w w1) := hb
  have G1 : Hid (Gw w1 E) := G0.out.below hb
  have T1 : Hid (Lib.TabIs Tryz.prog w1 "internal/strconv.uint64pow10" .u64 Lib.pow10Tab) := Joins.tab_stays gPow T0.out hb (Nat.le_refl _)
  clear hb
  rcases hc with ⟨h1, rfl, l, vs, h2, h3, h4⟩ | ⟨h1, rfl⟩ | ⟨c, p, f, h2, h3, h1, rfl, hF⟩
  · have hp : Hid (Px.print s = (Px.wrS l [], (0, 0))) := Px.print_ok h2 (by rw [h1])
    obtain ⟨hg, hsz⟩ := Px.read_sz h2
    have C1 : Hid (Calls Tryz.prog 13 #[v] w1 (LPost l w1)) := lprint_any l (Px.read_makes h2).1 hg (by omega) w1 v vs h3 h4 ⟨T1.out, G1.out.ops, G1.out.lo⟩
    obtain ⟨a, n, cp, rfl⟩ := h3.form
    clear h1 h2 h3 h4 hg hsz
    go_wp2_with fail
    refine C1.out.mono ?_
    rintro e w2 ⟨rfl, b2⟩
    have B2 : Hid (Below w.heap.size w w2) := HB.out.trans (b2.mono HB.out.size)
    clear b2
    go_wp2_with fail
    go_ret3
    exact ⟨B2.out, _, by rw [hp.out]; rfl, by rw [hp.out]⟩
  · have hp : Hid (Px.print s = ([], Px.check s)) := Px.print_err (by rw [h1]; decide)
    go_wp2_with fail
    refine (told_long E _ G1.out.s).mono ?_
    rintro e w2 ⟨rfl, b2⟩
    have B2 : Hid (Below w.heap.size w w2) := HB.out.trans (b2.mono HB.out.size)
    clear b2
    go_wp2_with fail
    go_ret3
    exact ⟨B2.out, ⟨#[]⟩, by rw [hp.out, h1]; rfl, by rw [hp.out]⟩
  · have HF : Hid (FltAt w1 f p (E c)) := hF
    have hp : Hid (Px.print s = ([], Px.check s)) := Px.print_err (by rw [h1]; show c ≠ 0; omega)
    clear hF
    go_wp2_with fail
    refine (told_fault E c p f _ G1.out.s HF.out ⟨h2, h3⟩).mono ?_
    rintro e w2 ⟨rfl, b2⟩
    have B2 : Hid (Below w.heap.size w w2) := HB.out.trans (b2.mono HB.out.size)
    clear b2
    go_wp2_with fail
    go_ret3
    exact ⟨B2.out, ⟨#[]⟩, by rw [hp.out, h1]; rfl, by rw [hp.out]⟩

end Lg
end Go.Proofs.YtcogbbneodihkaaGreatDoor

namespace Go.Proofs.YtcogbbneodihkaaGreatDoor
open Go.ChangeShapes Go.WideShapes Go.RowKit
namespace LawP
open Law

theorem yPow : (Tryz.prog.globals[11]?).map (·.type) = some 241 := by kernel_rfl
theorem cU64 : Tryz.prog.cellsOf 214 = 1 := by kernel_rfl
theorem cPow : Tryz.prog.cellsOf 241 = 20 := by kernel_rfl

set_option maxRecDepth 100000 in
theorem gwp_of {W : World} (h : laidMetH Tryz.prog Rows.printsRow.laid W) : ∃ E, Lg.Gw W E ∧ Lib.TabIs Tryz.prog W "internal/strconv.uint64pow10" .u64 Lib.pow10Tab := by
  have h1 : laidMetH Tryz.prog Rows.checksRow.laid W := h
  obtain ⟨E, hE⟩ := gw_of h1
  have h' : laidMet Tryz.prog [("math/bits.deBruijn32tab", Rows.laid_math_bits_deBruijn32tab), ("math/bits.deBruijn64tab", Rows.laid_math_bits_deBruijn64tab), ("internal/strconv.uint64pow10", Rows.laid_internal_strconv_uint64pow10), ("strconv.ErrRange", Rows.laid_strconv_ErrRange), ("strconv.ErrSyntax", Rows.laid_strconv_ErrSyntax), ("errand/lang.ErrLong", Rows.laid_errand_lang_ErrLong), ("errand/lang.ErrText", Rows.laid_errand_lang_ErrText), ("errand/lang.ErrNest", Rows.laid_errand_lang_ErrNest), ("errand/lang.ErrCount", Rows.laid_errand_lang_ErrCount), ("errand/lang.ErrName", Rows.laid_errand_lang_ErrName), ("errand/lang.ErrType", Rows.laid_errand_lang_ErrType), ("errand/lang.ops", Rows.laid_errand_lang_ops)] W ∧ handlesMet Tryz.prog [("errors.errorType", Rows.laid_errors_errorType)] W := h
  exact ⟨E, hE, Lib.tabIs_of_head (k := .u64) (zs := Lib.pow10Tab) Lg.gPow yPow Tryz.underlying241 Tryz.underlying214 cU64 cPow h'.1.tail.tail⟩

set_option maxRecDepth 100000 in
theorem prints_walk (E : Nat → Addr) (s : ByteArray) (w : World) (hs : s.size ≤ maxLen) (g : Lg.Gw w E) (ht : Lib.TabIs Tryz.prog w "internal/strconv.uint64pow10" .u64 Lib.pow10Tab) :
    Calls Tryz.prog 4 #[.string s] w fun e w' => e = .returned (.bool true) ∧ Below w.heap.size w w' := by
  have H1 : Hid (Calls Tryz.prog 8 #[.string s] w (Lg.PPost s w)) := Lg.print_any E s w hs g ht
  have H2 : Hid (∀ W, Calls Tryz.prog 9 #[.string s] W (Ref.PrPost s W)) := fun W => Ref.print_any s W hs
  clear g hs ht
  go_enter Tryz.func4, Tryz.ntmps4
  go_wp2_with fail
  refine H1.out.mono ?_
  rintro e w1 ⟨b1, T, rfl, hT⟩
  go_wp2_with fail
  refine (H2.out _).mono ?_
  rintro e w2 ⟨b2, T', rfl, hT'⟩
  obtain rfl : T = T' := by
    obtain ⟨⟨l⟩⟩ := T
    obtain ⟨⟨l'⟩⟩ := T'
    have : l = l' := hT.trans hT'.symm
    rw [this]
  have HB : Hid (Below w.heap.size w w2) := b1.trans (b2.mono b1.size)
  clear b1 b2 hT hT'
  generalize Px.print s = r at *
  obtain ⟨o, a, b⟩ := r
  go_wp2_with fail
  refine (num_any _ _).mono ?_
  rintro e w3 ⟨rfl, rfl⟩
  go_wp2_with fail
  go_ret
  exact ⟨rfl, HB.out⟩

end LawP
end Go.Proofs.YtcogbbneodihkaaGreatDoor

namespace Go.Proofs.YtcogbbneodihkaaGreatDoor
open Go.ChangeShapes Go.WideShapes Go.ChangeAt Go.RowKit
namespace LawP
open Law

set_option maxRecDepth 100000 in
theorem laid_met (os : Os) : laidMetH Tryz.prog Rows.printsRow.laid ((laidWorld Tryz.prog os).forCall (fun _ _ => 0) ⟨#[], #[.string ⟨#[]⟩], []⟩).memory :=
  laidMetH_of_parts (laidMet_of_run' 8 (by kernel_rfl) (by kernel_rfl)) (by kernel_rfl)
theorem reads (os : Os) {H : Type} (enc : TypeId × Value → H) : ∃ places, DataW.whole enc Tryz.prog ((laidWorld Tryz.prog os).forCall (fun _ _ => 0) ⟨#[], #[.string ⟨#[]⟩], []⟩).memory Tryz.f4.params.toList Rows.printsSpec.vars false #[Value.string ⟨#[]⟩].toList 8 = some ([.lit (.string [])], [], places) :=
  ⟨[], by kernel_rfl⟩

end LawP
end Go.Proofs.YtcogbbneodihkaaGreatDoor

namespace Go.Proofs.YtcogbbneodihkaaGreatDoor
open Go.ChangeShapes Go.WideShapes Go.ChangeAt Go.RowKit
namespace LawP
open Law

set_option maxRecDepth 100000 in
theorem contract (H : Type) (enc : TypeId × Value → H) (W : World) (base : Nat) (args : Array Value) (ds gs : List (DataW H)) (before : List MemPlace)
    (hval : ∀ (j : Nat) t v, Tryz.f4.params[j]? = some t → args[j]? = some v → Value.okWide Tryz.prog W .any base t v)
    (hW : DataW.Whole enc Tryz.prog Tryz.f4.params.toList Rows.printsSpec.vars false W args.toList ds gs before) (hL : laidMetH Tryz.prog Rows.printsRow.laid W) :
    Calls Tryz.prog 4 args W fun e W' => ∃ v, e = .returned v ∧ Rows.printsSpec.post enc Tryz.prog Tryz.f4 false true false false W args v W' := by
  have hW' := hW
  obtain ⟨p, q, hA0, hV, rfl, hfz, hnd⟩ := hW
  have hA : DataW.TrodAll enc Tryz.prog W 0 (fun _ => true) true Tryz.f4.params.toList args.toList ds p := hA0
  rw [Tryz.params4] at hA hval
  obtain ⟨v0, d0, rfl, rfl, h0⟩ := trodAll_one hA
  obtain ⟨rfl, rfl⟩ := trodVars_none hV
  obtain ⟨s, rfl, rfl, rfl, ws⟩ := ChangeMaps.open_string Tryz.underlying9 (hval 0 9 v0 rfl rfl) h0
  obtain ⟨E, hg, ht⟩ := gwp_of hL
  clear hA0 hval hL
  refine (prints_walk E s W ws hg ht).mono fun e W' ⟨he, hb⟩ => ?_
  subst he
  refine ⟨_, rfl, _, _, _, [], [], [], hW', ?_, ?_, rfl, hb.frame _, fun h => by cases h⟩
  · exact trodAll_mk1 (shut_bool Tryz.underlying4 true)
  · exact trodAll_mk1 (ChangeMaps.shut_string Tryz.underlying9 ws)

set_option maxRecDepth 100000 in
theorem lifted (os : Os) (started : os.Started) (H : Type) (enc : TypeId × Value → H) (F : Stop.Interp) :
    ReturnsInHanded {} Tryz.checked os 4 .any ((OpenSpec.ofChange Rows.printsSpec).preRow enc Tryz.prog Tryz.f4 Rows.printsRow.domain false Rows.printsRow.laid) (((OpenSpec.ofChange Rows.printsSpec).at F).post enc Tryz.prog Tryz.f4 false true false false) := by
  obtain ⟨places, hx⟩ := reads os enc
  refine returnsInHanded_of_row (C := Tryz.checked) (s := OpenSpec.ofChange Rows.printsSpec) own started (by kernel_rfl) Tryz.func4
    (witness_row_at (enc := enc) (C := Tryz.checked) false (laidWorld Tryz.prog os) #[.string ⟨#[]⟩] rfl (by kernel_rfl) (by kernel_rfl) (by kernel_rfl)
      (OpenSpec.preRow_of_cond 8 hx (by kernel_rfl) (fun k hk => by cases hk) (by kernel_rfl) (laid_met os))) ?_
  intro W base args ds gs before hval hW _ _ _ hL _ _
  exact contract H enc W base args ds gs before hval hW hL

theorem said : Rows.PrintsSaid :=
  OpenClaim.holds_of_cond 4 Tryz.f4 rfl rfl rfl rfl rfl rfl rfl ⟨rfl, rfl, rfl, rfl, rfl⟩ rfl rfl rfl rfl rfl (by kernel_rfl) Tryz.func4 (by kernel_rfl)
    (of_decide_eq_true (by kernel_rfl)) (by unfold Func.isWrapper; first | (rw [if_pos (by decide +kernel)]; kernel_rfl) | (rw [if_neg (by decide +kernel)]; exact ⟨rfl, rfl⟩))
    (fun os started H enc _ F => by rw [OpenClaim.pre_eq_preRow]; exact lifted os started H enc F)

theorem plain (f : FuncId) (fn : Func) (hf : Tryz.pinned.checked.prog.funcNamed "errand/errandlaw.Prints" = some f) (hfn : Tryz.pinned.checked.prog.funcs[f]? = some fn) :
    true = Tryz.pinned.checked.prog.looks [] ∧ ∀ (j : Nat) t, fn.params[j]? = some t → Tryz.pinned.checked.prog.wantsStandIn t = false := by
  obtain rfl : f = 4 := Option.some.inj ((show Tryz.prog.funcNamed "errand/errandlaw.Prints" = some 4 by kernel_rfl).symm.trans hf) |>.symm
  obtain rfl : fn = Tryz.f4 := (Option.some.inj (Tryz.func4.symm.trans hfn)).symm
  refine ⟨by kernel_rfl, fun j t ht => ?_⟩
  rw [Tryz.params4] at ht
  obtain rfl : t = 9 := by simpa using Array.mem_of_getElem? ht
  exact (show Tryz.prog.wantsStandIn 9 = false by kernel_rfl)

theorem prints_card : Rows.PrintsCardSaid :=
  Claim7.holds_tied_plain_at .later [] _ _ _ _ said (fun _ h => by cases h) (by kernel_rfl) (fun _ h => by cases h) prints_row_tie rfl ⟨rfl, rfl⟩ (by kernel_rfl) rfl plain (by kernel_rfl)

end LawP

/-- P3: an errand in few signs: at every text. -/
theorem prints_holds : Rows.PrintsCardSaid := LawP.prints_card

end Go.Proofs.YtcogbbneodihkaaGreatDoor
