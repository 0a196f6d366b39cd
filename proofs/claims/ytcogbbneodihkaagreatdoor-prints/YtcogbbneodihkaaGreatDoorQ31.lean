import Derived.Test.YtcogbbneodihkaaGreatDoorQ30
import Derived.Test.YtcogbbneodihkaaGreatDoorQ18
import Derived.Test.YtcogbbneodihkaaGreatDoorQ17
namespace Go.Proofs.YtcogbbneodihkaaGreatDoor
open Go.RowKit
namespace Ref

theorem outD_ok (b : Nat) (x : Px.Ex) (hw : Px.WfE x) : OutD b x := by
  match x, hw with
  | ⟨op, n, word, pl, own, none, none⟩, hw => exact out_leaf b op n word pl own hw
  | ⟨op, n, word, pl, own, some l, none⟩, hw =>
    obtain ⟨rfl, h⟩ := hw
    exact out_not b n word pl own l (out_brk b l (outD_ok b l h))
  | ⟨op, n, word, pl, own, some l, some r⟩, hw => exact out_pair b op n word pl own l r hw.1 (out_brk b l (outD_ok b l hw.2.1)) (out_brk b r (outD_ok b r hw.2.2))
  | ⟨_, _, _, _, _, none, some _⟩, hw => exact hw.elim

/-- A whole expr, printed. -/
theorem outE0 (b : Nat) (x : Px.Ex) (hw : Px.WfE x) (w : World) (o : List UInt8) (ok : Nat → Prop) (q : Nat) (hx : ExAt w x ok q) (hok : ∀ i, ok i → i < b) (h : OutAt w b o) (hg : Px.GdE x) (hl : o.length + Px.szE x ≤ 1000000000) :
    Calls Tryz.prog 37 #[.pointer (some ⟨b, 0, none⟩), .pointer (some ⟨q, 0, none⟩), .int .i64 0] w (OPost b w (Px.wrE x o)) :=
  outD_ok b x hw w o ok q 0 hx hok h hg hl (Nat.zero_le _)

def OutX (b : Nat) (x : Px.Sm) : Prop := ∀ (w : World) (o : List UInt8) (ok : Nat → Prop) (q : Nat), SmAt w x ok q → (∀ i, ok i → i < b) → OutAt w b o → Px.WfH x → Px.GdX x → o.length + Px.szX x ≤ 1000000000 →
  Calls Tryz.prog 22 #[.pointer (some ⟨b, 0, none⟩), .pointer (some ⟨q, 0, none⟩)] w (OPost b w (Px.wrX x o))
def OutS (b : Nat) (l : List Px.Sm) : Prop := ∀ (w : World) (o : List UInt8) (ok : Nat → Prop) (v : Value) (qs : List Nat), SlAt w v qs ok → SmsAt w l ok qs → (∀ i, ok i → i < b) → OutAt w b o → o.length + Px.szS l ≤ 1000000000 →
  Calls Tryz.prog 14 #[.pointer (some ⟨b, 0, none⟩), v] w (OPost b w (Px.wrS l o))

set_option maxRecDepth 100000 in
theorem outs_ok (b : Nat) (l : List Px.Sm) (hx : ∀ i (hi : i < l.length), OutX b l[i]) (hwf : ∀ i (hi : i < l.length), Px.WfH l[i] ∧ Px.GdX l[i]) : OutS b l := by
  intro w o ok v qs hs hm hok ho hc
  obtain ⟨va, vc, rfl, hml⟩ := hs.len
  unfold maxLen at hml
  have hlen := hm.len
  have H : Hid (SlAt w (.slice va qs.length vc) qs ok ∧ SmsAt w l ok qs ∧ (∀ i, ok i → i < b) ∧ OutAt w b o) := ⟨hs, hm, hok, ho⟩
  have HX : Hid (∀ i (hi : i < l.length), OutX b l[i] ∧ Px.WfH l[i] ∧ Px.GdX l[i]) := fun i hi => ⟨hx i hi, hwf i hi⟩
  have HLen : Hid (qs.length = l.length) := hlen
  clear hs hm hok ho hx hwf hlen
  go_enter Tryz.func14, Tryz.ntmps14
  go_wp2_with fail
  go_loopw [4] (fun i wr => ∃ n : Nat, n ≤ qs.length ∧ i = .int .i64 n ∧ Hid (Below b w wr ∧ ∃ o', OutAt wr b o' ∧ Px.wrS (l.drop n) o' = Px.wrS l o ∧ o'.length + Px.szS (l.drop n) ≤ 1000000000)) (fun i _ => qs.length - (intOf i).toNat)
  case atStart => exact ⟨0, by omega, rfl, Below.refl _ _, o, H.out.2.2.2, rfl, hc⟩
  case round =>
    obtain ⟨n, hn, rfl, hr⟩ := hrel
    obtain ⟨hb, o', ho', he, hv⟩ := hr.out
    clear hr
    by_cases hlt : n < qs.length
    · have hnl : n < l.length := by have := HLen.out; omega
      obtain ⟨q, hq1, hq2⟩ := H.out.2.1.get n hnl
      obtain ⟨g, cap, hgv, hg, hcell⟩ := H.out.1.cell hq1
      cases hgv
      have hcr : wr.cell? ⟨g, n, none⟩ = some (.pointer (some ⟨q, 0, none⟩)) := by rw [hb.cell (p := ⟨g, n, none⟩) (H.out.2.2.1 g hg)]; exact hcell
      have hq3 : SmAt wr l[n] ok q := hq2.keep fun i hi => hb.block i (H.out.2.2.1 i hi)
      have hdrop : l.drop n = l[n] :: l.drop (n + 1) := List.drop_eq_getElem_cons hnl
      rw [hdrop, Px.wrS_cons] at he
      rw [hdrop, Px.szS_cons] at hv
      have hxl := Px.wrX_len (x := l[n]) (Px.wrS_len _) (Px.wrS_len _) o'
      have HH : Hid (Below b w wr ∧ OutAt wr b o' ∧ Px.wrS (l.drop (n + 1)) (Px.wrX l[n] o') = Px.wrS l o ∧ SmAt wr l[n] ok q ∧ o'.length + (Px.szX l[n] + Px.szS (l.drop (n + 1))) ≤ 1000000000 ∧ (Px.wrX l[n] o').length ≤ o'.length + Px.szX l[n]) := ⟨hb, ho', he, hq3, hv, hxl⟩
      clear hb ho' he hq3 hcell hq2 hdrop hv hxl
      go_wp2_with fail
      refine ((HX.out n hnl).1 _ o' ok q HH.out.2.2.2.1 H.out.2.2.1 HH.out.2.1 (HX.out n hnl).2.1 (HX.out n hnl).2.2 ?hcnt).mono ?_
      case hcnt => have := HH.out.2.2.2.2.1; omega
      rintro e w1 ⟨rfl, l1, b1⟩
      have L1 : Hid (_ ∧ _) := ⟨l1, b1⟩
      clear l1 b1
      go_wp2_with fail
      refine ⟨⟨n + 1, by omega, by go_num, HH.out.1.trans L1.out.2, Px.wrX l[n] o', L1.out.1, HH.out.2.2.1, ?_⟩, by simp [intOf]; omega⟩
      have := HH.out.2.2.2.2.1
      have := HH.out.2.2.2.2.2
      omega
    · have hnl : l.drop n = [] := List.drop_of_length_le (by have := HLen.out; omega)
      rw [hnl, Px.wrS_nil] at he
      have HH : Hid (Below b w wr ∧ OutAt wr b (Px.wrS l o)) := ⟨hb, by rw [← he]; exact ho'⟩
      clear hb ho' he hnl hv
      go_wp2_with fail
      go_end0
      exact ⟨rfl, HH.out.2, HH.out.1⟩

set_option maxRecDepth 100000 in
theorem outB_ok (b : Nat) (l : List Px.Sm) (hs : OutS b l) (w : World) (o : List UInt8) (ok : Nat → Prop) (v : Value) (qs : List Nat) (h1 : SlAt w v qs ok) (h2 : SmsAt w l ok qs) (hok : ∀ i, ok i → i < b) (h : OutAt w b o) (hc : o.length + Px.szS l + 4 ≤ 1000000000) :
    Calls Tryz.prog 39 #[.pointer (some ⟨b, 0, none⟩), v] w (OPost b w (Px.wrB l o)) := by
  obtain ⟨va, vc, rfl, _⟩ := h1.len
  have s1 := Px.sgn_len o [123]
  have s2 := Px.wrS_len l (Px.sgn o [123])
  simp only [List.length_cons, List.length_nil] at s1
  have C1 : Hid (Calls Tryz.prog 36 #[.pointer (some ⟨b, 0, none⟩), .string ⟨#[123]⟩] w (OPost b w (Px.sgn o [123]))) := outSign b o ⟨#[123]⟩ w h (by decide) (by show o.length + 1 ≤ _; omega)
  have C2 : Hid (∀ W, Below b w W → OutAt W b (Px.sgn o [123]) → Calls Tryz.prog 14 #[.pointer (some ⟨b, 0, none⟩), .slice va qs.length vc] W (OPost b W (Px.wrS l (Px.sgn o [123])))) := fun W hW hO =>
    hs W _ ok _ qs (h1.keep fun i hi => hW.block i (hok i hi)) (h2.keep fun i hi => hW.block i (hok i hi)) hok hO (by omega)
  have C3 : Hid (∀ W, OutAt W b (Px.wrS l (Px.sgn o [123])) → Calls Tryz.prog 36 #[.pointer (some ⟨b, 0, none⟩), .string ⟨#[125]⟩] W (OPost b W (Px.wrB l o))) := fun W hO => outSign b _ ⟨#[125]⟩ W hO (by decide) (by show _ + 1 ≤ _; omega)
  clear h1 h2 hok h hs hc s1 s2
  go_enter Tryz.func39, Tryz.ntmps39
  go_wp2_with fail
  refine C1.out.mono ?_
  rintro e w1 ⟨rfl, o1, b1⟩
  have L1 : Hid (_ ∧ _) := ⟨o1, b1⟩
  clear o1 b1
  go_wp2_with fail
  refine (C2.out _ L1.out.2 L1.out.1).mono ?_
  rintro e w2 ⟨rfl, o2, b2⟩
  have L2 : Hid (_ ∧ _) := ⟨o2, b2⟩
  clear o2 b2
  go_wp2_with fail
  refine (C3.out _ L2.out.1).mono ?_
  rintro e w3 ⟨rfl, o3, b3⟩
  have L3 : Hid (_ ∧ _) := ⟨o3, b3⟩
  clear o3 b3
  go_wp2_with fail
  go_end0
  exact ⟨rfl, L3.out.1, (L1.out.2.trans L2.out.2).trans L3.out.2⟩

end Ref
end Go.Proofs.YtcogbbneodihkaaGreatDoor
