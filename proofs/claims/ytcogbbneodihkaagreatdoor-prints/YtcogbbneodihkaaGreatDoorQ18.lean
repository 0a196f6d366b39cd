import Derived.Test.YtcogbbneodihkaaGreatDoorP06
import Derived.Test.YtcogbbneodihkaaGreatDoorP01
import Derived.Test.YtcogbbneodihkaaGreatDoorP07
import Derived.Lib.AppendStr
import Derived.Maps.AppendAt
import Derived.Test.YtcogbbneodihkaaGreatDoorP16
import Derived.Deep.RegionWith
import Derived.Shelf.Strconv.Itoa3
import Derived.Test.YtcogbbneodihkaaGreatDoorProg
/- Few signs: no program in it. -/
namespace Go.Proofs.YtcogbbneodihkaaGreatDoor
namespace Px

def inRow (c : UInt8) : Bool := isSmall c || isDig c

/-- Must a blank stand between? -/
def gap (o t : List UInt8) : Bool :=
  match o.getLast?, t.head? with
  | some a, some b => inRow a && inRow b
  | _, _ => false

/-- One more sign, with a blank ahead if there must be one. -/
def sgn (o t : List UInt8) : List UInt8 := if gap o t then o ++ 32 :: t else o ++ t

def digit (n : Nat) : UInt8 := UInt8.ofNat (48 + n)
def decF : Nat → Nat → List UInt8
  | 0, n => [digit n]
  | f + 1, n => if n < 10 then [digit n] else decF f (n / 10) ++ [digit (n % 10)]
def dec (n : Nat) : List UInt8 := decF n n
theorem decF_eq (f : Nat) : ∀ g n, n ≤ f → n ≤ g → decF f n = decF g n := by
  induction f with
  | zero =>
    intro g n h1 _
    obtain rfl : n = 0 := by omega
    cases g with
    | zero => rfl
    | succ g => rw [decF, decF, if_pos (by decide)]
  | succ f ih =>
    intro g n h1 h2
    cases g with
    | zero =>
      obtain rfl : n = 0 := by omega
      rw [decF, decF, if_pos (by decide)]
    | succ g =>
      rw [decF, decF]
      split
      · rfl
      · rw [ih g (n / 10) (by omega) (by omega)]
theorem dec_rec (n : Nat) : dec n = if n < 10 then [digit n] else dec (n / 10) ++ [digit (n % 10)] := by
  unfold dec
  cases n with
  | zero => rw [decF, if_pos (by decide)]
  | succ n =>
    rw [decF]
    split
    · rfl
    · rw [decF_eq n ((n + 1) / 10) ((n + 1) / 10) (by omega) (Nat.le_refl _)]

/-- How closely an expr binds. -/
def lvl (op : Nat) : Nat := if op = 60 ∨ op = 61 ∨ op = 35 then 1 else if op = 43 ∨ op = 45 then 2 else if op = 42 ∨ op = 47 then 3 else 4
/-- What must stand at its left. -/
def lft (op : Nat) : Nat := if lvl op = 1 then 2 else lvl op

/-- In brackets, or not. -/
def brk (b : Bool) (f : List UInt8 → List UInt8) (o : List UInt8) : List UInt8 := if b then sgn (f (sgn o [40])) [41] else f o

def wrE : Ex → List UInt8 → List UInt8
  | ⟨op, n, word, _, _, none, _⟩, o => if op = 110 then sgn o (dec n) else if op = 116 then sgn o (if n = 1 then [116, 114, 117, 101] else [102, 97, 108, 115, 101]) else sgn o word.data.toList
  | ⟨_, _, _, _, _, some l, none⟩, o => brk (decide (lvl l.op < 4)) (wrE l) (sgn o [110, 111, 116])
  | ⟨op, _, _, _, _, some l, some r⟩, o => brk (decide (lvl r.op < lvl op + 1)) (wrE r) (sgn (brk (decide (lvl l.op < lft op)) (wrE l) o) [UInt8.ofNat op])

def wrArg (x : Option Ex) (o : List UInt8) : List UInt8 :=
  match x with
  | none => o
  | some e => wrE e o
def wrAs (w : ByteArray) (o : List UInt8) : List UInt8 := if w.size = 0 then o else sgn (sgn o [97, 115]) w.data.toList
def wrUndo (w : ByteArray) (o : List UInt8) : List UInt8 := if w.size = 0 then o else sgn (sgn o [117, 110, 100, 111]) w.data.toList
def wrTries (n : Nat) (o : List UInt8) : List UInt8 := if n = 1 then o else sgn (sgn o [116, 114, 105, 101, 115]) (dec n)

def wrS : List Sm → List UInt8 → List UInt8
  | [], o => o
  | ⟨op, word, _, ex, asw, _, undo, n, _, one, two⟩ :: rest, o =>
    wrS rest (
      if op = 108 then sgn (wrArg ex (sgn (sgn (sgn o [108, 101, 116]) word.data.toList) [61])) [59]
      else if op = 99 then sgn (wrTries n (wrUndo undo (wrAs asw (sgn (wrArg ex (sgn (sgn (sgn o [99, 97, 108, 108]) word.data.toList) [40])) [41])))) [59]
      else if op = 105 then
        (let o1 := sgn (wrS one (sgn (wrArg ex (sgn o [105, 102])) [123])) [125]
         if two.isEmpty then o1 else sgn (wrS two (sgn (sgn o1 [101, 108, 115, 101]) [123])) [125])
      else if op = 116 then sgn (wrS two (sgn (sgn (sgn (wrS one (sgn (sgn o [116, 114, 121]) [123])) [125]) [101, 108, 115, 101]) [123])) [125]
      else if op = 114 then sgn (wrS one (sgn (sgn (sgn o [114, 101, 112, 101, 97, 116]) (dec n)) [123])) [125]
      else sgn (sgn o [102, 97, 105, 108]) [59])

/-- One statement, printed. -/
def wrX (x : Sm) (o : List UInt8) : List UInt8 :=
  if x.op = 108 then sgn (wrArg x.ex (sgn (sgn (sgn o [108, 101, 116]) x.word.data.toList) [61])) [59]
  else if x.op = 99 then sgn (wrTries x.n (wrUndo x.undo (wrAs x.asw (sgn (wrArg x.ex (sgn (sgn (sgn o [99, 97, 108, 108]) x.word.data.toList) [40])) [41])))) [59]
  else if x.op = 105 then
    (let o1 := sgn (wrS x.one (sgn (wrArg x.ex (sgn o [105, 102])) [123])) [125]
     if x.two.isEmpty then o1 else sgn (wrS x.two (sgn (sgn o1 [101, 108, 115, 101]) [123])) [125])
  else if x.op = 116 then sgn (wrS x.two (sgn (sgn (sgn (wrS x.one (sgn (sgn o [116, 114, 121]) [123])) [125]) [101, 108, 115, 101]) [123])) [125]
  else if x.op = 114 then sgn (wrS x.one (sgn (sgn (sgn o [114, 101, 112, 101, 97, 116]) (dec x.n)) [123])) [125]
  else sgn (sgn o [102, 97, 105, 108]) [59]

theorem wrS_nil (o : List UInt8) : wrS [] o = o := by rw [wrS]
theorem wrS_cons (x : Sm) (l : List Sm) (o : List UInt8) : wrS (x :: l) o = wrS l (wrX x o) := by
  obtain ⟨op, word, pl, ex, asw, asPl, undo, n, nPl, one, two⟩ := x
  rw [wrS.eq_def]
  rfl

/-- P3. -/
def print (s : ByteArray) : List UInt8 × Nat × Nat :=
  match read s with
  | .error r => ([], r)
  | .ok l => if check s = (0, 0) then (wrS l [], (0, 0)) else ([], check s)

end Px
end Go.Proofs.YtcogbbneodihkaaGreatDoor

/- How long a printed text can be. -/
namespace Go.Proofs.YtcogbbneodihkaaGreatDoor
namespace Px

theorem val_9999 {s : ByteArray} {t : Tok} (h : Tk s t) (hk : t.k = 110) : valOf (txt s t).toList ≤ 9999 := by
  obtain ⟨h1, h2⟩ := Ref.dig_extract h hk
  have h3 := Ref.val_bound (txt s t).toList 0 (by
    intro c hc
    rw [ByteArray.toList_eq] at hc
    obtain ⟨i, hi, rfl⟩ := List.getElem_of_mem hc
    have := h2 i hi
    unfold isDig at this
    simp at this
    have h5 : ((txt s t).data.toList[i]).toNat = ((s.extract t.a t.b)[i]'hi).toNat := rfl
    omega)
  have h4 : (txt s t).toList.length ≤ 4 := by rw [ByteArray.toList_eq]; exact h1
  have h6 : 10 ^ (txt s t).toList.length ≤ 10 ^ 4 := Nat.pow_le_pow_right (by decide) h4
  unfold valOf
  omega

def szE : Ex → Nat
  | ⟨_, n, word, _, _, none, _⟩ => word.size + n + 12
  | ⟨_, _, _, _, _, some l, none⟩ => szE l + 12
  | ⟨_, _, _, _, _, some l, some r⟩ => szE l + szE r + 12
/-- Words that are none are empty; numbers are of four digits. -/
def GdE : Ex → Prop
  | ⟨op, n, word, _, _, none, _⟩ => (op = 119 → 0 < word.size) ∧ n ≤ 9999
  | ⟨_, _, _, _, _, some l, none⟩ => GdE l
  | ⟨_, _, _, _, _, some l, some r⟩ => GdE l ∧ GdE r

theorem szE_place (x : Ex) (a : Nat) : szE { x with pl := a } = szE x := by
  match x with
  | ⟨_, _, _, _, _, none, _⟩ => rfl
  | ⟨_, _, _, _, _, some _, none⟩ => rfl
  | ⟨_, _, _, _, _, some _, some _⟩ => rfl
theorem GdE.place {x : Ex} (h : GdE x) (a : Nat) : GdE { x with pl := a } := by
  match x with
  | ⟨_, _, _, _, _, none, _⟩ => exact h
  | ⟨_, _, _, _, _, some _, none⟩ => exact h
  | ⟨_, _, _, _, _, some _, some _⟩ => exact h

def Sz (s : ByteArray) (g : Ps → Except Nat (Ex × Ps)) : Prop := ∀ st x st', Tk s st.t → g st = .ok (x, st') → GdE x ∧ szE x + 12000 * st.t.a ≤ 12000 * st'.t.a

theorem chain_sz {s : ByteArray} {g : Ps → Except Nat (Ex × Ps)} (hg : Goes s g) (hs : Sz s g) (a b : UInt8) (n : Nat) : ∀ (pl lo : Nat) (e : Ex) (st : Ps) (x : Ex) (st' : Ps), Tk s st.t → GdE e → szE e + 12000 * lo ≤ 12000 * st.t.a → chain s g a b n pl e st = .ok (x, st') → GdE x ∧ szE x + 12000 * lo ≤ 12000 * st'.t.a := by
  induction n with
  | zero => intro pl lo e st x st' _ _ _ h; simp [chain] at h
  | succ n ih =>
    intro pl lo e st x st' ht he hle h
    rw [chain] at h
    split at h
    · rename_i ho
      have g0 := good_on ht ho
      have l0 := g0.lt
      cases hp : g (nx s st) with
      | error p => rw [hp] at h; cases h
      | ok r =>
        obtain ⟨k, st1⟩ := r
        rw [hp] at h
        have g1 := hg _ _ _ g0.tk hp
        obtain ⟨k1, k2⟩ := hs _ _ _ g0.tk hp
        exact ih pl lo ⟨a.toNat, 0, nowt, pl, st.t.a, some e, some k⟩ _ _ _ g1.tk ⟨he, k1⟩ (by simp only [szE]; omega) h
    · split at h
      · rename_i ho
        have g0 := good_on ht ho
        have l0 := g0.lt
        cases hp : g (nx s st) with
        | error p => rw [hp] at h; cases h
        | ok r =>
          obtain ⟨k, st1⟩ := r
          rw [hp] at h
          have g1 := hg _ _ _ g0.tk hp
          obtain ⟨k1, k2⟩ := hs _ _ _ g0.tk hp
          exact ih pl lo ⟨b.toNat, 0, nowt, pl, st.t.a, some e, some k⟩ _ _ _ g1.tk ⟨he, k1⟩ (by simp only [szE]; omega) h
      · cases h; exact ⟨he, hle⟩

theorem row_sz {s : ByteArray} {g : Ps → Except Nat (Ex × Ps)} (hg : Goes s g) (hs : Sz s g) (a b : UInt8) : Sz s (row s g a b) := by
  intro st x st' ht h
  unfold row at h
  cases hp : g st with
  | error p => rw [hp] at h; cases h
  | ok r =>
    obtain ⟨e, st1⟩ := r
    rw [hp] at h
    have g1 := hg _ _ _ ht hp
    obtain ⟨k1, k2⟩ := hs _ _ _ ht hp
    exact chain_sz hg hs _ _ _ _ _ _ _ _ _ g1.tk k1 k2 h

theorem sum_sz {s : ByteArray} {g : Ps → Except Nat (Ex × Ps)} (hg : Goes s g) (hs : Sz s g) : Sz s (sum s g) := row_sz (term_goes hg) (row_sz hg hs _ _) _ _

theorem expr_sz {s : ByteArray} {g : Ps → Except Nat (Ex × Ps)} (hg : Goes s g) (hs : Sz s g) : Sz s (expr s g) := by
  intro st x st' ht h
  unfold expr at h
  cases hp : sum s g st with
  | error p => rw [hp] at h; cases h
  | ok r =>
    obtain ⟨e, st1⟩ := r
    rw [hp] at h
    simp only at h
    have g1 := sum_goes hg _ _ _ ht hp
    obtain ⟨j1, j2⟩ := sum_sz hg hs _ _ _ ht hp
    cases hc : cmpOf s st1.t with
    | none => rw [hc] at h; cases h; exact ⟨j1, j2⟩
    | some o =>
      rw [hc] at h
      simp only at h
      have hk := cmpOf_k hc
      have g0 : Good s st1 (nx s st1) := good_nx g1.tk (by rw [hk]; decide) (by rw [hk]; decide)
      have l0 := g0.lt
      cases hq : sum s g (nx s st1) with
      | error p => rw [hq] at h; cases h
      | ok r2 =>
        obtain ⟨k, st2⟩ := r2
        rw [hq] at h
        obtain ⟨i1, i2⟩ := sum_sz hg hs _ _ _ g0.tk hq
        cases h
        exact ⟨⟨j1, i1⟩, by simp only [szE]; omega⟩

theorem atom_sz (s : ByteArray) (n : Nat) : Sz s (atom s n) := by
  induction n with
  | zero => intro st x st' _ h; simp [atom] at h
  | succ n ih =>
    intro st x st' ht h
    have hgo := atom_goes s (n + 1) _ _ _ ht h
    have hlt := hgo.lt
    rw [atom] at h
    split at h
    · rename_i hk
      cases h
      have := val_9999 ht hk
      refine ⟨⟨fun h => absurd h (by decide), this⟩, ?_⟩
      simp only [leaf, szE]
      have : nowt.size = 0 := rfl
      omega
    · split at h
      · rename_i hk
        cases h
        have h1 := ht.lt (by rw [hk]; decide) (by rw [hk]; decide)
        have h2 := ht.le
        have h3 := (tok_tk s st.t.b h2).2
        have h4 : (txt s st.t).size = st.t.b - st.t.a := by unfold txt; rw [ByteArray.size_extract]; omega
        refine ⟨⟨fun _ => by rw [h4]; omega, Nat.zero_le _⟩, ?_⟩
        simp only [leaf, szE]
        rw [h4]
        have : st.t.b ≤ (nx s st).t.a := h3
        omega
      · split at h
        · cases h
          refine ⟨⟨fun h => absurd h (by decide), by decide⟩, ?_⟩
          simp only [leaf, szE]
          have : nowt.size = 0 := rfl
          omega
        · split at h
          · cases h
            refine ⟨⟨fun h => absurd h (by decide), by decide⟩, ?_⟩
            simp only [leaf, szE]
            have : nowt.size = 0 := rfl
            omega
          · split at h
            · rename_i ho
              have g0 := good_on ht ho
              have l0 := g0.lt
              cases hp : atom s n (nx s st) with
              | error p => rw [hp] at h; cases h
              | ok r =>
                obtain ⟨k, st1⟩ := r
                rw [hp] at h
                obtain ⟨k1, k2⟩ := ih _ _ _ g0.tk hp
                cases h
                exact ⟨k1, by simp only [szE]; omega⟩
            · split at h
              · rename_i ho
                have g0 := good_on (st := dn st) ht ho
                have l0 : st.t.a < (nx s (dn st)).t.a := g0.lt
                cases hp : expr s (atom s n) (nx s (dn st)) with
                | error p => rw [hp] at h; cases h
                | ok r =>
                  obtain ⟨k, st1⟩ := r
                  have g1 := expr_goes (atom_goes s n) _ _ _ g0.tk hp
                  obtain ⟨k1, k2⟩ := expr_sz (atom_goes s n) ih _ _ _ g0.tk hp
                  rw [hp] at h
                  simp only at h
                  split at h
                  · rename_i ho2
                    have g2 := good_on g1.tk ho2
                    have l2 := g2.lt
                    have l3 : st1.t.a < (upp (nx s st1)).t.a := l2
                    cases h
                    exact ⟨k1.place _, by rw [szE_place]; omega⟩
                  · cases h
              · cases h

theorem exprOf_sz (s : ByteArray) : Sz s (exprOf s) := expr_sz (atom_goes s _) (atom_sz s _)

theorem dec_len (n : Nat) : (dec n).length ≤ n + 1 := by
  induction n using Nat.strongRecOn with
  | ind n ih =>
    rw [dec_rec]
    split
    · simp
    · have := ih (n / 10) (by omega)
      simp
      omega
theorem sgn_len (o t : List UInt8) : (sgn o t).length ≤ o.length + t.length + 1 := by
  unfold sgn
  split <;> simp <;> omega
theorem brk_len {b : Bool} {f : List UInt8 → List UInt8} {n : Nat} (hf : ∀ o, (f o).length ≤ o.length + n) (o : List UInt8) : (brk b f o).length ≤ o.length + n + 4 := by
  unfold brk
  split
  · have h1 := sgn_len (f (sgn o [40])) [41]
    have h2 := hf (sgn o [40])
    have h3 := sgn_len o [40]
    simp at h1 h2 h3
    omega
  · have := hf o
    omega
theorem wrE_len (x : Ex) : ∀ o, (wrE x o).length ≤ o.length + szE x := by
  match x with
  | ⟨op, n, word, pl, own, none, r⟩ =>
    intro o
    simp only [wrE, szE]
    split
    · have h1 := sgn_len o (dec n)
      have h2 := dec_len n
      omega
    · split
      · split
        · have h1 := sgn_len o [116, 114, 117, 101]
          simp at h1
          omega
        · have h1 := sgn_len o [102, 97, 108, 115, 101]
          simp at h1
          omega
      · have h1 := sgn_len o word.data.toList
        have h2 : word.data.toList.length = word.size := rfl
        omega
  | ⟨op, n, word, pl, own, some l, none⟩ =>
    intro o
    simp only [wrE, szE]
    have h1 := brk_len (b := decide (lvl l.op < 4)) (wrE_len l) (sgn o [110, 111, 116])
    have h2 := sgn_len o [110, 111, 116]
    simp at h2
    omega
  | ⟨op, n, word, pl, own, some l, some r⟩ =>
    intro o
    simp only [wrE, szE]
    have h1 := brk_len (b := decide (lvl r.op < lvl op + 1)) (wrE_len r) (sgn (brk (decide (lvl l.op < lft op)) (wrE l) o) [UInt8.ofNat op])
    have h2 := sgn_len (brk (decide (lvl l.op < lft op)) (wrE l) o) [UInt8.ofNat op]
    have h3 := brk_len (b := decide (lvl l.op < lft op)) (wrE_len l) o
    simp at h2
    omega

end Px
end Go.Proofs.YtcogbbneodihkaaGreatDoor

/- How long a printed errand can be. -/
namespace Go.Proofs.YtcogbbneodihkaaGreatDoor
namespace Px

def szO (x : Option Ex) : Nat :=
  match x with
  | none => 0
  | some e => szE e
def GdO (x : Option Ex) : Prop := ∀ e, x = some e → GdE e

def szS : List Sm → Nat
  | [] => 0
  | ⟨_, word, _, ex, asw, _, undo, n, _, one, two⟩ :: rest => word.size + szO ex + asw.size + undo.size + n + 100 + szS one + szS two + szS rest
def GdS : List Sm → Prop
  | [] => True
  | ⟨op, word, _, ex, _, _, _, n, _, one, two⟩ :: rest => (op = 108 ∨ op = 99 → 0 < word.size) ∧ n ≤ 9999 ∧ GdO ex ∧ GdS one ∧ GdS two ∧ GdS rest

def szX (x : Sm) : Nat := x.word.size + szO x.ex + x.asw.size + x.undo.size + x.n + 100 + szS x.one + szS x.two
def GdX (x : Sm) : Prop := (x.op = 108 ∨ x.op = 99 → 0 < x.word.size) ∧ x.n ≤ 9999 ∧ GdO x.ex ∧ GdS x.one ∧ GdS x.two

theorem szS_nil : szS [] = 0 := by rw [szS]
theorem szS_cons (x : Sm) (l : List Sm) : szS (x :: l) = szX x + szS l := by
  obtain ⟨op, word, pl, ex, asw, asPl, undo, n, nPl, one, two⟩ := x
  rw [szS]; rfl
theorem GdS_nil : GdS [] := by rw [GdS]; trivial
theorem GdS_cons {x : Sm} {l : List Sm} : GdS (x :: l) ↔ GdX x ∧ GdS l := by
  obtain ⟨op, word, pl, ex, asw, asPl, undo, n, nPl, one, two⟩ := x
  rw [GdS]
  unfold GdX
  constructor
  · rintro ⟨h1, h2, h3, h4, h5, h6⟩; exact ⟨⟨h1, h2, h3, h4, h5⟩, h6⟩
  · rintro ⟨⟨h1, h2, h3, h4, h5⟩, h6⟩; exact ⟨h1, h2, h3, h4, h5, h6⟩
theorem szS_snoc (l : List Sm) (x : Sm) : szS (l ++ [x]) = szS l + szX x := by
  induction l with
  | nil => rw [List.nil_append, szS_cons, szS_nil]; omega
  | cons y l ih => rw [List.cons_append, szS_cons, szS_cons, ih]; omega
theorem GdS_snoc {l : List Sm} {x : Sm} (h : GdS l) (hx : GdX x) : GdS (l ++ [x]) := by
  induction l with
  | nil => exact GdS_cons.2 ⟨hx, GdS_nil⟩
  | cons y l ih => exact GdS_cons.2 ⟨(GdS_cons.1 h).1, ih (GdS_cons.1 h).2⟩

def SzS (s : ByteArray) (g : Ps → Except Nat (Sm × Ps)) : Prop := ∀ st x st', Tk s st.t → g st = .ok (x, st') → GdX x ∧ szX x + 12000 * st.t.a ≤ 12000 * st'.t.a

theorem stmts_sz {s : ByteArray} {g : Ps → Except Nat (Sm × Ps)} (hg : Goes s g) (hs : SzS s g) (stop : Ps → Bool) (n : Nat) : ∀ (l : List Sm) (st : Ps) (x : List Sm) (st' : Ps), Tk s st.t → GdS l → stmts s g stop n l st = .ok (x, st') → GdS x ∧ szS x + 12000 * st.t.a ≤ 12000 * st'.t.a + szS l := by
  induction n with
  | zero => intro l st x st' _ _ h; simp [stmts] at h
  | succ n ih =>
    intro l st x st' ht hl h
    rw [stmts] at h
    split at h
    · cases h; exact ⟨hl, by omega⟩
    · cases hp : g st with
      | error p => rw [hp] at h; cases h
      | ok r =>
        obtain ⟨y, st1⟩ := r
        rw [hp] at h
        have g1 := hg _ _ _ ht hp
        obtain ⟨m1, m2⟩ := hs _ _ _ ht hp
        obtain ⟨i1, i2⟩ := ih _ _ _ _ g1.tk (GdS_snoc hl m1) h
        rw [szS_snoc] at i2
        exact ⟨i1, by omega⟩

theorem block_sz {s : ByteArray} {g : Ps → Except Nat (Sm × Ps)} (hg : Goes s g) (hs : SzS s g) {st : Ps} {x : List Sm} {st' : Ps} (ht : Tk s st.t) (h : block s g st = .ok (x, st')) : GdS x ∧ szS x + 12000 * st.t.a ≤ 12000 * st'.t.a := by
  unfold block at h
  split at h
  · rename_i ho
    have g0 := good_on (st := dn st) ht ho
    have l0 : st.t.a < (nx s (dn st)).t.a := g0.lt
    cases hp : stmts s g (fun st => onB s st.t ⟨#[125]⟩) (s.size + 1) [] (nx s (dn st)) with
    | error p => rw [hp] at h; cases h
    | ok r =>
      obtain ⟨l, st1⟩ := r
      rw [hp] at h
      obtain ⟨i1, i2⟩ := stmts_sz hg hs _ _ _ _ _ _ g0.tk GdS_nil hp
      obtain ⟨g1, g2⟩ := stmts_goes hg _ _ _ _ _ _ g0.tk hp
      have g3 := good_on g1.tk g2
      have l3 : st1.t.a < (upp (nx s st1)).t.a := g3.lt
      rw [szS_nil] at i2
      cases h
      exact ⟨i1, by omega⟩
  · cases h

theorem kind_eq {s : ByteArray} {k : Nat} {st st' : Ps} (h : kind s k st = .ok st') : st.t.k = k ∧ st' = nx s st := by
  unfold kind at h
  split at h
  · rename_i hk
    cases h; exact ⟨hk, rfl⟩
  · cases h
/-- A word that was read. -/
theorem word_sz {s : ByteArray} {st st' : Ps} (ht : Tk s st.t) (h : kind s 119 st = .ok st') : 0 < (txt s st.t).size ∧ (txt s st.t).size + st.t.a ≤ st'.t.a := by
  obtain ⟨hk, rfl⟩ := kind_eq h
  have h1 := ht.lt (by rw [hk]; decide) (by rw [hk]; decide)
  have h2 := ht.le
  have h3 : st.t.b ≤ (nx s st).t.a := (tok_tk s st.t.b h2).2
  have h4 : (txt s st.t).size = st.t.b - st.t.a := by unfold txt; rw [ByteArray.size_extract]; omega
  rw [h4]
  omega
theorem num_sz {s : ByteArray} {st st' : Ps} (ht : Tk s st.t) (h : kind s 110 st = .ok st') : valOf (txt s st.t).toList ≤ 9999 := val_9999 ht (kind_eq h).1

theorem gdO_none : GdO none := fun e h => by cases h
theorem gdO_some {e : Ex} (h : GdE e) : GdO (some e) := fun e' h' => by cases h'; exact h

theorem letS_sz (s : ByteArray) : SzS s (letS s) := by
  intro st x st' ht h
  unfold letS at h
  cases h1 : kind s 119 st with
  | error p => rw [h1] at h; cases h
  | ok st1 =>
    rw [h1] at h; simp only at h
    have g1 := kind_good ht (by decide) (by decide) h1
    obtain ⟨w1, w2⟩ := word_sz ht h1
    cases h2 : need s ⟨#[61]⟩ st1 with
    | error p => rw [h2] at h; cases h
    | ok st2 =>
      rw [h2] at h; simp only at h
      have g2 := need_good g1.tk h2
      cases h3 : exprOf s st2 with
      | error p => rw [h3] at h; cases h
      | ok r =>
        obtain ⟨e, st3⟩ := r
        rw [h3] at h; simp only at h
        have g3 := exprOf_goes s _ _ _ g2.tk h3
        obtain ⟨e1, e2⟩ := exprOf_sz s _ _ _ g2.tk h3
        cases h4 : need s ⟨#[59]⟩ st3 with
        | error p => rw [h4] at h; cases h
        | ok st4 =>
          have g4 := need_good g3.tk h4
          rw [h4] at h; cases h
          have l2 := g2.lt; have l4 := g4.lt
          refine ⟨⟨fun _ => w1, Nat.zero_le _, gdO_some e1, GdS_nil, GdS_nil⟩, ?_⟩
          unfold szX
          simp only [zeroS, szS_nil, szO]
          have : nowt.size = 0 := rfl
          omega

theorem call_sz (s : ByteArray) : SzS s (call s) := by
  intro st x st' ht h
  unfold call at h
  cases h1 : kind s 119 st with
  | error p => rw [h1] at h; cases h
  | ok st1 =>
    rw [h1] at h; simp only at h
    have g1 := kind_good ht (by decide) (by decide) h1
    obtain ⟨w1, w2⟩ := word_sz ht h1
    cases h2 : need s ⟨#[40]⟩ st1 with
    | error p => rw [h2] at h; cases h
    | ok st2 =>
      rw [h2] at h; simp only at h
      have g2 := need_good g1.tk h2
      generalize hz : ({ zeroS with op := 99, word := txt s st.t, pl := st.t.a, n := 1 } : Sm) = x2 at h
      have z0 : x2.word = txt s st.t ∧ x2.n = 1 ∧ x2.asw.size = 0 ∧ x2.undo.size = 0 ∧ x2.ex = none ∧ x2.one = [] ∧ x2.two = [] := by rw [← hz]; exact ⟨rfl, rfl, rfl, rfl, rfl, rfl, rfl⟩
      cases h3 : callArg s x2 st2 with
      | error p => rw [h3] at h; cases h
      | ok r =>
        obtain ⟨x3, st3⟩ := r
        rw [h3] at h; simp only at h
        have g3 := callArg_goes g2.tk h3
        have z3 : x3.word = txt s st.t ∧ x3.n = 1 ∧ x3.asw.size = 0 ∧ x3.undo.size = 0 ∧ x3.one = [] ∧ x3.two = [] ∧ GdO x3.ex ∧ szO x3.ex + 12000 * st2.t.a ≤ 12000 * st3.t.a := by
          unfold callArg at h3
          split at h3
          · cases h3; exact ⟨z0.1, z0.2.1, z0.2.2.1, z0.2.2.2.1, z0.2.2.2.2.2.1, z0.2.2.2.2.2.2, by rw [z0.2.2.2.2.1]; exact gdO_none, by rw [z0.2.2.2.2.1]; simp [szO]⟩
          · cases hp : exprOf s st2 with
            | error p => rw [hp] at h3; cases h3
            | ok r =>
              obtain ⟨e, st3'⟩ := r
              rw [hp] at h3
              obtain ⟨e1, e2⟩ := exprOf_sz s _ _ _ g2.tk hp
              cases h3
              exact ⟨z0.1, z0.2.1, z0.2.2.1, z0.2.2.2.1, z0.2.2.2.2.2.1, z0.2.2.2.2.2.2, gdO_some e1, e2⟩
        cases h4 : need s ⟨#[41]⟩ st3 with
        | error p => rw [h4] at h; cases h
        | ok st4 =>
          rw [h4] at h; simp only at h
          have g4 := need_good g3.tk h4
          cases h5 : callAs s x3 st4 with
          | error p => rw [h5] at h; cases h
          | ok r5 =>
            obtain ⟨x5, st5⟩ := r5
            rw [h5] at h; simp only at h
            have g5 := callAs_goes g4.tk h5
            have z5 : x5.word = x3.word ∧ x5.n = 1 ∧ x5.undo.size = 0 ∧ x5.one = [] ∧ x5.two = [] ∧ x5.ex = x3.ex ∧ x5.asw.size + 12000 * st4.t.a ≤ 12000 * st5.t.a := by
              unfold callAs at h5
              split at h5
              · rename_i ho
                have g0 := good_on g4.tk ho
                have l0 := g0.lt
                cases hp : kind s 119 (nx s st4) with
                | error p => rw [hp] at h5; cases h5
                | ok st' =>
                  rw [hp] at h5
                  obtain ⟨v1, v2⟩ := word_sz g0.tk hp
                  cases h5
                  exact ⟨rfl, z3.2.1, z3.2.2.2.1, z3.2.2.2.2.1, z3.2.2.2.2.2.1, rfl, by simp only; omega⟩
              · cases h5; exact ⟨rfl, z3.2.1, z3.2.2.2.1, z3.2.2.2.2.1, z3.2.2.2.2.2.1, rfl, by rw [z3.2.2.1]; omega⟩
            cases h6 : callUndo s x5 st5 with
            | error p => rw [h6] at h; cases h
            | ok r6 =>
              obtain ⟨x6, st6⟩ := r6
              rw [h6] at h; simp only at h
              have g6 := callUndo_goes g5.tk h6
              have z6 : x6.word = x5.word ∧ x6.n = 1 ∧ x6.one = [] ∧ x6.two = [] ∧ x6.ex = x5.ex ∧ x6.asw = x5.asw ∧ x6.undo.size + 12000 * st5.t.a ≤ 12000 * st6.t.a := by
                unfold callUndo at h6
                split at h6
                · rename_i ho
                  have g0 := good_on g5.tk ho
                  have l0 := g0.lt
                  cases hp : kind s 119 (nx s st5) with
                  | error p => rw [hp] at h6; cases h6
                  | ok st' =>
                    rw [hp] at h6
                    obtain ⟨v1, v2⟩ := word_sz g0.tk hp
                    cases h6
                    exact ⟨rfl, z5.2.1, z5.2.2.2.1, z5.2.2.2.2.1, rfl, rfl, by simp only; omega⟩
                · cases h6; exact ⟨rfl, z5.2.1, z5.2.2.2.1, z5.2.2.2.2.1, rfl, rfl, by rw [z5.2.2.1]; omega⟩
              cases h7 : callTries s x6 st6 with
              | error p => rw [h7] at h; cases h
              | ok r7 =>
                obtain ⟨x7, st7⟩ := r7
                rw [h7] at h; simp only at h
                have g7 := callTries_goes g6.tk h7
                have z7 : x7.word = x6.word ∧ x7.one = [] ∧ x7.two = [] ∧ x7.ex = x6.ex ∧ x7.asw = x6.asw ∧ x7.undo = x6.undo ∧ x7.n ≤ 9999 ∧ x7.n + 12000 * st6.t.a ≤ 12000 * st7.t.a + 1 := by
                  unfold callTries at h7
                  split at h7
                  · rename_i ho
                    have g0 := good_on g6.tk ho
                    have l0 := g0.lt
                    cases hp : kind s 110 (nx s st6) with
                    | error p => rw [hp] at h7; cases h7
                    | ok st' =>
                      rw [hp] at h7
                      have v1 := num_sz g0.tk hp
                      have g8 := kind_good g0.tk (by decide) (by decide) hp
                      have l8 := g8.lt
                      cases h7
                      exact ⟨rfl, z6.2.2.1, z6.2.2.2.1, rfl, rfl, rfl, v1, by simp only; omega⟩
                  · cases h7; exact ⟨rfl, z6.2.2.1, z6.2.2.2.1, rfl, rfl, rfl, by rw [z6.2.1]; decide, by rw [z6.2.1]; omega⟩
                cases h8 : need s ⟨#[59]⟩ st7 with
                | error p => rw [h8] at h; cases h
                | ok st8 =>
                  have g8 := need_good g7.tk h8
                  rw [h8] at h; cases h
                  have l1 := g1.lt; have l2 := g2.lt; have l4 := g4.lt; have l8 := g8.lt
                  have hw : x.word = txt s st.t := by rw [z7.1, z6.1, z5.1, z3.1]
                  have he : x.ex = x3.ex := by rw [z7.2.2.2.1, z6.2.2.2.2.1, z5.2.2.2.2.2.1]
                  refine ⟨⟨fun _ => by rw [hw]; exact w1, z7.2.2.2.2.2.2.1, by rw [he]; exact z3.2.2.2.2.2.2.1, by rw [z7.2.1]; exact GdS_nil, by rw [z7.2.2.1]; exact GdS_nil⟩, ?_⟩
                  unfold szX
                  rw [hw, he, z7.2.1, z7.2.2.1, szS_nil, z7.2.2.2.2.1, z7.2.2.2.2.2.1, z6.2.2.2.2.2.1]
                  have q3 := z3.2.2.2.2.2.2.2
                  have q5 := z5.2.2.2.2.2.2
                  have q6 := z6.2.2.2.2.2.2
                  have q7 := z7.2.2.2.2.2.2.2
                  omega

theorem ifS_sz {s : ByteArray} {g : Ps → Except Nat (Sm × Ps)} (hg : Goes s g) (hs : SzS s g) : ∀ st x st', Tk s st.t → ifS s g st = .ok (x, st') → GdX x ∧ szX x + 12000 * st.t.a ≤ 12000 * st'.t.a + 100 := by
  intro st x st' ht h
  unfold ifS at h
  cases h1 : exprOf s st with
  | error p => rw [h1] at h; cases h
  | ok r =>
    obtain ⟨e, st1⟩ := r
    rw [h1] at h; simp only at h
    have g1 := exprOf_goes s _ _ _ ht h1
    obtain ⟨e1, e2⟩ := exprOf_sz s _ _ _ ht h1
    cases h2 : block s g st1 with
    | error p => rw [h2] at h; cases h
    | ok r =>
      obtain ⟨l, st2⟩ := r
      rw [h2] at h; simp only at h
      have g2 := block_goes hg _ _ _ g1.tk h2
      obtain ⟨m1, m2⟩ := block_sz hg hs g1.tk h2
      split at h
      · rename_i ho
        have g3 := good_on g2.tk ho
        have l3 := g3.lt
        cases h4 : block s g (nx s st2) with
        | error p => rw [h4] at h; cases h
        | ok r =>
          obtain ⟨m, st3⟩ := r
          obtain ⟨m3, m4⟩ := block_sz hg hs g3.tk h4
          rw [h4] at h; cases h
          refine ⟨⟨fun h => absurd h (by show ¬((105 : Nat) = 108 ∨ (105 : Nat) = 99); decide), Nat.zero_le _, gdO_some e1, m1, m3⟩, ?_⟩
          unfold szX
          simp only [zeroS, szO]
          have : nowt.size = 0 := rfl
          omega
      · cases h
        refine ⟨⟨fun h => absurd h (by show ¬((105 : Nat) = 108 ∨ (105 : Nat) = 99); decide), Nat.zero_le _, gdO_some e1, m1, GdS_nil⟩, ?_⟩
        unfold szX
        simp only [zeroS, szO, szS_nil]
        have : nowt.size = 0 := rfl
        omega

theorem tryS_sz {s : ByteArray} {g : Ps → Except Nat (Sm × Ps)} (hg : Goes s g) (hs : SzS s g) : ∀ st x st', Tk s st.t → tryS s g st = .ok (x, st') → GdX x ∧ szX x + 12000 * st.t.a ≤ 12000 * st'.t.a + 100 := by
  intro st x st' ht h
  unfold tryS at h
  cases h1 : block s g st with
  | error p => rw [h1] at h; cases h
  | ok r =>
    obtain ⟨l, st1⟩ := r
    rw [h1] at h; simp only at h
    have g1 := block_goes hg _ _ _ ht h1
    obtain ⟨m1, m2⟩ := block_sz hg hs ht h1
    cases h2 : need s ⟨#[101, 108, 115, 101]⟩ st1 with
    | error p => rw [h2] at h; cases h
    | ok st2 =>
      rw [h2] at h; simp only at h
      have g2 := need_good g1.tk h2
      have l2 := g2.lt
      cases h3 : block s g st2 with
      | error p => rw [h3] at h; cases h
      | ok r =>
        obtain ⟨m, st3⟩ := r
        obtain ⟨m3, m4⟩ := block_sz hg hs g2.tk h3
        rw [h3] at h; cases h
        refine ⟨⟨fun h => absurd h (by show ¬((116 : Nat) = 108 ∨ (116 : Nat) = 99); decide), Nat.zero_le _, gdO_none, m1, m3⟩, ?_⟩
        unfold szX
        simp only [zeroS, szO]
        have : nowt.size = 0 := rfl
        omega

theorem repeatS_sz {s : ByteArray} {g : Ps → Except Nat (Sm × Ps)} (hg : Goes s g) (hs : SzS s g) : ∀ st x st', Tk s st.t → repeatS s g st = .ok (x, st') → GdX x ∧ szX x + 12000 * st.t.a ≤ 12000 * st'.t.a + 100 := by
  intro st x st' ht h
  unfold repeatS at h
  cases h1 : kind s 110 st with
  | error p => rw [h1] at h; cases h
  | ok st1 =>
    rw [h1] at h; simp only at h
    have g1 := kind_good ht (by decide) (by decide) h1
    have l1 := g1.lt
    have v1 := num_sz ht h1
    cases h2 : block s g st1 with
    | error p => rw [h2] at h; cases h
    | ok r =>
      obtain ⟨m, st3⟩ := r
      obtain ⟨m1, m2⟩ := block_sz hg hs g1.tk h2
      rw [h2] at h; cases h
      refine ⟨⟨fun h => absurd h (by show ¬((114 : Nat) = 108 ∨ (114 : Nat) = 99); decide), v1, gdO_none, m1, GdS_nil⟩, ?_⟩
      unfold szX
      simp only [zeroS, szO, szS_nil]
      have : nowt.size = 0 := rfl
      omega

theorem stmt_sz (s : ByteArray) (n : Nat) : SzS s (stmt s n) := by
  induction n with
  | zero => intro st x st' _ h; simp [stmt] at h
  | succ n ih =>
    intro st x st' ht h
    have hgo := stmt_goes s (n + 1) _ _ _ ht h
    have hlt := hgo.lt
    rw [stmt] at h
    split at h
    · rename_i ho
      have g1 := good_on ht ho
      have l1 := g1.lt
      obtain ⟨m1, m2⟩ := letS_sz s _ _ _ g1.tk h
      exact ⟨m1, by omega⟩
    · split at h
      · rename_i ho
        have g1 := good_on ht ho
        have l1 := g1.lt
        obtain ⟨m1, m2⟩ := call_sz s _ _ _ g1.tk h
        exact ⟨m1, by omega⟩
      · split at h
        · rename_i ho
          have g1 := good_on ht ho
          have l1 := g1.lt
          obtain ⟨m1, m2⟩ := ifS_sz (stmt_goes s n) ih _ _ _ g1.tk h
          exact ⟨m1, by omega⟩
        · split at h
          · rename_i ho
            have g1 := good_on ht ho
            have l1 := g1.lt
            obtain ⟨m1, m2⟩ := tryS_sz (stmt_goes s n) ih _ _ _ g1.tk h
            exact ⟨m1, by omega⟩
          · split at h
            · rename_i ho
              have g1 := good_on ht ho
              have l1 := g1.lt
              obtain ⟨m1, m2⟩ := repeatS_sz (stmt_goes s n) ih _ _ _ g1.tk h
              exact ⟨m1, by omega⟩
            · have ho : x = { zeroS with op := 102 } := by
                unfold failS at h
                cases h1 : need s ⟨#[102, 97, 105, 108]⟩ st with
                | error p => rw [h1] at h; cases h
                | ok st1 =>
                  rw [h1] at h; simp only at h
                  cases h2 : need s ⟨#[59]⟩ st1 with
                  | error p => rw [h2] at h; cases h
                  | ok st2 => rw [h2] at h; cases h; rfl
              rw [ho]
              refine ⟨⟨fun h => absurd h (by decide), Nat.zero_le _, gdO_none, GdS_nil, GdS_nil⟩, ?_⟩
              unfold szX
              simp only [zeroS, szO, szS_nil]
              have : nowt.size = 0 := rfl
              omega

theorem read_sz {s : ByteArray} {l : List Sm} (h : read s = .ok l) : GdS l ∧ szS l ≤ 3600000 := by
  unfold read at h
  split at h
  · cases h
  · rename_i hz
    cases hp : stmts s (stmt s (s.size + 1)) (fun st => st.t.k == 0) (s.size + 1) [] ⟨tok s 0, 0, -1⟩ with
    | error p => rw [hp] at h; cases h
    | ok r =>
      obtain ⟨l', st⟩ := r
      rw [hp] at h
      simp only at h
      split at h
      · cases h
      · cases h
        have ht := (tok_tk s 0 (Nat.zero_le _)).1
        obtain ⟨i1, i2⟩ := stmts_sz (stmt_goes s _) (stmt_sz s _) _ _ _ _ _ _ ht GdS_nil hp
        obtain ⟨g2, _⟩ := stmts_goes (stmt_goes s _) _ _ _ _ _ _ ht hp
        have h1 := g2.tk.ab
        have h2 := g2.tk.le
        rw [szS_nil] at i2
        exact ⟨i1, by omega⟩

end Px
end Go.Proofs.YtcogbbneodihkaaGreatDoor

/- How long a printed errand can be: statements. -/
namespace Go.Proofs.YtcogbbneodihkaaGreatDoor
namespace Px

theorem wrArg_len (x : Option Ex) (o : List UInt8) : (wrArg x o).length ≤ o.length + szO x := by
  cases x with
  | none => simp [wrArg, szO]
  | some e => exact wrE_len e o
theorem wrAs_len (w : ByteArray) (o : List UInt8) : (wrAs w o).length ≤ o.length + w.size + 4 := by
  unfold wrAs
  split
  · omega
  · have h1 := sgn_len (sgn o [97, 115]) w.data.toList
    have h2 := sgn_len o [97, 115]
    have h3 : w.data.toList.length = w.size := rfl
    simp at h2
    omega
theorem wrUndo_len (w : ByteArray) (o : List UInt8) : (wrUndo w o).length ≤ o.length + w.size + 6 := by
  unfold wrUndo
  split
  · omega
  · have h1 := sgn_len (sgn o [117, 110, 100, 111]) w.data.toList
    have h2 := sgn_len o [117, 110, 100, 111]
    have h3 : w.data.toList.length = w.size := rfl
    simp at h2
    omega
theorem wrTries_len (n : Nat) (o : List UInt8) : (wrTries n o).length ≤ o.length + n + 8 := by
  unfold wrTries
  split
  · omega
  · have h1 := sgn_len (sgn o [116, 114, 105, 101, 115]) (dec n)
    have h2 := sgn_len o [116, 114, 105, 101, 115]
    have h3 := dec_len n
    simp at h2
    omega

/-- A block, printed. -/
def wrB (l : List Sm) (o : List UInt8) : List UInt8 := sgn (wrS l (sgn o [123])) [125]

theorem wrX_eq (x : Sm) (o : List UInt8) : wrX x o =
    if x.op = 108 then sgn (wrArg x.ex (sgn (sgn (sgn o [108, 101, 116]) x.word.data.toList) [61])) [59]
    else if x.op = 99 then sgn (wrTries x.n (wrUndo x.undo (wrAs x.asw (sgn (wrArg x.ex (sgn (sgn (sgn o [99, 97, 108, 108]) x.word.data.toList) [40])) [41])))) [59]
    else if x.op = 105 then (if x.two.isEmpty then wrB x.one (wrArg x.ex (sgn o [105, 102])) else wrB x.two (sgn (wrB x.one (wrArg x.ex (sgn o [105, 102]))) [101, 108, 115, 101]))
    else if x.op = 116 then wrB x.two (sgn (wrB x.one (sgn o [116, 114, 121])) [101, 108, 115, 101])
    else if x.op = 114 then wrB x.one (sgn (sgn o [114, 101, 112, 101, 97, 116]) (dec x.n))
    else sgn (sgn o [102, 97, 105, 108]) [59] := rfl

theorem wrB_len {l : List Sm} (h : ∀ o, (wrS l o).length ≤ o.length + szS l) (o : List UInt8) : (wrB l o).length ≤ o.length + szS l + 4 := by
  unfold wrB
  have h1 := sgn_len (wrS l (sgn o [123])) [125]
  have h2 := h (sgn o [123])
  have h3 := sgn_len o [123]
  simp at h1 h3
  omega

theorem wrX_len {x : Sm} (h1 : ∀ o, (wrS x.one o).length ≤ o.length + szS x.one) (h2 : ∀ o, (wrS x.two o).length ≤ o.length + szS x.two) (o : List UInt8) : (wrX x o).length ≤ o.length + szX x := by
  rw [wrX_eq]
  unfold szX
  have hw : x.word.data.toList.length = x.word.size := rfl
  split
  · have a1 := sgn_len (wrArg x.ex (sgn (sgn (sgn o [108, 101, 116]) x.word.data.toList) [61])) [59]
    have a2 := wrArg_len x.ex (sgn (sgn (sgn o [108, 101, 116]) x.word.data.toList) [61])
    have a3 := sgn_len (sgn (sgn o [108, 101, 116]) x.word.data.toList) [61]
    have a4 := sgn_len (sgn o [108, 101, 116]) x.word.data.toList
    have a5 := sgn_len o [108, 101, 116]
    simp only [List.length_cons, List.length_nil] at a1 a3 a5
    omega
  · split
    · generalize ha : sgn (sgn (sgn o [99, 97, 108, 108]) x.word.data.toList) [40] = o1
      have a3 := sgn_len (sgn (sgn o [99, 97, 108, 108]) x.word.data.toList) [40]
      have a4 := sgn_len (sgn o [99, 97, 108, 108]) x.word.data.toList
      have a5 := sgn_len o [99, 97, 108, 108]
      rw [ha] at a3
      have a2 := wrArg_len x.ex o1
      have a6 := sgn_len (wrArg x.ex o1) [41]
      generalize sgn (wrArg x.ex o1) [41] = o2 at *
      have a7 := wrAs_len x.asw o2
      generalize wrAs x.asw o2 = o3 at *
      have a8 := wrUndo_len x.undo o3
      generalize wrUndo x.undo o3 = o4 at *
      have a9 := wrTries_len x.n o4
      generalize wrTries x.n o4 = o5 at *
      have a10 := sgn_len o5 [59]
      simp only [List.length_cons, List.length_nil] at a3 a5 a6 a10
      omega
    · split
      · have a1 := sgn_len o [105, 102]
        have a2 := wrArg_len x.ex (sgn o [105, 102])
        have a3 := wrB_len h1 (wrArg x.ex (sgn o [105, 102]))
        have a4 := sgn_len (wrB x.one (wrArg x.ex (sgn o [105, 102]))) [101, 108, 115, 101]
        have a5 := wrB_len h2 (sgn (wrB x.one (wrArg x.ex (sgn o [105, 102]))) [101, 108, 115, 101])
        simp only [List.length_cons, List.length_nil] at a1 a4
        split <;> omega
      · split
        · have a1 := sgn_len o [116, 114, 121]
          have a3 := wrB_len h1 (sgn o [116, 114, 121])
          have a4 := sgn_len (wrB x.one (sgn o [116, 114, 121])) [101, 108, 115, 101]
          have a5 := wrB_len h2 (sgn (wrB x.one (sgn o [116, 114, 121])) [101, 108, 115, 101])
          simp only [List.length_cons, List.length_nil] at a1 a4
          omega
        · split
          · have a1 := sgn_len o [114, 101, 112, 101, 97, 116]
            have a2 := sgn_len (sgn o [114, 101, 112, 101, 97, 116]) (dec x.n)
            have a3 := wrB_len h1 (sgn (sgn o [114, 101, 112, 101, 97, 116]) (dec x.n))
            have a4 := dec_len x.n
            simp only [List.length_cons, List.length_nil] at a1
            omega
          · have a1 := sgn_len o [102, 97, 105, 108]
            have a2 := sgn_len (sgn o [102, 97, 105, 108]) [59]
            simp only [List.length_cons, List.length_nil] at a1 a2
            omega

theorem wrS_len (l : List Sm) : ∀ o, (wrS l o).length ≤ o.length + szS l := by
  match l with
  | [] => intro o; rw [wrS_nil, szS_nil]; omega
  | ⟨op, word, pl, ex, asw, asPl, undo, n, nPl, one, two⟩ :: rest =>
    intro o
    rw [wrS_cons, szS_cons]
    have h1 := wrS_len rest (wrX ⟨op, word, pl, ex, asw, asPl, undo, n, nPl, one, two⟩ o)
    have h2 := wrX_len (x := ⟨op, word, pl, ex, asw, asPl, undo, n, nPl, one, two⟩) (wrS_len one) (wrS_len two) o
    omega

end Px
end Go.Proofs.YtcogbbneodihkaaGreatDoor

namespace Go.Proofs.YtcogbbneodihkaaGreatDoor
open Go.RowKit
namespace Lg

def bytesV (o : List UInt8) : List Value := o.map fun c => Value.int .u8 (c.toNat : Int)
theorem bytesV_len (o : List UInt8) : (bytesV o).length = o.length := by simp [bytesV]

/-- The writer, at block b. -/
def WrAt (w : World) (b : Nat) (o : List UInt8) : Prop := ∃ v, w.heap[b]? = some (.cells #[v] 64) ∧ w.ownsRow (b + 1) 5 1 v o.length (bytesV o)

def isBytes (o : Obj) : Bool :=
  match o with
  | .cells _ t _ => t == 5
  | _ => false

/-- Of the blocks that were there: those below b, and all but b that are no rows of bytes, are as they were. -/
structure FrW (b : Nat) (w w' : World) : Prop where
  os : w'.os = w.os
  tape : w'.tape = w.tape
  output : w'.output = w.output
  size : w.heap.size ≤ w'.heap.size
  low : ∀ k, k < b → w'.heap[k]? = w.heap[k]?
  block : ∀ k o, k ≠ b → w.heap[k]? = some o → isBytes o = false → w'.heap[k]? = some o

theorem FrW.refl (b : Nat) (w : World) : FrW b w w := ⟨rfl, rfl, rfl, Nat.le_refl _, fun _ _ => rfl, fun _ _ _ h _ => h⟩
theorem FrW.trans {b : Nat} {w w1 w2 : World} (h : FrW b w w1) (k : FrW b w1 w2) : FrW b w w2 :=
  ⟨k.os.trans h.os, k.tape.trans h.tape, k.output.trans h.output, Nat.le_trans h.size k.size, fun i hi => (k.low i hi).trans (h.low i hi), fun i o hb ho hB => k.block i o hb (h.block i o hb ho hB) hB⟩
theorem FrW.drew {b : Nat} {w w1 : World} (h : FrW b w w1) : FrW b w w1.drew := ⟨h.os, h.tape, h.output, h.size, h.low, h.block⟩
theorem FrW.alloc {b : Nat} {w w1 : World} (h : FrW b w w1) (hb : b < w1.heap.size) (x : Obj) : FrW b w (w1.alloc x) :=
  ⟨h.os, h.tape, h.output, by have := h.size; simp; omega, fun i hi => by rw [Below.heap_alloc _ _ _ (by omega)]; exact h.low i hi, fun i o hne ho hB => by
    have := h.block i o hne ho hB
    rw [Below.heap_alloc _ _ _ (lt_of_block this)]; exact this⟩
theorem FrW.setB {b o : Nat} {w w1 : World} (h : FrW b w w1) (u : Value) : FrW b w (w1.setCell ⟨b, o, none⟩ u) :=
  ⟨h.os, h.tape, h.output, by simpa [World.setCell] using h.size, fun i hi => by rw [Below.heap_setCell _ _ _ _ (by show i ≠ b; omega)]; exact h.low i hi, fun i o' hne ho hB => by rw [Below.heap_setCell _ _ _ _ hne]; exact h.block i o' hne ho hB⟩
/-- An append to the writer's own row. -/
theorem FrW.grown {b : Nat} {w w1 w2 : World} {v : Value} {n : Nat} {xs : List Value} (h : FrW b w w1) (ho : w1.ownsRow (b + 1) 5 1 v n xs) (g : w1.grownBy w2 v.ownBlock) (hb : b < w1.heap.size) : FrW b w w2 := by
  have hrow : ∀ i, some i = v.ownBlock → b + 1 ≤ i ∧ ∃ cur, w1.heap[i]? = some (.cells cur 5 (0, 0)) := fun i hi => by
    rcases ho.2 with ⟨h1, _⟩ | ⟨g', cap, cur, h1, h2, h3, _⟩
    · rw [h1] at hi; cases hi
    · rw [h1] at hi
      cases hi
      exact ⟨h2, cur, h3⟩
  refine ⟨g.os.trans h.os, g.tape.trans h.tape, g.output.trans h.output, Nat.le_trans h.size g.size, fun i hi => ?_, fun i o hne hi hB => ?_⟩
  · rw [g.block i (by omega) (fun e => by have := (hrow i e).1; omega)]; exact h.low i hi
  · have h1 := h.block i o hne hi hB
    rw [g.block i (lt_of_block h1) (fun e => by
      obtain ⟨_, cur, h2⟩ := hrow i e
      rw [h1] at h2
      cases h2
      simp [isBytes] at hB)]
    exact h1
theorem FrW.below {b : Nat} {w w' : World} (h : FrW b w w') : Below b w w' := ⟨h.os, h.tape, h.output, h.size, h.low⟩

theorem WrAt.lt {w : World} {b : Nat} {o : List UInt8} (h : WrAt w b o) : b < w.heap.size := by
  obtain ⟨v, h1, _⟩ := h; exact lt_of_block h1
theorem WrAt.alloc {w : World} {b : Nat} {o : List UInt8} (h : WrAt w b o) (x : Obj) : WrAt (w.alloc x) b o := by
  have hb := h.lt
  obtain ⟨v, h1, h2⟩ := h
  exact ⟨v, by rw [Below.heap_alloc _ _ _ hb]; exact h1, h2.alloc x⟩
theorem WrAt.drew {w : World} {b : Nat} {o : List UInt8} (h : WrAt w b o) : WrAt w.drew b o := h

theorem inRow_any (c : UInt8) (w : World) : Calls Tryz.prog 169 #[.int .u8 (c.toNat : Int)] w fun e w' => e = .returned (.bool (Px.inRow c)) ∧ w' = w := by
  cases h1 : Px.isSmall c
  · go_enter Tryz.func169, Tryz.ntmps169
    go_wp2_with fail
    refine (letter_any c _).mono ?_
    rintro e w1 ⟨rfl, rfl⟩
    rw [h1]
    go_wp2_with fail
    refine (digit_any c _).mono ?_
    rintro e w1 ⟨rfl, rfl⟩
    go_wp2_with fail
    go_ret
    exact ⟨Ref.ret_bool (by unfold Px.inRow; rw [h1]; simp), rfl⟩
  · go_enter Tryz.func169, Tryz.ntmps169
    go_wp2_with fail
    refine (letter_any c _).mono ?_
    rintro e w1 ⟨rfl, rfl⟩
    rw [h1]
    go_wp2_with fail
    go_ret
    exact ⟨Ref.ret_bool (by unfold Px.inRow; rw [h1]; rfl), rfl⟩

def sgns (o : List UInt8) (ts : List ByteArray) : List UInt8 := ts.foldl (fun o t => Px.sgn o t.data.toList) o
def WPost (b : Nat) (w : World) (o : List UInt8) (e : Ending) (w' : World) : Prop := e = .returned (.tuple #[]) ∧ WrAt w' b o ∧ FrW b w w'

end Lg
end Go.Proofs.YtcogbbneodihkaaGreatDoor

namespace Go.Proofs.YtcogbbneodihkaaGreatDoor
open Go.RowKit
namespace Lg

theorem infoU8 : (Tryz.prog.info? 5).map (fun i => (i.zero, i.size, i.bytes)) = some (some (.int .u8 0), 1, 1) := by kernel_rfl

theorem sgns_cons (o : List UInt8) (t : ByteArray) (ts : List ByteArray) : sgns o (t :: ts) = sgns (Px.sgn o t.data.toList) ts := rfl
theorem bytesV_app (o t : List UInt8) : bytesV (o ++ t) = bytesV o ++ bytesV t := by simp [bytesV]
theorem strV (t : ByteArray) : Lib.strCells t = bytesV t.data.toList := rfl
theorem own_len {w : World} {base : Nat} {e : TypeId} {a : Option Addr} {n c k : Nat} {xs : List Value} (h : w.ownsRow base e 1 (.slice a n c) k xs) : n = k := by
  rcases h.2 with ⟨h1, h2⟩ | ⟨g, cap, cur, h1, _⟩
  · cases h1; exact h2.symm
  · cases h1; rfl
/-- What is last in a row that is not empty. -/
theorem own_last {w : World} {base : Nat} {e : TypeId} {a : Option Addr} {n c : Nat} {o : List UInt8} {k : Nat} (h : w.ownsRow base e 1 (.slice a n c) o.length (bytesV o)) (hk : o.length = k + 1) : ∃ g, a = some ⟨g, 0, none⟩ ∧ w.cell? ⟨g, k, none⟩ = some (.int .u8 ((o[k]'(by omega)).toNat : Int)) := by
  rcases h.2 with ⟨h1, h2⟩ | ⟨g, cap, cur, h1, h2, h3, h4, h5, h6, h7⟩
  · omega
  · cases h1
    refine ⟨g, rfl, ?_⟩
    have h8 : (cur.toList.take (o.length * 1))[k]? = (bytesV o)[k]? := by rw [h7]
    rw [List.getElem?_take_of_lt (by omega)] at h8
    have h9 : (bytesV o)[k]? = some (.int .u8 ((o[k]'(by omega)).toNat : Int)) := by
      unfold bytesV
      rw [List.getElem?_map, List.getElem?_eq_getElem (by omega)]
      rfl
    rw [h9] at h8
    simp [World.cell?, h3]
    simpa using h8
theorem gap_last {o t : List UInt8} {k : Nat} (hk : o.length = k + 1) (ht : 0 < t.length) : Px.gap o t = (Px.inRow (o[k]'(by omega)) && Px.inRow (t[0]'ht)) := by
  have h1 : o.getLast? = some (o[k]'(by omega)) := by
    rw [List.getLast?_eq_getElem?, List.getElem?_eq_getElem (by omega)]
    simp [hk]
  have h2 : t.head? = some (t[0]'ht) := by rw [List.head?_eq_getElem?, List.getElem?_eq_getElem ht]
  unfold Px.gap
  rw [h1, h2]

/-- The writer behind an append. -/
theorem WrAt.behind {w1 w2 : World} {b : Nat} {v v' : Value} {o o' : List UInt8} {n : Nat} {xs : List Value} (hb : w1.heap[b]? = some (.cells #[v] 64)) (ho : w1.ownsRow (b + 1) 5 1 v o.length (bytesV o)) (g : w1.grownBy w2 v.ownBlock) (ho' : w2.ownsRow (b + 1) 5 1 v' n xs) (hn : n = o'.length) (hx : xs = bytesV o') :
    WrAt (w2.setCell ⟨b, 0, none⟩ v') b o' ∧ w2.heap[b]? = some (.cells #[v] 64) := by
  subst hn hx
  have h1 : w2.heap[b]? = some (.cells #[v] 64) := by
    rw [g.block b (lt_of_block hb) (fun e => by
      rcases ho.2 with ⟨h1, _⟩ | ⟨g', cap, cur, h1, h2, _⟩
      · rw [h1] at e; cases e
      · rw [h1] at e
        have : b = g' := Option.some.inj e
        omega)]
    exact hb
  exact ⟨⟨v', by rw [Ref.heap_set _ h1]; simp, ownsRow_setCell_below ho' (Nat.lt_succ_self _) _⟩, h1⟩

set_option maxRecDepth 100000 in
set_option maxHeartbeats 4000000 in
theorem put_any (b g : Nat) (ts : List ByteArray) (o : List UInt8) (w : World) (h : WrAt w b o) (hg : g ≠ b) (hc : w.heap[g]? = some (.cells (ts.map Value.string).toArray 9)) (hne : ∀ t ∈ ts, 0 < t.size) (hts : ts.length ≤ 10) (hl : o.length + (ts.map fun t => t.size + 1).sum ≤ 1000000000) :
    Calls Tryz.prog 166 #[.pointer (some ⟨b, 0, none⟩), .slice (some ⟨g, 0, none⟩) ts.length ts.length] w (WPost b w (sgns o ts)) := by
  have H : Hid (WrAt w b o ∧ w.heap[g]? = some (.cells (ts.map Value.string).toArray 9) ∧ (∀ t ∈ ts, 0 < t.size)) := ⟨h, hc, hne⟩
  clear h hc hne
  go_enter Tryz.func166, Tryz.ntmps166
  obtain ⟨i0, hi, hz0, hz1, hz2⟩ := info_parts infoU8
  go_wp2_with fail
  go_loopw [9] (fun i wr => ∃ n : Nat, n ≤ ts.length ∧ i = .int .i64 n ∧ Hid (FrW b w wr ∧ ∃ o', WrAt wr b o' ∧ sgns o' (ts.drop n) = sgns o ts ∧ o'.length + ((ts.drop n).map fun t => t.size + 1).sum ≤ 1000000000)) (fun i _ => ts.length - (intOf i).toNat)
  case atStart => exact ⟨0, by omega, rfl, FrW.refl _ _, o, H.out.1, rfl, hl⟩
  case round =>
    obtain ⟨n, hn, rfl, hr⟩ := hrel
    obtain ⟨hf, o', ho', he, hv⟩ := hr.out
    clear hr
    by_cases hlt : n < ts.length
    · have hdrop : ts.drop n = ts[n] :: ts.drop (n + 1) := List.drop_eq_getElem_cons hlt
      rw [hdrop, sgns_cons] at he
      rw [hdrop, List.map_cons, List.sum_cons] at hv
      have htn : 0 < ts[n].size := H.out.2.2 _ (List.getElem_mem hlt)
      have hgr : wr.heap[g]? = _ := hf.block g _ hg H.out.2.1 rfl
      have hcr : wr.cell? ⟨g, n, none⟩ = some (.string ts[n]) := by simp [World.cell?, hgr, hlt]
      have hbz := ho'.lt
      obtain ⟨v, hb1, hown⟩ := ho'
      obtain ⟨va, vn, vc, rfl⟩ := Ref.own_shape' hown
      obtain rfl := own_len hown
      have c0 : wr.cell? ⟨b, 0, none⟩ = some (.slice va o'.length vc) := by simp [World.cell?, hb1]
      have fr : ∀ o, wr.frozen? ⟨b, o, none⟩ = false := by intro o; simp [World.frozen?, hb1]
      generalize ts[n] = t at *
      have hsl := Px.sgn_len o' t.data.toList
      have hts : t.data.toList.length = t.size := rfl
      have HH : Hid (FrW b w wr ∧ sgns (Px.sgn o' t.data.toList) (ts.drop (n + 1)) = sgns o ts ∧ wr.heap[b]? = _ ∧ wr.ownsRow _ _ _ _ _ _ ∧ o'.length + (t.size + 1 + ((ts.drop (n + 1)).map fun t => t.size + 1).sum) ≤ 1000000000 ∧ (Px.sgn o' t.data.toList).length ≤ o'.length + t.size + 1) := ⟨hf, he, hb1, hown, hv, hsl⟩
      have hl1 : o'.length ≤ 1000000000 := by omega
      have hl2 : o'.length + t.size ≤ 1000000000 := by omega
      have FIN : Hid (∀ w2, WrAt w2 b (Px.sgn o' t.data.toList) → FrW b wr w2 → (∃ n' : Nat, n' ≤ ts.length ∧ Value.int .i64 ((n : Int) + 1) = .int .i64 n' ∧ Hid (FrW b w w2 ∧ ∃ o', WrAt w2 b o' ∧ sgns o' (ts.drop n') = sgns o ts ∧ o'.length + ((ts.drop n').map fun t => t.size + 1).sum ≤ 1000000000))) := fun w2 hw2 hf2 =>
        ⟨n + 1, by omega, by go_num, HH.out.1.trans hf2, _, hw2, HH.out.2.1, by have := HH.out.2.2.2.2.1; have := HH.out.2.2.2.2.2; omega⟩
      clear hf he hb1 hown hv hsl hdrop hgr
      obtain ⟨L, hL⟩ : ∃ L, o'.length = L := ⟨_, rfl⟩
      have HL : Hid (o'.length = L) := hL
      have HO : Hid (wr.heap[b]? = some (.cells #[.slice va L vc] 64) ∧ wr.ownsRow (b + 1) 5 1 (.slice va L vc) L (bytesV o')) := by rw [← hL]; exact ⟨HH.out.2.2.1, HH.out.2.2.2.1⟩
      rw [hL] at hl1 hl2 c0
      by_cases hz : L = 0
      · have hgap : Px.gap o' t.data.toList = false := by
          have : o' = [] := List.length_eq_zero_iff.1 (hL.trans hz)
          rw [this]; rfl
        have EQ : Hid (Px.sgn o' t.data.toList = o' ++ t.data.toList) := by unfold Hid Px.sgn; rw [if_neg (by simp [hgap])]
        have t0 : ¬ (0 : Int) < L := by omega
        clear hz hL
        go_wp2_with (first
          | (at_builtin; refine Lib.wpList_append_own_string _ rfl _ _ 62 9 rfl (b + 1) 5 i0 Tryz.underlying62 Tryz.underlying9 hi hz0 hz1 hz2 _ _ _ rfl HO.out.2 t rfl ?c1 ?c2 ?c3 ?_)
          | fail)
        case c1 => unfold maxLen; omega
        case c2 => omega
        case c3 => omega
        · intro v' w3 hown' hgrow _
          obtain ⟨a1, n1, k1, rfl⟩ := Ref.own_shape' hown'
          obtain ⟨hW3, hb3⟩ := WrAt.behind (o := o') (o' := Px.sgn o' t.data.toList) HO.out.1 (by rw [HL.out]; exact HO.out.2) hgrow hown' (by rw [EQ.out, List.length_append, HL.out]; rfl) (by rw [EQ.out, bytesV_app _ t.data.toList, strV])
          have LL : Hid (WrAt (w3.setCell ⟨b, 0, none⟩ (.slice a1 n1 k1)) b (Px.sgn o' t.data.toList) ∧ FrW b wr (w3.setCell ⟨b, 0, none⟩ (.slice a1 n1 k1))) := ⟨hW3, ((FrW.refl b wr).grown HO.out.2 hgrow hbz).setB _⟩
          have e0 : w3.cell? ⟨b, 0, none⟩ = some (.slice va L vc) := by simp [World.cell?, hb3]
          have ef : ∀ o, w3.frozen? ⟨b, o, none⟩ = false := by intro o; simp [World.frozen?, hb3]
          clear hown' hgrow hW3 hb3
          go_wp2_with fail
          exact ⟨FIN.out _ LL.out.1 LL.out.2, by simp [intOf]; omega⟩
      · obtain ⟨k, hk⟩ : ∃ k, L = k + 1 := ⟨L - 1, by omega⟩
        subst hk
        obtain ⟨g', hva, hcl⟩ := own_last (o := o') (by rw [HL.out]; exact HO.out.2) HL.out
        subst hva
        have hgap := gap_last (t := t.data.toList) HL.out (by rw [hts]; exact htn)
        have hklt : k < o'.length := by rw [hL]; omega
        have ht0 : t.data.toList[0]'(by rw [hts]; exact htn) = t[0] := rfl
        rw [ht0] at hgap
        generalize hla : o'[k] = la at *
        have HG : Hid (Px.gap o' t.data.toList = (Px.inRow la && Px.inRow t[0])) := hgap
        have t0 : (0 : Int) < ((k + 1 : Nat) : Int) := by omega
        clear hgap hla hz hL hklt ht0
        cases a1 : Px.inRow la
        · have EQ : Hid (Px.sgn o' t.data.toList = o' ++ t.data.toList) := by unfold Hid Px.sgn; rw [HG.out, a1]; rfl
          go_wp2_with fail
          refine (inRow_any la _).mono ?_
          rintro e w1 ⟨rfl, rfl⟩
          rw [a1]
          go_wp2_with (first
            | (at_builtin; refine Lib.wpList_append_own_string _ rfl _ _ 62 9 rfl (b + 1) 5 i0 Tryz.underlying62 Tryz.underlying9 hi hz0 hz1 hz2 _ _ _ rfl HO.out.2 t rfl ?c1 ?c2 ?c3 ?_)
            | fail)
          case c1 => unfold maxLen; omega
          case c2 => omega
          case c3 => omega
          · intro v' w3 hown' hgrow _
            obtain ⟨a1, n1, k1, rfl⟩ := Ref.own_shape' hown'
            obtain ⟨hW3, hb3⟩ := WrAt.behind (o := o') (o' := Px.sgn o' t.data.toList) HO.out.1 (by rw [HL.out]; exact HO.out.2) hgrow hown' (by rw [EQ.out, List.length_append, HL.out]; rfl) (by rw [EQ.out, bytesV_app _ t.data.toList, strV])
            have LL : Hid (WrAt (w3.setCell ⟨b, 0, none⟩ (.slice a1 n1 k1)) b (Px.sgn o' t.data.toList) ∧ FrW b _ (w3.setCell ⟨b, 0, none⟩ (.slice a1 n1 k1))) := ⟨hW3, ((FrW.refl b _).grown HO.out.2 hgrow hbz).setB _⟩
            have e0 : w3.cell? ⟨b, 0, none⟩ = some (.slice (some ⟨g', 0, none⟩) (k + 1) vc) := by simp [World.cell?, hb3]
            have ef : ∀ o, w3.frozen? ⟨b, o, none⟩ = false := by intro o; simp [World.frozen?, hb3]
            clear hown' hgrow hW3 hb3
            go_wp2_with fail
            exact ⟨FIN.out _ LL.out.1 LL.out.2, by simp [intOf]; omega⟩
        · cases b1 : Px.inRow t[0]
          · have EQ : Hid (Px.sgn o' t.data.toList = o' ++ t.data.toList) := by unfold Hid Px.sgn; rw [HG.out, a1, b1]; rfl
            go_wp2_with fail
            refine (inRow_any la _).mono ?_
            rintro e w1 ⟨rfl, rfl⟩
            rw [a1]
            go_wp2_with fail
            refine (inRow_any t[0] _).mono ?_
            rintro e w1 ⟨rfl, rfl⟩
            rw [b1]
            go_wp2_with (first
              | (at_builtin; refine Lib.wpList_append_own_string _ rfl _ _ 62 9 rfl (b + 1) 5 i0 Tryz.underlying62 Tryz.underlying9 hi hz0 hz1 hz2 _ _ _ rfl HO.out.2 t rfl ?c1 ?c2 ?c3 ?_)
              | fail)
            case c1 => unfold maxLen; omega
            case c2 => omega
            case c3 => omega
            · intro v' w3 hown' hgrow _
              obtain ⟨a1, n1, k1, rfl⟩ := Ref.own_shape' hown'
              obtain ⟨hW3, hb3⟩ := WrAt.behind (o := o') (o' := Px.sgn o' t.data.toList) HO.out.1 (by rw [HL.out]; exact HO.out.2) hgrow hown' (by rw [EQ.out, List.length_append, HL.out]; rfl) (by rw [EQ.out, bytesV_app _ t.data.toList, strV])
              have LL : Hid (WrAt (w3.setCell ⟨b, 0, none⟩ (.slice a1 n1 k1)) b (Px.sgn o' t.data.toList) ∧ FrW b _ (w3.setCell ⟨b, 0, none⟩ (.slice a1 n1 k1))) := ⟨hW3, ((FrW.refl b _).grown HO.out.2 hgrow hbz).setB _⟩
              have e0 : w3.cell? ⟨b, 0, none⟩ = some (.slice (some ⟨g', 0, none⟩) (k + 1) vc) := by simp [World.cell?, hb3]
              have ef : ∀ o, w3.frozen? ⟨b, o, none⟩ = false := by intro o; simp [World.frozen?, hb3]
              clear hown' hgrow hW3 hb3
              go_wp2_with fail
              exact ⟨FIN.out _ LL.out.1 LL.out.2, by simp [intOf]; omega⟩
          · have EQ : Hid (Px.sgn o' t.data.toList = (o' ++ [32]) ++ t.data.toList) := by unfold Hid Px.sgn; rw [HG.out, a1, b1]; simp
            go_wp2_with fail
            refine (inRow_any la _).mono ?_
            rintro e w1 ⟨rfl, rfl⟩
            rw [a1]
            go_wp2_with fail
            refine (inRow_any t[0] _).mono ?_
            rintro e w1 ⟨rfl, rfl⟩
            rw [b1]
            go_wp2_with (first
              | (at_builtin; refine wpList_append_own_at _ rfl _ _ 62 rfl (b + 1) 5 i0 (.int .u8 0) 1 1 Tryz.underlying62 hi hz0 hz1 hz2 rfl (by decide) _ _ _ rfl (HO.out.2.alloc _) ⟨w1.heap.size, 0, none⟩ 1 1 [.int .u8 32] rfl rfl (cell_one_new _ _ _) ?c2 ?c3 ?c4 ?c5 ?_)
              | fail)
            case c2 => intro u hu; simp at hu; subst hu; rfl
            case c3 => unfold maxLen; omega
            case c4 => omega
            case c5 => simp; omega
            · intro v' w3 hown' hgrow _ _
              obtain ⟨a2, n2, k2, rfl⟩ := Ref.own_shape' hown'
              obtain ⟨hW3, hb3⟩ := WrAt.behind (o := o') (o' := o' ++ [32]) (w1 := w1.alloc (.cells #[.int .u8 32] 5)) (by rw [Below.heap_alloc _ _ _ hbz]; exact HO.out.1) (by rw [HL.out]; exact HO.out.2.alloc _) hgrow hown' (by rw [List.length_append, HL.out]; rfl) (by rw [bytesV_app]; rfl)
              have F3 : Hid (FrW b w1 (w3.setCell ⟨b, 0, none⟩ (.slice a2 n2 k2))) := ((((FrW.refl b w1).alloc hbz _).grown (HO.out.2.alloc _) hgrow (by simp; omega))).setB _
              obtain ⟨v3, hv3, hown3⟩ := hW3
              have hv3' : v3 = .slice a2 n2 k2 := by
                rw [Ref.heap_set _ hb3] at hv3
                simp at hv3
                exact hv3.symm
              subst hv3'
              have hn2 := own_len hown3
              have HL3 : Hid ((o' ++ [32]).length = n2) := hn2.symm
              have HO3 : Hid ((w3.setCell ⟨b, 0, none⟩ (.slice a2 n2 k2)).heap[b]? = some (.cells #[.slice a2 n2 k2] 64) ∧ (w3.setCell ⟨b, 0, none⟩ (.slice a2 n2 k2)).ownsRow (b + 1) 5 1 (.slice a2 n2 k2) n2 (bytesV (o' ++ [32]))) := by
                refine ⟨hv3, ?_⟩
                have := hown3
                rw [← hn2] at this
                exact this
              have hn3 : n2 = k + 1 + 1 := by rw [hn2, List.length_append, HL.out]; rfl
              have hbz3 : b < (w3.setCell ⟨b, 0, none⟩ (.slice a2 n2 k2)).heap.size := lt_of_block hv3
              have d0 : w3.cell? ⟨b, 0, none⟩ = some (.slice (some ⟨g', 0, none⟩) (k + 1) vc) := by simp [World.cell?, hb3]
              have df : ∀ o, w3.frozen? ⟨b, o, none⟩ = false := by intro o; simp [World.frozen?, hb3]
              clear hown' hgrow hv3 hown3 hn2 hb3
              subst hn3
              go_wp2_with (first
                | (at_builtin; refine Lib.wpList_append_own_string _ rfl _ _ 62 9 rfl (b + 1) 5 i0 Tryz.underlying62 Tryz.underlying9 hi hz0 hz1 hz2 _ _ _ rfl HO3.out.2 t rfl ?c1 ?c2 ?c3 ?_)
                | fail)
              case c1 => unfold maxLen; omega
              case c2 => omega
              case c3 => omega
              · intro v' w4 hown' hgrow _
                obtain ⟨a1, n1, k1, rfl⟩ := Ref.own_shape' hown'
                obtain ⟨hW3, hb3⟩ := WrAt.behind (o := (o' ++ [32])) (o' := Px.sgn o' t.data.toList) HO3.out.1 (by rw [HL3.out]; exact HO3.out.2) hgrow hown' (by rw [EQ.out, List.length_append, HL3.out]; rfl) (by rw [EQ.out, bytesV_app _ t.data.toList, strV])
                have LL : Hid (WrAt (w4.setCell ⟨b, 0, none⟩ (.slice a1 n1 k1)) b (Px.sgn o' t.data.toList) ∧ FrW b _ (w4.setCell ⟨b, 0, none⟩ (.slice a1 n1 k1))) := ⟨hW3, (F3.out.grown HO3.out.2 hgrow hbz3).setB _⟩
                have e0 : w4.cell? ⟨b, 0, none⟩ = some (.slice a2 (k + 1 + 1) k2) := by simp [World.cell?, hb3]
                have ef : ∀ o, w4.frozen? ⟨b, o, none⟩ = false := by intro o; simp [World.frozen?, hb3]
                clear hown' hgrow hW3 hb3
                go_wp2_with fail
                exact ⟨FIN.out _ LL.out.1 LL.out.2, by simp [intOf]; omega⟩
    · have hnl : ts.drop n = [] := List.drop_of_length_le (by omega)
      rw [hnl] at he
      have HH : Hid (FrW b w wr ∧ WrAt wr b (sgns o ts)) := ⟨hf, by rw [← he]; exact ho'⟩
      clear hf ho' he hnl hv
      go_wp2_with fail
      go_end0
      exact ⟨rfl, HH.out.2, HH.out.1⟩

end Lg
end Go.Proofs.YtcogbbneodihkaaGreatDoor

namespace Go.Proofs.YtcogbbneodihkaaGreatDoor
open Go.RowKit
open Go.Shelf
def itoaLays_ren : Go.Shelf.Ren := ⟨fun | 171 => 113 | 243 => 116 | 246 => 117 | 283 => 118 | 284 => 119 | 285 => 120 | 286 => 121 | 129 => 123 | 317 => 122 | 318 => 124 | 319 => 125 | 320 => 126 | 337 => 127 | 338 => 128 | n => n, fun | 3 => 3 | 9 => 9 | 2 => 2 | 4 => 4 | 171 => 234 | 0 => 0 | 53 => 214 | 37 => 62 | 5 => 5 | 173 => 237 | 212 => 241 | 51 => 242 | 20 => 20 | 213 => 243 | 46 => 217 | 232 => 247 | 233 => 248 | n => n, fun | 17 => 11 | 18 => 12 | 19 => 13 | n => n⟩
theorem itoaLays : Go.Proofs.LaysM.n171 Tryz.prog itoaLays_ren := {
  mixed := by kernel_rfl
  f129 := Tryz.func123.trans (congrArg some (by kernel_rfl))
  f171 := Tryz.func113.trans (congrArg some (by kernel_rfl))
  f243 := Tryz.func116.trans (congrArg some (by kernel_rfl))
  f246 := Tryz.func117.trans (congrArg some (by kernel_rfl))
  f283 := Tryz.func118.trans (congrArg some (by kernel_rfl))
  f284 := Tryz.func119.trans (congrArg some (by kernel_rfl))
  f285 := Tryz.func120.trans (congrArg some (by kernel_rfl))
  f286 := Tryz.func121.trans (congrArg some (by kernel_rfl))
  f317 := Tryz.func122.trans (congrArg some (by kernel_rfl))
  f318 := Tryz.func124.trans (congrArg some (by kernel_rfl))
  f319 := Tryz.func125.trans (congrArg some (by kernel_rfl))
  f320 := Tryz.func126.trans (congrArg some (by kernel_rfl))
  f337 := Tryz.func127.trans (congrArg some (by kernel_rfl))
  f338 := Tryz.func128.trans (congrArg some (by kernel_rfl))
  t0 := Tryz.underlying0
  a0 := Tryz.isAgg0
  z0 := Tryz.sizeOf0
  v0 := Tryz.zeroValue0
  t2 := Tryz.underlying2
  a2 := Tryz.isAgg2
  z2 := Tryz.sizeOf2
  v2 := Tryz.zeroValue2
  t3 := Tryz.underlying3
  a3 := Tryz.isAgg3
  z3 := Tryz.sizeOf3
  v3 := Tryz.zeroValue3
  t4 := Tryz.underlying4
  a4 := Tryz.isAgg4
  z4 := Tryz.sizeOf4
  v4 := Tryz.zeroValue4
  t5 := Tryz.underlying5
  a5 := Tryz.isAgg5
  z5 := Tryz.sizeOf5
  v5 := Tryz.zeroValue5
  t9 := Tryz.underlying9
  a9 := Tryz.isAgg9
  z9 := Tryz.sizeOf9
  v9 := Tryz.zeroValue9
  t20 := Tryz.underlying20
  a20 := Tryz.isAgg20
  z20 := Tryz.sizeOf20
  v20 := Tryz.zeroValue20
  t37 := Tryz.underlying62
  a37 := Tryz.isAgg62
  z37 := Tryz.sizeOf62
  v37 := Tryz.zeroValue62
  t46 := Tryz.underlying217
  a46 := Tryz.isAgg217
  z46 := Tryz.sizeOf217
  v46 := Tryz.zeroValue217
  t51 := Tryz.underlying242
  a51 := Tryz.isAgg242
  z51 := Tryz.sizeOf242
  v51 := Tryz.zeroValue242
  t53 := Tryz.underlying214
  a53 := Tryz.isAgg214
  z53 := Tryz.sizeOf214
  v53 := Tryz.zeroValue214
  t171 := Tryz.underlying234
  a171 := Tryz.isAgg234
  z171 := Tryz.sizeOf234
  v171 := Tryz.zeroValue234
  t173 := Tryz.underlying237
  a173 := Tryz.isAgg237
  z173 := Tryz.sizeOf237
  v173 := Tryz.zeroValue237
  t212 := Tryz.underlying241
  a212 := Tryz.isAgg241
  z212 := Tryz.sizeOf241
  v212 := Tryz.zeroValue241
  t213 := Tryz.underlying243
  a213 := Tryz.isAgg243
  z213 := Tryz.sizeOf243
  t232 := Tryz.underlying247
  a232 := Tryz.isAgg247
  z232 := Tryz.sizeOf247
  v232 := Tryz.zeroValue247
  t233 := Tryz.underlying248
  a233 := Tryz.isAgg248
  z233 := Tryz.sizeOf248
  v233 := Tryz.zeroValue248
  g17 := by kernel_rfl
  g18 := by kernel_rfl
  g19 := by kernel_rfl
  i0 := by kernel_rfl
  i2 := by kernel_rfl
  i3 := by kernel_rfl
  i4 := by kernel_rfl
  i5 := by kernel_rfl
  i9 := by kernel_rfl
  i20 := by kernel_rfl
  i37 := by kernel_rfl
  i46 := by kernel_rfl
  i51 := by kernel_rfl
  i53 := by kernel_rfl
  i171 := by kernel_rfl
  i173 := by kernel_rfl
  i212 := by kernel_rfl
  i232 := by kernel_rfl
  i233 := by kernel_rfl
  m17 := by kernel_rfl
  m18 := by kernel_rfl
  m19 := by kernel_rfl }


theorem itoa_laid (n : Int) (h0 : -9223372036854775808 ≤ n) (h1 : n ≤ 9223372036854775807) (w : World) (htab : Lib.TabIs Tryz.prog w "internal/strconv.uint64pow10" .u64 Lib.pow10Tab) :
    Calls Tryz.prog 113 #[.int .i64 n] w fun e w' => e = .returned (.string ⟨(Lib.itoa n).toArray⟩) ∧ ∃ k os, w' = Sort.grow (w.drewN k) os := Any.strconv_Itoa itoaLays n h0 h1 w htab

end Go.Proofs.YtcogbbneodihkaaGreatDoor
