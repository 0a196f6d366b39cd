import Derived.WalkSpells
set_option maxRecDepth 100000
namespace Go.Proofs.YtokkhhekekeokaaGreatDoor
abbrev fq:=ByteArray
abbrev fu:=World
abbrev fC:=Value
abbrev ah:=@Or.inr
abbrev aj:=@Nat.le_refl
abbrev ak:=@Or.inl
abbrev ay:=@List.length_append
abbrev aA:=@Calls.mono
abbrev aB:=@Array.getElem?_push
abbrev aC:=@List.length_cons
abbrev aD:=@Go.RowKit.Below.heap_alloc
abbrev aF:=@World.cell?_of_block
abbrev aG:=@Array.getElem?_eq_some_iff
abbrev aH:=@Go.RowKit.Below.refl
abbrev aI:=@List.append_assoc
abbrev aJ:=@List.getElem?_append_right
abbrev aK:=@Nat.zero_le
abbrev aL:=@List.length_nil
abbrev aM:=@List.getElem?_cons_succ
abbrev aN:=@ByteArray.toList_eq
abbrev aO:=@List.prefix_refl
abbrev aP:=@Nat.le_trans
abbrev aQ:=@List.getElem?_append_left
abbrev aR:=@Decidable.byContradiction
abbrev aS:=@List.length_singleton
abbrev aT:=@World.ownsRow_nil
abbrev aU:=@List.getElem?_eq_some_iff
abbrev aV:=@Nat.lt_of_lt_of_le
abbrev aX:=@List.getD_eq_getElem?_getD
abbrev aY:=@List.length_eq_zero_iff
abbrev aZ:=@Bool.and_eq_true
abbrev bf:=@Nat.le_succ_of_le
abbrev bg:=@List.take_succ_eq_append_getElem
abbrev bq:=@List.mem_singleton
abbrev bA:=@Bool.eq_iff_iff
abbrev bC:=@List.getElem?_take_of_lt
abbrev bD:=@List.getElem?_eq_getElem
abbrev bE:=@Option.map_eq_some_iff
abbrev bF:=@World.cell?_alloc_lt
abbrev bG:=@List.cons_append
abbrev bH:=@List.dropLast_concat_getLast
abbrev bJ:=@List.mem_of_getElem?
abbrev bK:=@List.getLastD_eq_getLast?
abbrev bL:=@Go.RowKit.Below.heap_setCell
abbrev bM:=@List.length_replicate
abbrev bN:=@Nat.le_of_lt
abbrev bO:=@Nat.not_lt_zero
abbrev bP:=@Nat.le_succ
abbrev bQ:=@World.frozen?_of_block
abbrev bR:=@List.mem_append
abbrev bU:=@List.length_take
abbrev bV:=@List.length_pos_iff
abbrev bX:=@Nat.zero_add
abbrev bY:=@List.mem_cons
abbrev bZ:=@Nat.succ_pos
abbrev cB:=@List.drop_eq_getElem_cons
abbrev cK:=@List.take_length
abbrev cO:=@List.length_dropLast
abbrev cZ:=@List.drop_of_length_le
abbrev dh:=@List.nil_append
abbrev dx:=@Bool.or_eq_true
abbrev dz:=@List.length_tail
abbrev dA:=@List.isEmpty_iff
abbrev dB:=@Bool.not_eq_true'
abbrev dD:=@Nat.lt_or_ge
abbrev dF:=@ByteArray.size_extract
abbrev dG:=@List.append_nil
abbrev dH:=@List.getElem?_replicate
abbrev dI:=@List.getElem?_cons_zero
abbrev dJ:=@List.eq_nil_of_length_eq_zero
abbrev dK:=@List.mem_cons_self
abbrev dL:=@Array.getElem?_eq_none
abbrev dM:=@List.length_set
abbrev dN:=@Nat.add_assoc
abbrev dO:=@List.getElem?_toArray
abbrev dP:=@List.reverse_cons
abbrev dQ:=@List.flatMap_cons
abbrev dR:=@List.setIfInBounds_toArray
abbrev dS:=@Bool.or_eq_false_iff
abbrev dU:=@Nat.add_zero
abbrev dV:=@List.getElem_mem
abbrev dW:=@List.all_eq_true
abbrev dX:=@ByteArray.getElem_extract
abbrev dY:=@List.getElem_of_mem
abbrev dZ:=@List.flatMap_append
abbrev eD:=@Array.length_toList
abbrev eF:=@List.map_cons
abbrev eH:=@Bool.false_eq_true
abbrev eO:=@World.frozen?_alloc_old
abbrev eP:=@Nat.sub_self
abbrev eU:=@List.take_of_length_le
abbrev eY:=@List.tail_cons
abbrev eZ:=@List.set_append_right
namespace Px
def ku (c:UInt8):Bool:=decide (97<=c.toNat) && decide (c.toNat<=122)
def kC (c:UInt8):Bool:=decide (48<=c.toNat) && decide (c.toNat<=57)
def qx (c:UInt8):Bool:=c == 32 || c == 10
def marks:List UInt8:=[61,59,40,41,123,125,60,35,43,45,42,47]
def vQ (c:UInt8):Bool:=marks.contains c
def wP:List (List UInt8):=[[108,101,116],[99,97,108,108],[97,115],[117,110,100,111],[116,114,105,101,115],[105,102],[101,108,115,101],[116,114,121],[114,101,112,101,97,116],[102,97,105,108],[116,114,117,101],[102,97,108,115,101],[110,111,116]]
def qR (w:List UInt8):Bool:=wP.contains w
def qJ (p:UInt8->Bool)(s:fq):Nat->Nat->Nat
 | 0,i=>i
 | n+1,i=>if h:i < s.size then (if p s[i] then qJ p s n (i+1) else i) else i
def jD (p:UInt8->Bool)(s:fq)(i:Nat):Nat:=qJ p s (s.size - i) i
theorem Uu (p:UInt8->Bool)(s:fq)(n i:Nat):i<=qJ p s n i:=by
 induction n generalizing i with
 | zero=>simp[qJ]
 | succ n ih =>
  unfold qJ;split
  ·split
   ·have:=ih (i+1);omega
   ·omega
  ·omega
theorem Z6 (p:UInt8->Bool)(s:fq)(n i:Nat)(h:i<=s.size):qJ p s n i<=s.size:=by
 induction n generalizing i with
 | zero=>simpa [qJ] using h
 | succ n ih =>
  unfold qJ;split
  ·split
   ·exact ih (i+1) (by omega)
   ·omega
  ·omega
theorem KM (p:UInt8->Bool)(s:fq)(n i:Nat):∀ k (hk:k < s.size),i<=k->k < qJ p s n i->p s[k]=true:=by
 induction n generalizing i with
 | zero=>intro k hk h1 h2;simp[qJ] at h2;omega
 | succ n ih =>
  intro k hk h1 h2;unfold qJ at h2;split at h2
  ·split at h2
   ·rename_i hp;by_cases e:k=i
    ·subst e;exact hp
    ·exact ih (i+1) k hk (by omega) h2
   ·omega
  ·omega
theorem Uv (p:UInt8->Bool)(s:fq)(n i:Nat)(hn:s.size - i<=n):∀ (h:qJ p s n i < s.size),p s[qJ p s n i]=false:=by
 induction n generalizing i with
 | zero=>intro h;simp[qJ] at h;omega
 | succ n ih =>
  intro h;by_cases hi:i < s.size
  ·by_cases hp:p s[i]=true
   ·have e:qJ p s (n+1) i=qJ p s n (i+1):=by rw[qJ,dif_pos hi,if_pos hp]
    simp only[e] at h |-;exact ih (i+1) (by omega) h
   ·have e:qJ p s (n+1) i=i:=by rw[qJ,dif_pos hi,if_neg hp]
    simp only[e] at h |-
    simpa using hp
  ·have e:qJ p s (n+1) i=i:=by rw[qJ,dif_neg hi]
   simp only[e] at h;omega
theorem KN (p:UInt8->Bool)(s:fq)(i:Nat):i<=jD p s i:=Uu _ _ _ _
theorem yZ (p:UInt8->Bool)(s:fq)(i:Nat)(h:i<=s.size):jD p s i<=s.size:=Z6 _ _ _ _ h
theorem xP (p:UInt8->Bool)(s:fq)(i k:Nat)(h1:i<=k)(h2:k<=s.size)(ha:∀ j (hj:j < s.size),i<=j->j < k->p s[j]=true)(hs:∀ (h:k < s.size),p s[k]=false):jD p s i=k:=by
 have g1:=KN p s i;have g2:=yZ p s i (by omega)
 rcases Nat.lt_trichotomy (jD p s i) k with h | h | h
 ·have:=Uv p s (s.size - i) i (aj _) (by unfold jD at h;omega)
  have h3:=ha (jD p s i) (by omega) g1 h
  unfold jD at h3;rw[this] at h3;simp at h3
 ·exact h
 ·have h3:=KM p s (s.size - i) i k (by omega) h1 h
  rw[hs (by omega)] at h3;simp at h3
structure Tok where
 k:Nat
 a:Nat
 b:Nat
def pJ (s:fq)(a:Nat):Tok :=
 if h:a < s.size then
  if ku s[a] then
   if qR (s.extract a (jD ku s a)).toList then ⟨107,a,jD ku s a⟩ else if 8 < jD ku s a - a then ⟨63,a,a⟩ else ⟨119,a,jD ku s a⟩
  else if kC s[a] then
   if 4 < jD kC s a - a then ⟨63,a,a⟩ else ⟨110,a,jD kC s a⟩
  else if vQ s[a] then ⟨107,a,a+1⟩ else ⟨63,a,a⟩
 else ⟨0,s.size,s.size⟩
def tok (s:fq)(i:Nat):Tok:=pJ s (jD qx s i)
variable {s:fq}{a b:Nat}
theorem KO (h:¬ a < s.size):pJ s a=⟨0,s.size,s.size⟩:=by rw[pJ,dif_neg h]
theorem Gq (h:a < s.size)(hs:ku s[a]=true)(hb:jD ku s a=b)(hk:qR (s.extract a b).toList=true):pJ s a=⟨107,a,b⟩:=by
 subst hb;rw[pJ,dif_pos h,if_pos hs,if_pos hk]
theorem Gs (h:a < s.size)(hs:ku s[a]=true)(hb:jD ku s a=b)(hk:qR (s.extract a b).toList=false)(hl:8 < b - a):pJ s a=⟨63,a,a⟩:=by
 subst hb;rw[pJ,dif_pos h,if_pos hs,if_neg (by simp[hk]),if_pos hl]
theorem Gt (h:a < s.size)(hs:ku s[a]=true)(hb:jD ku s a=b)(hk:qR (s.extract a b).toList=false)(hl:¬ 8 < b - a):pJ s a=⟨119,a,b⟩:=by
 subst hb;rw[pJ,dif_pos h,if_pos hs,if_neg (by simp[hk]),if_neg hl]
theorem Gu (h:a < s.size)(hs:ku s[a]=false)(hd:kC s[a]=true)(hb:jD kC s a=b)(hl:4 < b - a):pJ s a=⟨63,a,a⟩:=by
 subst hb;rw[pJ,dif_pos h,if_neg (by simp[hs]),if_pos hd,if_pos hl]
theorem Gv (h:a < s.size)(hs:ku s[a]=false)(hd:kC s[a]=true)(hb:jD kC s a=b)(hl:¬ 4 < b - a):pJ s a=⟨110,a,b⟩:=by
 subst hb;rw[pJ,dif_pos h,if_neg (by simp[hs]),if_pos hd,if_neg hl]
theorem KP (h:a < s.size)(hs:ku s[a]=false)(hd:kC s[a]=false)(hm:vQ s[a]=true):pJ s a=⟨107,a,a+1⟩:=by
 rw[pJ,dif_pos h,if_neg (by simp[hs]),if_neg (by simp[hd]),if_pos hm]
theorem KQ (h:a < s.size)(hs:ku s[a]=false)(hd:kC s[a]=false)(hm:vQ s[a]=false):pJ s a=⟨63,a,a⟩:=by
 rw[pJ,dif_pos h,if_neg (by simp[hs]),if_neg (by simp[hd]),if_neg (by simp[hm])]
end Px
open Go.RowKit
theorem _root_.Go.RowKit.Hid.o {p:Prop}(h:Hid p):p:=h.out
structure Kp (b:Nat)(w w':fu):Prop where
 os:w'.os=w.os
 tape:w'.tape=w.tape
 output:w'.output=w.output
 size:w.heap.size<=w'.heap.size
 block:∀ k,k < w.heap.size->k≠b->w'.heap[k]?=w.heap[k]?
theorem Kp.refl (b:Nat)(w:fu):Kp b w w:=⟨rfl,rfl,rfl,aj _,fun _ _ _=>rfl⟩
theorem Kp.trans {b:Nat}{w w1 w2:fu}(h:Kp b w w1)(k:Kp b w1 w2):Kp b w w2 :=
 ⟨k.os.trans h.os,k.tape.trans h.tape,k.output.trans h.output,aP h.size k.size,fun i hi hb=>(k.block i (aV hi h.size) hb).trans (h.block i hi hb)⟩
theorem Kp.drew {b:Nat}{w w1:fu}(h:Kp b w w1):Kp b w w1.drew:=⟨h.os,h.tape,h.output,h.size,h.block⟩
theorem Kp.below {b:Nat}{w w1 w2:fu}(h:Kp b w w1)(k:Below w1.heap.size w1 w2):Kp b w w2 :=
 h.trans ⟨k.os,k.tape,k.output,k.size,fun i hi _=>k.block i hi⟩
theorem Kp.alloc {b:Nat}{w w1:fu}(h:Kp b w w1)(o:Obj):Kp b w (w1.alloc o) :=
 h.below ((aH _ _).alloc (aj _) _)
theorem Kp.setCell {b:Nat}{w w1:fu}(h:Kp b w w1)(p:Addr)(hp:p.block=b\/w.heap.size<=p.block)(u:fC):Kp b w (w1.setCell p u) :=
 ⟨h.os,h.tape,h.output,by simpa [World.setCell] using h.size,fun i hi hb=>by
  rw[bL _ _ _ _ (by rcases hp with hp | hp<;>omega)];exact h.block i hi hb⟩
theorem Kp.jC {b o:Nat}{w w1:fu}(h:Kp b w w1)(u:fC):Kp b w (w1.setCell ⟨b,o,none⟩ u):=h.setCell _ (ak rfl) u
theorem Kp.gI {b k o:Nat}{w w1:fu}(h:Kp b w w1)(hk:w.heap.size<=k)(u:fC):Kp b w (w1.setCell ⟨k,o,none⟩ u):=h.setCell _ (ah hk) u
theorem Kp.cell {b:Nat}{w w':fu}(h:Kp b w w'){k o:Nat}(hk:k < w.heap.size)(hb:k≠b):w'.cell? ⟨k,o,none⟩=w.cell? ⟨k,o,none⟩:=aF (w:=w) (h.block k hk hb)
theorem Kp.mY {b B:Nat}{w w':fu}(h:Kp b w w')(hB:B<=b)(hs:B<=w.heap.size):Below B w w':=⟨h.os,h.tape,h.output,h.size,fun k hk=>h.block k (by omega) (by omega)⟩
theorem lt_of_cell {w:fu}{b o:Nat}{v:fC}(h:w.cell? ⟨b,o,none⟩=some v):b < w.heap.size:=by
 rcases dD b w.heap.size with hb | hb
 ·exact hb
 ·have:w.heap[b]?=none:=by simp[hb]
  simp[World.cell?,this] at h
theorem pq {w:fu}{k:Nat}{a b c d:fC}{t:TypeId}(h:w.heap[k]?=some (.cells #[a,b,c,d] t)) :
  w.cell? ⟨k,0,none⟩=some a/\w.cell? ⟨k,1,none⟩=some b/\w.cell? ⟨k,2,none⟩=some c/\w.cell? ⟨k,3,none⟩=some d/\∀ o,w.frozen? ⟨k,o,none⟩=false:=by
 refine ⟨?_,?_,?_,?_,?_⟩<;>simp[World.cell?,World.frozen?,h]
theorem Z7 {w W w1:fu}{o p:Obj}(hW:W.heap=(w.heap.push o).push p)(h:Below W.heap.size W w1):w1.heap[w.heap.size]?=some o/\w1.heap[w.heap.size+1]?=some p:=by
 have e0:W.heap.size=w.heap.size+2:=by rw[hW];simp
 constructor
 ·rw[h.block _ (by omega),hW,aB,if_neg (by simp),aB,if_pos rfl]
 ·rw[h.block _ (by omega),hW,aB,if_pos (by simp)]
theorem xQ {b:Nat}{w w1:fu}{o:Obj}(h:Kp b (w.alloc o) w1)(hb:b < w.heap.size):w1.heap[w.heap.size]?=some o:=by
 rw[h.block _ (by simp) (by omega)]
 show (w.heap.push o)[w.heap.size]?=some o
 rw[aB,if_pos rfl]
theorem Kp.vR {b:Nat}{w w1:fu}{o:Obj}(h:Kp b (w.alloc o) w1):Kp b w w1:=((Kp.refl b w).alloc o).trans h
namespace Px
def gy (s:fq)(t:Tok)(x:fq):Bool:=t.k == 107 && (s.extract t.a t.b).toList == x.toList
def rW (fF fH:Int)(a:Nat):Int:=if 4<=fF/\fH < 0 then a else fH
structure Ex where
 op:Nat
 n:Nat
 fD:fq
 pl:Nat
 own:Nat
 l:Option Ex
 r:Option Ex
structure Sm where
 op:Nat
 fD:fq
 pl:Nat
 ex:Option Ex
 gu:fq
 fZ:Nat
 undo:fq
 n:Nat
 gG:Nat
 one:List Sm
 two:List Sm
structure Ps where
 t:Tok
 fF:Int
 fH:Int
def nx (s:fq)(st:Ps):Ps:=⟨tok s st.t.b,st.fF,st.fH⟩
def dn (st:Ps):Ps:=⟨st.t,st.fF+1,rW st.fF st.fH st.t.a⟩
def qy (st:Ps):Ps:=⟨st.t,st.fF - 1,st.fH⟩
def txt (s:fq)(t:Tok):fq:=s.extract t.a t.b
def valOf (l:List UInt8):Nat:=l.foldl (fun n c=>10 * n+(c.toNat - 48)) 0
def gM:fq:=⟨#[]⟩
def chain (s:fq)(part:Ps->Except Nat (Ex×Ps))(a b:UInt8):Nat->Nat->Ex->Ps->Except Nat (Ex×Ps)
 | 0,_,_,st=>.error st.t.a
 | n+1,pl,e,st =>
  if gy s st.t ⟨#[a]⟩ then
   match part (nx s st) with
   | .error p=>.error p
   | .ok (k,st')=>chain s part a b n pl ⟨a.toNat,0,gM,pl,st.t.a,some e,some k⟩ st'
  else if gy s st.t ⟨#[b]⟩ then
   match part (nx s st) with
   | .error p=>.error p
   | .ok (k,st')=>chain s part a b n pl ⟨b.toNat,0,gM,pl,st.t.a,some e,some k⟩ st'
  else .ok (e,st)
def row (s:fq)(part:Ps->Except Nat (Ex×Ps))(a b:UInt8)(st:Ps):Except Nat (Ex×Ps) :=
 match part st with
 | .error p=>.error p
 | .ok (e,st')=>chain s part a b (s.size+1) st.t.a e st'
def term (s:fq)(atom:Ps->Except Nat (Ex×Ps))(st:Ps):Except Nat (Ex×Ps):=row s atom 42 47 st
def sum (s:fq)(atom:Ps->Except Nat (Ex×Ps))(st:Ps):Except Nat (Ex×Ps):=row s (term s atom) 43 45 st
def qj (s:fq)(t:Tok):Option Nat:=if gy s t ⟨#[60]⟩ then some 60 else if gy s t ⟨#[61]⟩ then some 61 else if gy s t ⟨#[35]⟩ then some 35 else none
def expr (s:fq)(atom:Ps->Except Nat (Ex×Ps))(st:Ps):Except Nat (Ex×Ps) :=
 match sum s atom st with
 | .error p=>.error p
 | .ok (e,st1) =>
  match qj s st1.t with
  | none=>.ok (e,st1)
  | some o =>
   match sum s atom (nx s st1) with
   | .error p=>.error p
   | .ok (k,st2)=>.ok (⟨o,0,gM,st.t.a,st1.t.a,some e,some k⟩,st2)
def leaf (op n:Nat)(w:fq)(a:Nat):Ex:=⟨op,n,w,a,a,none,none⟩
def atom (s:fq):Nat->Ps->Except Nat (Ex×Ps)
 | 0,st=>.error st.t.a
 | n+1,st =>
  if st.t.k=110 then .ok (leaf 110 (valOf (txt s st.t).toList) gM st.t.a,nx s st)
  else if st.t.k=119 then .ok (leaf 119 0 (txt s st.t) st.t.a,nx s st)
  else if gy s st.t ⟨#[116,114,117,101]⟩ then .ok (leaf 116 1 gM st.t.a,nx s st)
  else if gy s st.t ⟨#[102,97,108,115,101]⟩ then .ok (leaf 116 0 gM st.t.a,nx s st)
  else if gy s st.t ⟨#[110,111,116]⟩ then
   match atom s n (nx s st) with
   | .error p=>.error p
   | .ok (k,st')=>.ok (⟨33,0,gM,st.t.a,st.t.a,some k,none⟩,st')
  else if gy s st.t ⟨#[40]⟩ then
   match expr s (atom s n) (nx s (dn st)) with
   | .error p=>.error p
   | .ok (e,st')=>if gy s st'.t ⟨#[41]⟩ then .ok ({ e with pl:=st.t.a },qy (nx s st')) else .error st'.t.a
  else .error st.t.a
def jN (s:fq)(st:Ps):Except Nat (Ex×Ps):=expr s (atom s (s.size+1)) st
def need (s:fq)(x:fq)(st:Ps):Except Nat Ps:=if gy s st.t x then .ok (nx s st) else .error st.t.a
def kind (s:fq)(k:Nat)(st:Ps):Except Nat Ps:=if st.t.k=k then .ok (nx s st) else .error st.t.a
def stmts (s:fq)(stmt:Ps->Except Nat (Sm×Ps))(stop:Ps->Bool):Nat->List Sm->Ps->Except Nat (List Sm×Ps)
 | 0,_,st=>.error st.t.a
 | n+1,l,st =>
  if stop st then .ok (l,st) else
   match stmt st with
   | .error p=>.error p
   | .ok (x,st')=>stmts s stmt stop n (l++[x]) st'
def block (s:fq)(stmt:Ps->Except Nat (Sm×Ps))(st:Ps):Except Nat (List Sm×Ps) :=
 if gy s st.t ⟨#[123]⟩ then
  match stmts s stmt (fun st=>gy s st.t ⟨#[125]⟩) (s.size+1) [] (nx s (dn st)) with
  | .error p=>.error p
  | .ok (l,st')=>.ok (l,qy (nx s st'))
 else .error st.t.a
def jk:Sm:=⟨0,gM,0,none,gM,0,gM,0,0,[],[]⟩
def lg (s:fq)(x:Sm)(st:Ps):Except Nat (Sm×Ps) :=
 if gy s st.t ⟨#[97,115]⟩ then
  match kind s 119 (nx s st) with
  | .error p=>.error p
  | .ok st'=>.ok ({ x with gu:=txt s (nx s st).t,fZ:=(nx s st).t.a },st')
 else .ok (x,st)
def lY (s:fq)(x:Sm)(st:Ps):Except Nat (Sm×Ps) :=
 if gy s st.t ⟨#[117,110,100,111]⟩ then
  match kind s 119 (nx s st) with
  | .error p=>.error p
  | .ok st'=>.ok ({ x with undo:=txt s (nx s st).t },st')
 else .ok (x,st)
def nC (s:fq)(x:Sm)(st:Ps):Except Nat (Sm×Ps) :=
 if gy s st.t ⟨#[116,114,105,101,115]⟩ then
  match kind s 110 (nx s st) with
  | .error p=>.error p
  | .ok st'=>.ok ({ x with n:=valOf (txt s (nx s st).t).toList,gG:=(nx s st).t.a },st')
 else .ok (x,st)
def lJ (s:fq)(x:Sm)(st:Ps):Except Nat (Sm×Ps) :=
 if gy s st.t ⟨#[41]⟩ then .ok (x,st) else
  match jN s st with
  | .error p=>.error p
  | .ok (e,st')=>.ok ({ x with ex:=some e },st')
def call (s:fq)(st:Ps):Except Nat (Sm×Ps) :=
 match kind s 119 st with
 | .error p=>.error p
 | .ok st1 =>
 match need s ⟨#[40]⟩ st1 with
 | .error p=>.error p
 | .ok st2 =>
 match lJ s { jk with op:=99,fD:=txt s st.t,pl:=st.t.a,n:=1 } st2 with
 | .error p=>.error p
 | .ok (x3,gV) =>
 match need s ⟨#[41]⟩ gV with
 | .error p=>.error p
 | .ok jL =>
 match lg s x3 jL with
 | .error p=>.error p
 | .ok (x5,kT) =>
 match lY s x5 kT with
 | .error p=>.error p
 | .ok (x6,mF) =>
 match nC s x6 mF with
 | .error p=>.error p
 | .ok (x7,pz) =>
 match need s ⟨#[59]⟩ pz with
 | .error p=>.error p
 | .ok uz=>.ok (x7,uz)
def kJ (s:fq)(st:Ps):Except Nat (Sm×Ps) :=
 match kind s 119 st with
 | .error p=>.error p
 | .ok st1 =>
 match need s ⟨#[61]⟩ st1 with
 | .error p=>.error p
 | .ok st2 =>
 match jN s st2 with
 | .error p=>.error p
 | .ok (e,gV) =>
 match need s ⟨#[59]⟩ gV with
 | .error p=>.error p
 | .ok jL=>.ok ({ jk with op:=108,fD:=txt s st.t,pl:=st.t.a,ex:=some e },jL)
def pK (s:fq)(stmt:Ps->Except Nat (Sm×Ps))(st:Ps):Except Nat (Sm×Ps) :=
 match jN s st with
 | .error p=>.error p
 | .ok (e,st1) =>
 match block s stmt st1 with
 | .error p=>.error p
 | .ok (l,st2) =>
 if gy s st2.t ⟨#[101,108,115,101]⟩ then
  match block s stmt (nx s st2) with
  | .error p=>.error p
  | .ok (m,gV)=>.ok ({ jk with op:=105,ex:=some e,one:=l,two:=m },gV)
 else .ok ({ jk with op:=105,ex:=some e,one:=l },st2)
def kK (s:fq)(stmt:Ps->Except Nat (Sm×Ps))(st:Ps):Except Nat (Sm×Ps) :=
 match block s stmt st with
 | .error p=>.error p
 | .ok (l,st1) =>
 match need s ⟨#[101,108,115,101]⟩ st1 with
 | .error p=>.error p
 | .ok st2 =>
 match block s stmt st2 with
 | .error p=>.error p
 | .ok (m,gV)=>.ok ({ jk with op:=116,one:=l,two:=m },gV)
def qz (s:fq)(stmt:Ps->Except Nat (Sm×Ps))(st:Ps):Except Nat (Sm×Ps) :=
 match kind s 110 st with
 | .error p=>.error p
 | .ok st1 =>
 match block s stmt st1 with
 | .error p=>.error p
 | .ok (l,st2)=>.ok ({ jk with op:=114,n:=valOf (txt s st.t).toList,gG:=st.t.a,one:=l },st2)
def uh (s:fq)(st:Ps):Except Nat (Sm×Ps) :=
 match need s ⟨#[102,97,105,108]⟩ st with
 | .error p=>.error p
 | .ok st1 =>
 match need s ⟨#[59]⟩ st1 with
 | .error p=>.error p
 | .ok st2=>.ok ({ jk with op:=102 },st2)
def stmt (s:fq):Nat->Ps->Except Nat (Sm×Ps)
 | 0,st=>.error st.t.a
 | n+1,st =>
  if gy s st.t ⟨#[108,101,116]⟩ then kJ s (nx s st)
  else if gy s st.t ⟨#[99,97,108,108]⟩ then call s (nx s st)
  else if gy s st.t ⟨#[105,102]⟩ then pK s (stmt s n) (nx s st)
  else if gy s st.t ⟨#[116,114,121]⟩ then kK s (stmt s n) (nx s st)
  else if gy s st.t ⟨#[114,101,112,101,97,116]⟩ then qz s (stmt s n) (nx s st)
  else uh s st
def read (s:fq):Except (Nat×Nat) (List Sm) :=
 if 300 < s.size then .error (1,0) else
  match stmts s (stmt s (s.size+1)) (fun st=>st.t.k == 0) (s.size+1) [] ⟨tok s 0,0,-1⟩ with
  | .error p=>.error (2,p)
  | .ok (l,st)=>if 0<=st.fH then .error (3,st.fH.toNat) else .ok l
variable {s x:fq}
theorem Uw {p:UInt8->Bool}{i:Nat}(h:i < s.size)(hp:p s[i]=true):i < jD p s i:=by
 unfold jD;obtain ⟨n,hn⟩:∃ n,s.size - i=n+1:=⟨s.size - i - 1,by omega⟩
 rw[hn,qJ,dif_pos h,if_pos hp]
 have:=Uu p s n (i+1)
 omega
structure Tk (s:fq)(t:Tok):Prop where
 ab:t.a<=t.b
 le:t.b<=s.size
 lt:t.k≠0->t.k≠63->t.a < t.b
 kinds:t.k=0\/t.k=63\/t.k=107\/t.k=110\/t.k=119
 fin:t.k=0->t.a=s.size
 num:t.k=110->t.b - t.a<=4/\∀ j (hj:j < s.size),t.a<=j->j < t.b->kC s[j]=true
theorem Z8 (s:fq)(a:Nat)(ha:a<=s.size):Tk s (pJ s a)/\a<=(pJ s a).a:=by
 by_cases h:a < s.size
 ·cases hs:ku s[a]
  ·cases hd:kC s[a]
   ·cases hm:vQ s[a]
    ·rw[KQ h hs hd hm];exact ⟨⟨by simp,by simp;omega,by simp,by simp,by simp,by simp⟩,by simp⟩
    ·rw[KP h hs hd hm];exact ⟨⟨by simp,by simp;omega,by simp,by simp,by simp,by simp⟩,by simp⟩
   ·by_cases hl:4 < jD kC s a - a
    ·rw[Gu h hs hd rfl hl];exact ⟨⟨by simp,by simp;omega,by simp,by simp,by simp,by simp⟩,by simp⟩
    ·rw[Gv h hs hd rfl hl];have g:=Uw h hd;have l:=yZ kC s a ha;exact ⟨⟨by simp;omega,by simpa using l,by intro _ _;exact g,by simp,by simp,by intro _;exact ⟨by simp;omega,fun j hj h1 h2=>KM kC s _ a j hj h1 h2⟩⟩,by simp⟩
  ·have g:=Uw h hs;have l:=yZ ku s a ha;cases hk:qR (s.extract a (jD ku s a)).toList
   ·by_cases hl:8 < jD ku s a - a
    ·rw[Gs h hs rfl hk hl];exact ⟨⟨by simp,by simp;omega,by simp,by simp,by simp,by simp⟩,by simp⟩
    ·rw[Gt h hs rfl hk hl];exact ⟨⟨by simp;omega,by simpa using l,by intro _ _;exact g,by simp,by simp,by simp⟩,by simp⟩
   ·rw[Gq h hs rfl hk];exact ⟨⟨by simp;omega,by simpa using l,by intro _ _;exact g,by simp,by simp,by simp⟩,by simp⟩
 ·rw[KO h];exact ⟨⟨by simp,by simp,by simp,by simp,by simp,by simp⟩,by simpa using ha⟩
theorem uj (s:fq)(i:Nat)(hi:i<=s.size):Tk s (tok s i)/\i<=(tok s i).a:=by
 have h:=Z8 s (jD qx s i) (yZ _ _ _ hi);have g:=KN qx s i;exact ⟨h.1,aP g h.2⟩
variable {t:Tok}
theorem sU (h:gy s t x=true):t.k=107:=by
 unfold gy at h;simp at h;exact h.1
variable {a b st st':Ps}
theorem xR (h:Tk s st.t):Tk s (nx s st).t:=(uj s st.t.b h.le).1
theorem Gx (h:Tk s st.t)(h0:st.t.k≠0)(h1:st.t.k≠63):st.t.a < (nx s st).t.a:=aV (h.lt h0 h1) (uj s st.t.b h.le).2
structure Good (s:fq)(st st':Ps):Prop where
 tk:Tk s st'.t
 lt:st.t.a < st'.t.a
 fF:st'.fF=st.fF
theorem Good.trans {s:fq}{a b c:Ps}(h:Good s a b)(k:Good s b c):Good s a c:=⟨k.tk,Nat.lt_trans h.lt k.lt,k.fF.trans h.fF⟩
theorem vg (h:Tk s st.t)(h0:st.t.k≠0)(h1:st.t.k≠63):Good s st (nx s st):=⟨xR h,Gx h h0 h1,rfl⟩
theorem gX (h:Tk s st.t)(ho:gy s st.t x=true):Good s st (nx s st):=vg h (by rw[sU ho];decide) (by rw[sU ho];decide)
def Goes {α:Type}(s:fq)(g:Ps->Except Nat (α×Ps)):Prop:=∀ st x st',Tk s st.t->g st=.ok (x,st')->Good s st st'
variable {g:Ps->Except Nat (Ex×Ps)}
theorem Z9 (hg:Goes s g)(a b:UInt8)(n:Nat):∀ (pl:Nat) (e:Ex) (st:Ps) (x:Ex) (st':Ps),Tk s st.t->chain s g a b n pl e st=.ok (x,st')->Tk s st'.t/\st.t.a<=st'.t.a/\st'.fF=st.fF:=by
 induction n with
 | zero=>intro pl e st x st' _ h;simp[chain] at h
 | succ n ih =>
  intro pl e st x st' ht h;rw[chain] at h;by_cases ha:gy s st.t ⟨#[a]⟩=true
  ·rw[if_pos ha] at h;have g1:=gX ht ha;cases hp:g (nx s st) with
   | error p=>rw[hp] at h;cases h
   | ok r =>
    obtain ⟨k,st1⟩:=r;rw[hp] at h;have g2:=g1.trans (hg _ _ _ g1.tk hp);obtain ⟨i1,i2,i3⟩:=ih _ _ _ _ _ g2.tk h;exact ⟨i1,by have:=g2.lt;omega,by rw[i3,g2.fF]⟩
  ·rw[if_neg ha] at h;by_cases hb:gy s st.t ⟨#[b]⟩=true
   ·rw[if_pos hb] at h;have g1:=gX ht hb;cases hp:g (nx s st) with
    | error p=>rw[hp] at h;cases h
    | ok r =>
     obtain ⟨k,st1⟩:=r;rw[hp] at h;have g2:=g1.trans (hg _ _ _ g1.tk hp);obtain ⟨i1,i2,i3⟩:=ih _ _ _ _ _ g2.tk h;exact ⟨i1,by have:=g2.lt;omega,by rw[i3,g2.fF]⟩
   ·rw[if_neg hb] at h;cases h;exact ⟨ht,aj _,rfl⟩
theorem Ux (hg:Goes s g)(a b:UInt8):Goes s (row s g a b):=by
 intro st x st' ht h;unfold row at h;cases hp:g st with
 | error p=>rw[hp] at h;cases h
 | ok r =>
  obtain ⟨e,st1⟩:=r;rw[hp] at h;have g1:=hg _ _ _ ht hp;obtain ⟨i1,i2,i3⟩:=Z9 hg a b _ _ _ _ _ _ g1.tk h;exact ⟨i1,by have:=g1.lt;omega,by rw[i3,g1.fF]⟩
theorem Co (hg:Goes s g):Goes s (term s g):=Ux hg _ _
theorem zJ (hg:Goes s g):Goes s (sum s g):=Ux (Co hg) _ _
theorem Ew {o:Nat}(h:qj s t=some o):t.k=107:=by
 unfold qj at h;split at h
 ·rename_i h1;exact sU h1
 ·split at h
  ·rename_i h1;exact sU h1
  ·split at h
   ·rename_i h1;exact sU h1
   ·cases h
theorem A9 (hg:Goes s g):Goes s (expr s g):=by
 intro st x st' ht h;unfold expr at h;cases hp:sum s g st with
 | error p=>rw[hp] at h;cases h
 | ok r =>
  obtain ⟨e,st1⟩:=r;rw[hp] at h;have g1:=zJ hg _ _ _ ht hp;simp only at h;cases hc:qj s st1.t with
  | none=>rw[hc] at h;cases h;exact g1
  | some o =>
   rw[hc] at h;have g2:=g1.trans (vg g1.tk (by rw[Ew hc];decide) (by rw[Ew hc];decide))
   simp only at h;cases hq:sum s g (nx s st1) with
   | error p=>rw[hq] at h;cases h
   | ok r2 =>
    obtain ⟨k,st2⟩:=r2;rw[hq] at h;cases h;exact g2.trans (zJ hg _ _ _ g2.tk hq)
theorem qA (s:fq)(n:Nat):Goes s (atom s n):=by
 induction n with
 | zero=>intro st x st' _ h;simp[atom] at h
 | succ n ih =>
  intro st x st' ht h;rw[atom] at h;split at h
  ·rename_i hk;cases h;exact vg ht (by omega) (by omega)
  ·split at h
   ·rename_i hk;cases h;exact vg ht (by omega) (by omega)
   ·split at h
    ·rename_i hk;cases h;exact gX ht hk
    ·split at h
     ·rename_i hk;cases h;exact gX ht hk
     ·split at h
      ·rename_i hk;have g1:=gX ht hk;cases hp:atom s n (nx s st) with
       | error p=>rw[hp] at h;cases h
       | ok r =>
        obtain ⟨k,st1⟩:=r;rw[hp] at h;cases h;exact g1.trans (ih _ _ _ g1.tk hp)
      ·split at h
       ·rename_i hk;have g1:=gX ht hk;cases hp:expr s (atom s n) (nx s (dn st)) with
        | error p=>rw[hp] at h;cases h
        | ok r =>
         obtain ⟨k,st1⟩:=r;rw[hp] at h;simp only at h;have g2:=A9 ih _ _ _ (show Tk s (nx s (dn st)).t from g1.tk) hp;split at h
         ·rename_i hc;cases h;have g3:=gX g2.tk hc;have h1:st.t.a < (nx s (dn st)).t.a:=g1.lt;have h2:=g2.lt;have h3:=g3.lt;refine ⟨g3.tk,?_,?_⟩
          ·show st.t.a < (nx s st1).t.a;omega
          ·show st1.fF - 1=st.fF
           rw[g2.fF];show st.fF+1 - 1=st.fF;omega
         ·cases h
       ·cases h
theorem lZ (ht:Tk s st.t)(h:need s x st=.ok st'):Good s st st':=by
 unfold need at h;split at h
 ·rename_i ho;cases h;exact gX ht ho
 ·cases h
theorem oG {k:Nat}(ht:Tk s st.t)(hk:k≠0)(hk':k≠63)(h:kind s k st=.ok st'):Good s st st':=by
 unfold kind at h;split at h
 ·rename_i ho;cases h;exact vg ht (by omega) (by omega)
 ·cases h
theorem rX (s:fq):Goes s (jN s):=A9 (qA s _)
structure iW (s:fq)(st st':Ps):Prop where
 tk:Tk s st'.t
 le:st.t.a<=st'.t.a
 fF:st'.fF=st.fF
theorem Good.zero (h:Good s a b):iW s a b:=⟨h.tk,bN h.lt,h.fF⟩
theorem iW.trans {s:fq}{a b c:Ps}(h:iW s a b)(k:iW s b c):iW s a c:=⟨k.tk,aP h.le k.le,k.fF.trans h.fF⟩
theorem Good.KS {c:Ps}(h:Good s a b)(k:iW s b c):Good s a c:=⟨k.tk,aV h.lt k.le,k.fF.trans h.fF⟩
theorem iW.refl (h:Tk s a.t):iW s a a:=⟨h,aj _,rfl⟩
theorem wQ {g:Ps->Except Nat (Sm×Ps)}(hg:Goes s g)(stop:Ps->Bool)(n:Nat):∀ (l:List Sm) (st:Ps) (x:List Sm) (st':Ps),Tk s st.t->stmts s g stop n l st=.ok (x,st')->iW s st st'/\stop st'=true:=by
 induction n with
 | zero=>intro l st x st' _ h;simp[stmts] at h
 | succ n ih =>
  intro l st x st' ht h;rw[stmts] at h;split at h
  ·rename_i hs;cases h;exact ⟨iW.refl ht,hs⟩
  ·cases hp:g st with
   | error p=>rw[hp] at h;cases h
   | ok r =>
    obtain ⟨k,st1⟩:=r;rw[hp] at h;have g1:=hg _ _ _ ht hp;obtain ⟨i1,i2⟩:=ih _ _ _ _ g1.tk h;exact ⟨g1.zero.trans i1,i2⟩
theorem pE {g:Ps->Except Nat (Sm×Ps)}(hg:Goes s g):Goes s (block s g):=by
 intro st x st' ht h;unfold block at h;split at h
 ·rename_i ho;have g1:=gX ht ho;cases hp:stmts s g (fun st=>gy s st.t ⟨#[125]⟩) (s.size+1) [] (nx s (dn st)) with
  | error p=>rw[hp] at h;cases h
  | ok r =>
   obtain ⟨l,st1⟩:=r;rw[hp] at h;cases h;obtain ⟨g2,hs⟩:=wQ hg _ _ _ _ _ _ (show Tk s (nx s (dn st)).t from g1.tk) hp;have g3:=gX g2.tk hs;have h1:st.t.a < (nx s (dn st)).t.a:=g1.lt;have h2:=g2.le;have h3:=g3.lt;refine ⟨g3.tk,?_,?_⟩
   ·show st.t.a < (nx s st1).t.a;omega
   ·show st1.fF - 1=st.fF
    rw[g2.fF];show st.fF+1 - 1=st.fF;omega
 ·cases h
theorem cA (s:fq):Goes s (kJ s):=by
 intro st x st' ht h;unfold kJ at h;cases h1:kind s 119 st with
 | error p=>rw[h1] at h;cases h
 | ok st1 =>
  rw[h1] at h;simp only at h;have g1:=oG ht (by decide) (by decide) h1
  cases h2:need s ⟨#[61]⟩ st1 with
  | error p=>rw[h2] at h;cases h
  | ok st2 =>
   rw[h2] at h;simp only at h;have g2:=g1.trans (lZ g1.tk h2);cases h3:jN s st2 with
   | error p=>rw[h3] at h;cases h
   | ok r =>
    obtain ⟨e,gV⟩:=r;rw[h3] at h;simp only at h;have g3:=g2.trans (rX s _ _ _ g2.tk h3);cases h4:need s ⟨#[59]⟩ gV with
    | error p=>rw[h4] at h;cases h
    | ok jL =>
     rw[h4] at h;cases h;exact g3.trans (lZ g3.tk h4)
variable {y:Sm}
theorem Ey {x:Sm}(ht:Tk s st.t)(h:lg s x st=.ok (y,st')):iW s st st':=by
 unfold lg at h;split at h
 ·rename_i ho;have g1:=gX ht ho;cases h1:kind s 119 (nx s st) with
  | error p=>rw[h1] at h;cases h
  | ok st1=>rw[h1] at h;cases h;exact (g1.trans (oG g1.tk (by decide) (by decide) h1)).zero
 ·cases h;exact iW.refl ht
theorem Gy {x:Sm}(ht:Tk s st.t)(h:lY s x st=.ok (y,st')):iW s st st':=by
 unfold lY at h;split at h
 ·rename_i ho;have g1:=gX ht ho;cases h1:kind s 119 (nx s st) with
  | error p=>rw[h1] at h;cases h
  | ok st1=>rw[h1] at h;cases h;exact (g1.trans (oG g1.tk (by decide) (by decide) h1)).zero
 ·cases h;exact iW.refl ht
theorem Gz {x:Sm}(ht:Tk s st.t)(h:nC s x st=.ok (y,st')):iW s st st':=by
 unfold nC at h;split at h
 ·rename_i ho;have g1:=gX ht ho;cases h1:kind s 110 (nx s st) with
  | error p=>rw[h1] at h;cases h
  | ok st1=>rw[h1] at h;cases h;exact (g1.trans (oG g1.tk (by decide) (by decide) h1)).zero
 ·cases h;exact iW.refl ht
theorem Ez {x:Sm}(ht:Tk s st.t)(h:lJ s x st=.ok (y,st')):iW s st st':=by
 unfold lJ at h;split at h
 ·cases h;exact iW.refl ht
 ·cases h1:jN s st with
  | error p=>rw[h1] at h;cases h
  | ok r=>obtain ⟨e,st1⟩:=r;rw[h1] at h;cases h;exact (rX s _ _ _ ht h1).zero
theorem cC (s:fq):Goes s (call s):=by
 intro st x st' ht h;unfold call at h;cases h1:kind s 119 st with
 | error p=>rw[h1] at h;cases h
 | ok st1 =>
  rw[h1] at h;simp only at h;have g1:=oG ht (by decide) (by decide) h1
  cases h2:need s ⟨#[40]⟩ st1 with
  | error p=>rw[h2] at h;cases h
  | ok st2 =>
   rw[h2] at h;simp only at h;have g2:=g1.trans (lZ g1.tk h2);cases h3:lJ s { jk with op:=99,fD:=txt s st.t,pl:=st.t.a,n:=1 } st2 with
   | error p=>rw[h3] at h;cases h
   | ok r3 =>
    obtain ⟨x3,gV⟩:=r3;rw[h3] at h;simp only at h;have g3:=g2.KS (Ez g2.tk h3);cases h4:need s ⟨#[41]⟩ gV with
    | error p=>rw[h4] at h;cases h
    | ok jL =>
     rw[h4] at h;simp only at h;have g4:=g3.trans (lZ g3.tk h4);cases h5:lg s x3 jL with
     | error p=>rw[h5] at h;cases h
     | ok r5 =>
      obtain ⟨x5,kT⟩:=r5;rw[h5] at h;simp only at h;have g5:=g4.KS (Ey g4.tk h5);cases h6:lY s x5 kT with
      | error p=>rw[h6] at h;cases h
      | ok r6 =>
       obtain ⟨x6,mF⟩:=r6;rw[h6] at h;simp only at h;have g6:=g5.KS (Gy g5.tk h6);cases h7:nC s x6 mF with
       | error p=>rw[h7] at h;cases h
       | ok r7 =>
        obtain ⟨x7,pz⟩:=r7;rw[h7] at h;simp only at h;have g7:=g6.KS (Gz g6.tk h7);cases h8:need s ⟨#[59]⟩ pz with
        | error p=>rw[h8] at h;cases h
        | ok uz=>rw[h8] at h;cases h;exact g7.trans (lZ g7.tk h8)
theorem cD {g:Ps->Except Nat (Sm×Ps)}(hg:Goes s g):Goes s (pK s g):=by
 intro st x st' ht h;unfold pK at h;cases h1:jN s st with
 | error p=>rw[h1] at h;cases h
 | ok r =>
  obtain ⟨e,st1⟩:=r;rw[h1] at h;simp only at h;have g1:=rX s _ _ _ ht h1;cases h2:block s g st1 with
  | error p=>rw[h2] at h;cases h
  | ok r =>
   obtain ⟨l,st2⟩:=r;rw[h2] at h;simp only at h;have g2:=g1.trans (pE hg _ _ _ g1.tk h2);split at h
   ·rename_i ho;have g3:=g2.trans (gX g2.tk ho);cases h4:block s g (nx s st2) with
    | error p=>rw[h4] at h;cases h
    | ok r=>obtain ⟨m,gV⟩:=r;rw[h4] at h;cases h;exact g3.trans (pE hg _ _ _ g3.tk h4)
   ·cases h;exact g2
theorem cE {g:Ps->Except Nat (Sm×Ps)}(hg:Goes s g):Goes s (kK s g):=by
 intro st x st' ht h;unfold kK at h;cases h1:block s g st with
 | error p=>rw[h1] at h;cases h
 | ok r =>
  obtain ⟨l,st1⟩:=r;rw[h1] at h;simp only at h;have g1:=pE hg _ _ _ ht h1;cases h2:need s ⟨#[101,108,115,101]⟩ st1 with
  | error p=>rw[h2] at h;cases h
  | ok st2 =>
   rw[h2] at h;simp only at h;have g2:=g1.trans (lZ g1.tk h2);cases h3:block s g st2 with
   | error p=>rw[h3] at h;cases h
   | ok r=>obtain ⟨m,gV⟩:=r;rw[h3] at h;cases h;exact g2.trans (pE hg _ _ _ g2.tk h3)
theorem cF {g:Ps->Except Nat (Sm×Ps)}(hg:Goes s g):Goes s (qz s g):=by
 intro st x st' ht h;unfold qz at h;cases h1:kind s 110 st with
 | error p=>rw[h1] at h;cases h
 | ok st1 =>
  rw[h1] at h;simp only at h;have g1:=oG ht (by decide) (by decide) h1
  cases h2:block s g st1 with
  | error p=>rw[h2] at h;cases h
  | ok r=>obtain ⟨m,gV⟩:=r;rw[h2] at h;cases h;exact g1.trans (pE hg _ _ _ g1.tk h2)
theorem cG (s:fq):Goes s (uh s):=by
 intro st x st' ht h;unfold uh at h;cases h1:need s ⟨#[102,97,105,108]⟩ st with
 | error p=>rw[h1] at h;cases h
 | ok st1 =>
  rw[h1] at h;simp only at h;have g1:=lZ ht h1;cases h2:need s ⟨#[59]⟩ st1 with
  | error p=>rw[h2] at h;cases h
  | ok st2=>rw[h2] at h;cases h;exact g1.trans (lZ g1.tk h2)
theorem jS (s:fq)(n:Nat):Goes s (stmt s n):=by
 induction n with
 | zero=>intro st x st' _ h;simp[stmt] at h
 | succ n ih =>
  intro st x st' ht h;rw[stmt] at h;split at h
  ·rename_i ho;have g1:=gX ht ho;exact g1.trans (cA s _ _ _ g1.tk h)
  ·split at h
   ·rename_i ho;have g1:=gX ht ho;exact g1.trans (cC s _ _ _ g1.tk h)
   ·split at h
    ·rename_i ho;have g1:=gX ht ho;exact g1.trans (cD ih _ _ _ g1.tk h)
    ·split at h
     ·rename_i ho;have g1:=gX ht ho;exact g1.trans (cE ih _ _ _ g1.tk h)
     ·split at h
      ·rename_i ho;have g1:=gX ht ho;exact g1.trans (cF ih _ _ _ g1.tk h)
      ·exact cG s _ _ _ ht h
end Px
namespace Lg
open Px
def EA (g:Px.Ps->Except Nat (Px.Ex×Px.Ps)):Prop:=∀ st x st',g st=.ok (x,st')->x.pl=st.t.a
variable {s:fq}{g:Px.Ps->Except Nat (Px.Ex×Px.Ps)}
theorem cH {a b:UInt8}(n:Nat):∀ (pl:Nat) (e:Px.Ex) (st:Px.Ps) (x:Px.Ex) (st':Px.Ps),e.pl=pl->Px.chain s g a b n pl e st=.ok (x,st')->x.pl=pl:=by
 induction n with
 | zero=>intro pl e st x st' _ h;simp[Px.chain] at h
 | succ n ih =>
  intro pl e st x st' he h;rw[Px.chain] at h;split at h
  ·cases hp:g (Px.nx s st) with
   | error p=>rw[hp] at h;cases h
   | ok r=>obtain ⟨k,st1⟩:=r;rw[hp] at h;exact ih pl ⟨a.toNat,0,gM,pl,st.t.a,some e,some k⟩ _ _ _ rfl h
  ·split at h
   ·cases hp:g (Px.nx s st) with
    | error p=>rw[hp] at h;cases h
    | ok r=>obtain ⟨k,st1⟩:=r;rw[hp] at h;exact ih pl ⟨b.toNat,0,gM,pl,st.t.a,some e,some k⟩ _ _ _ rfl h
   ·cases h;exact he
theorem Uy (hg:EA g)(a b:UInt8):EA (Px.row s g a b):=by
 intro st x st' h;unfold Px.row at h;cases hp:g st with
 | error p=>rw[hp] at h;cases h
 | ok r=>obtain ⟨e,st1⟩:=r;rw[hp] at h;exact cH _ _ _ _ _ _ (hg _ _ _ hp) h
theorem cI (hg:EA g):EA (Px.expr s g):=by
 intro st x st' h;unfold Px.expr at h;cases hp:Px.sum s g st with
 | error p=>rw[hp] at h;cases h
 | ok r =>
  obtain ⟨e,st1⟩:=r;rw[hp] at h;simp only at h;cases hc:qj s st1.t with
  | none=>rw[hc] at h;cases h;exact Uy (Uy hg _ _) _ _ _ _ _ hp
  | some o =>
   rw[hc] at h;simp only at h;cases hq:Px.sum s g (Px.nx s st1) with
   | error p=>rw[hq] at h;cases h
   | ok r2=>obtain ⟨k,st2⟩:=r2;rw[hq] at h;cases h;rfl
theorem cJ (s:fq)(n:Nat):EA (Px.atom s n):=by
 intro st x st' h;cases n with
 | zero=>simp[Px.atom] at h
 | succ n =>
  rw[Px.atom] at h;split at h
  ·cases h;rfl
  ·split at h
   ·cases h;rfl
   ·split at h
    ·cases h;rfl
    ·split at h
     ·cases h;rfl
     ·split at h
      ·cases hp:Px.atom s n (Px.nx s st) with
       | error p=>rw[hp] at h;cases h
       | ok r=>obtain ⟨k,st1⟩:=r;rw[hp] at h;cases h;rfl
      ·split at h
       ·cases hp:Px.expr s (Px.atom s n) (Px.nx s (Px.dn st)) with
        | error p=>rw[hp] at h;cases h
        | ok r =>
         obtain ⟨k,st1⟩:=r;rw[hp] at h;simp only at h;split at h
         ·cases h;rfl
         ·cases h
       ·cases h
theorem Oa (s:fq):EA (jN s):=cI (cJ s _)
end Lg
namespace Px
open Lg
structure Lk where
 vars:List (fq×Nat)
 e:Nat
 pl:Nat
def say (e p:Nat)(c:Lk):Lk:=if c.e=0\/p < c.pl\/(p=c.pl/\e < c.e) then ⟨c.vars,e,p⟩ else c
def iK (l:List (fq×Nat))(w:fq):Option Nat :=
 match l with
 | []=>none
 | (v,_)::r=>if v.toList == w.toList then some 0 else (iK r w).map (·+1)
def og (l:List (fq×Nat))(i:Nat):Nat:=(l.getD i (⟨#[]⟩,0)).2
def isK (k want:Nat):Bool:=k == want || k == 63
def uD (a b:Nat):Bool:=a != b && a != 63 && b != 63
def ze (op:Nat)(fD:fq)(own:Nat)(c:Lk):Nat×Lk :=
 if op=110 then (105,c)
 else if op=116 then (98,c)
 else
  match iK c.vars fD with
  | none=>(63,say 5 own c)
  | some i=>(og c.vars i,c)
def qU (own:Nat)(r:Nat×Lk):Nat×Lk:=(98,if isK r.1 98 then r.2 else say 6 own r.2)
def oh (op own a:Nat)(r:Nat×Lk):Nat×Lk :=
 if op=61\/op=35 then (98,if uD a r.1 then say 6 own r.2 else r.2)
 else (if op=60 then 98 else 105,if isK a 105 && isK r.1 105 then r.2 else say 6 own r.2)
def iC:Ex->Lk->Nat×Lk
 | ⟨op,_,fD,_,own,none,_⟩,c=>ze op fD own c
 | ⟨_,_,_,_,own,some l,none⟩,c=>qU own (iC l c)
 | ⟨op,_,_,_,own,some l,some r⟩,c=>oh op own (iC l c).1 (iC r (iC l c).2)
def mO:Ex->Prop
 | ⟨op,_,_,_,_,none,none⟩=>op=110\/op=116\/op=119
 | ⟨op,_,_,_,_,some l,none⟩=>op=33/\mO l
 | ⟨op,_,_,_,_,some l,some r⟩=>(op=42\/op=47\/op=43\/op=45\/op=60\/op=61\/op=35)/\mO l/\mO r
 | ⟨_,_,_,_,_,none,some _⟩=>False
theorem mO.fE {x:Ex}(h:mO x)(a:Nat):mO { x with pl:=a }:=by
 match x with
 | ⟨_,_,_,_,_,none,none⟩=>exact h
 | ⟨_,_,_,_,_,some _,none⟩=>exact h
 | ⟨_,_,_,_,_,some _,some _⟩=>exact h
 | ⟨_,_,_,_,_,none,some _⟩=>exact h
def zK (g:Ps->Except Nat (Ex×Ps)):Prop:=∀ st x st',g st=.ok (x,st')->mO x
def Ba (a:UInt8):Prop:=a.toNat=42\/a.toNat=47\/a.toNat=43\/a.toNat=45\/a.toNat=60\/a.toNat=61\/a.toNat=35
variable {s:fq}{a b:UInt8}
theorem cL {g:Ps->Except Nat (Ex×Ps)}(hg:zK g)(ha:Ba a)(hb:Ba b)(n:Nat):∀ (pl:Nat) (e:Ex) (st:Ps) (x:Ex) (st':Ps),mO e->chain s g a b n pl e st=.ok (x,st')->mO x:=by
 induction n with
 | zero=>intro pl e st x st' _ h;simp[chain] at h
 | succ n ih =>
  intro pl e st x st' he h;rw[chain] at h;split at h
  ·cases hp:g (nx s st) with
   | error p=>rw[hp] at h;cases h
   | ok r =>
    obtain ⟨k,st1⟩:=r;rw[hp] at h;exact ih pl ⟨a.toNat,0,gM,pl,st.t.a,some e,some k⟩ _ _ _ ⟨ha,he,hg _ _ _ hp⟩ h
  ·split at h
   ·cases hp:g (nx s st) with
    | error p=>rw[hp] at h;cases h
    | ok r =>
     obtain ⟨k,st1⟩:=r;rw[hp] at h;exact ih pl ⟨b.toNat,0,gM,pl,st.t.a,some e,some k⟩ _ _ _ ⟨hb,he,hg _ _ _ hp⟩ h
   ·cases h;exact he
theorem Uz {g:Ps->Except Nat (Ex×Ps)}(hg:zK g)(ha:Ba a)(hb:Ba b):zK (row s g a b):=by
 intro st x st' h;unfold row at h;cases hp:g st with
 | error p=>rw[hp] at h;cases h
 | ok r =>
  obtain ⟨e,st1⟩:=r;rw[hp] at h;exact cL hg ha hb _ _ _ _ _ _ (hg _ _ _ hp) h
theorem Ob {g:Ps->Except Nat (Ex×Ps)}(hg:zK g):zK (sum s g) :=
 Uz (Uz hg (by unfold Ba;decide) (by unfold Ba;decide)) (by unfold Ba;decide) (by unfold Ba;decide)
theorem UA {g:Ps->Except Nat (Ex×Ps)}(hg:zK g):zK (expr s g):=by
 intro st x st' h;unfold expr at h;cases hp:sum s g st with
 | error p=>rw[hp] at h;cases h
 | ok r =>
  obtain ⟨e,st1⟩:=r;rw[hp] at h;simp only at h;cases hc:qj s st1.t with
  | none=>rw[hc] at h;cases h;exact Ob hg _ _ _ hp
  | some o =>
   rw[hc] at h;simp only at h;have ho:o=60\/o=61\/o=35:=by
    unfold qj at hc;split at hc
    ·cases hc;simp
    ·split at hc
     ·cases hc;simp
     ·split at hc
      ·cases hc;simp
      ·cases hc
   cases hq:sum s g (nx s st1) with
   | error p=>rw[hq] at h;cases h
   | ok r2 =>
    obtain ⟨k,st2⟩:=r2;rw[hq] at h;cases h;exact ⟨by omega,Ob hg _ _ _ hp,Ob hg _ _ _ hq⟩
theorem cM (s:fq)(n:Nat):zK (atom s n):=by
 induction n with
 | zero=>intro st x st' h;simp[atom] at h
 | succ n ih =>
  intro st x st' h;rw[atom] at h;split at h
  ·cases h;exact ak rfl
  ·split at h
   ·cases h;exact ah (ah rfl)
   ·split at h
    ·cases h;exact ah (ak rfl)
    ·split at h
     ·cases h;exact ah (ak rfl)
     ·split at h
      ·cases hp:atom s n (nx s st) with
       | error p=>rw[hp] at h;cases h
       | ok r =>
        obtain ⟨k,st1⟩:=r;rw[hp] at h;cases h;exact ⟨rfl,ih _ _ _ hp⟩
      ·split at h
       ·cases hp:expr s (atom s n) (nx s (dn st)) with
        | error p=>rw[hp] at h;cases h
        | ok r =>
         obtain ⟨k,st1⟩:=r;rw[hp] at h;simp only at h;split at h
         ·cases h;exact (UA ih _ _ _ hp).fE _
         ·cases h
       ·cases h
theorem Oc (s:fq):zK (jN s):=UA (cM s _)
def nP (w:fq)(p k:Nat)(c:Lk):Lk :=
 match iK c.vars w with
 | none=>⟨c.vars++[(w,k)],c.e,c.pl⟩
 | some i=>if uD (og c.vars i) k then say 6 p c else c
def lQ (x:Option Ex)(k:Nat)(c:Lk):Lk :=
 match x with
 | none=>c
 | some x=>if isK (iC x c).1 k then (iC x c).2 else say 6 x.pl (iC x c).2
def iG:List Sm->Lk->Lk
 | [],c=>c
 | ⟨op,fD,pl,ex,gu,fZ,_,n,gG,one,two⟩::rest,c =>
  iG rest (
   if op=108 then
    match ex with
    | none=>c
    | some x=>nP fD pl (iC x c).1 (iC x c).2
   else if op=99 then
    let c1:=lQ ex 105 c
    let c2:=if gu.toList.isEmpty then c1 else nP gu fZ 105 c1
    if n < 1\/5 < n then say 4 gG c2 else c2
   else if op=105 then iG two (iG one (lQ ex 98 c))
   else if op=116 then iG two (iG one c)
   else if op=114 then iG one (if 9 < n then say 4 gG c else c)
   else c)
def check (s:fq):Nat×Nat :=
 match read s with
 | .error r=>r
 | .ok l=>let c:=iG l ⟨[],0,0⟩;if c.e=0 then (0,0) else (c.e,c.pl)
def cnt:List Sm->Nat
 | []=>0
 | ⟨_,_,_,_,_,_,_,_,_,one,two⟩::rest=>1+cnt one+cnt two+cnt rest
def zh (x:Option Ex):Prop:=∀ e,x=some e->mO e
def vS (x:Sm):Prop:=zh x.ex/\((x.op=108/\x.ex≠none)\/x.op=99\/(x.op=105/\x.ex≠none)\/x.op=116\/x.op=114\/x.op=102)
def jM:List Sm->Prop
 | []=>True
 | ⟨op,fD,pl,ex,gu,fZ,undo,n,gG,one,two⟩::rest=>vS ⟨op,fD,pl,ex,gu,fZ,undo,n,gG,one,two⟩/\jM one/\jM two/\jM rest
theorem xS:jM []:=by rw[jM];trivial
variable {x y:Sm}{l:List Sm}
theorem zi:jM (x::l)↔vS x/\jM x.one/\jM x.two/\jM l:=by
 obtain ⟨op,fD,pl,ex,gu,fZ,undo,n,gG,one,two⟩:=x;rw[jM]
theorem cN (h:jM l)(h1:vS x)(h2:jM x.one)(h3:jM x.two):jM (l++[x]):=by
 induction l with
 | nil=>exact zi.2 ⟨h1,h2,h3,xS⟩
 | cons y l ih =>
  obtain ⟨g1,g2,g3,g4⟩:=zi.1 h;exact zi.2 ⟨g1,g2,g3,ih g4⟩
theorem zk:cnt []=0:=by rw[cnt]
theorem Cq (x:Sm)(l:List Sm):cnt (x::l)=1+cnt x.one+cnt x.two+cnt l:=by
 obtain ⟨op,fD,pl,ex,gu,fZ,undo,n,gG,one,two⟩:=x;rw[cnt]
theorem cP (l:List Sm)(x:Sm):cnt (l++[x])=cnt l+1+cnt x.one+cnt x.two:=by
 induction l with
 | nil=>simp[Cq,zk]
 | cons y l ih=>rw[bG,Cq,Cq,ih];omega
def EB (s:fq)(g:Ps->Except Nat (Sm×Ps)):Prop:=∀ st x st',Tk s st.t->g st=.ok (x,st')->vS x/\jM x.one/\jM x.two/\st.t.a+1+cnt x.one+cnt x.two<=st'.t.a
variable {g:Ps->Except Nat (Sm×Ps)}
theorem UC (hg:Goes s g)(hm:EB s g)(stop:Ps->Bool)(n:Nat):∀ (l:List Sm) (st:Ps) (x:List Sm) (st':Ps),Tk s st.t->jM l->stmts s g stop n l st=.ok (x,st')->jM x/\st.t.a+cnt x<=st'.t.a+cnt l:=by
 induction n with
 | zero=>intro l st x st' _ _ h;simp[stmts] at h
 | succ n ih =>
  intro l st x st' ht hl h;rw[stmts] at h;split at h
  ·cases h;exact ⟨hl,aj _⟩
  ·cases hp:g st with
   | error p=>rw[hp] at h;cases h
   | ok r =>
    obtain ⟨k,st1⟩:=r;rw[hp] at h;have g1:=hg _ _ _ ht hp;obtain ⟨m1,m2,m3,m4⟩:=hm _ _ _ ht hp;obtain ⟨i1,i2⟩:=ih _ _ _ _ g1.tk (cN hl m1 m2 m3) h;rw[cP] at i2;exact ⟨i1,by omega⟩
variable {st st':Ps}
theorem GA (hg:Goes s g)(hm:EB s g){x:List Sm}(ht:Tk s st.t)(h:block s g st=.ok (x,st')):jM x/\st.t.a+cnt x<=st'.t.a:=by
 unfold block at h;split at h
 ·rename_i ho;have g1:=gX ht ho;cases hp:stmts s g (fun st=>gy s st.t ⟨#[125]⟩) (s.size+1) [] (nx s (dn st)) with
  | error p=>rw[hp] at h;cases h
  | ok r =>
   obtain ⟨l,st1⟩:=r;rw[hp] at h;cases h;obtain ⟨g2,hs⟩:=wQ hg _ _ _ _ _ _ (show Tk s (nx s (dn st)).t from g1.tk) hp;obtain ⟨i1,i2⟩:=UC hg hm _ _ _ _ _ _ (show Tk s (nx s (dn st)).t from g1.tk) xS hp;have g3:=gX g2.tk hs;have h1:st.t.a < (nx s (dn st)).t.a:=g1.lt;have h3:st1.t.a < (nx s st1).t.a:=g3.lt;rw[zk] at i2;refine ⟨i1,?_⟩;show st.t.a+cnt _<=(nx s st1).t.a
   omega
 ·cases h
theorem KT:zh none:=fun e h=>by cases h
theorem KU {e:Ex}(h:mO e):zh (some e):=fun e' h'=>by cases h';exact h
theorem cQ (s:fq)(h:kJ s st=.ok (x,st')):vS x/\x.one=[]/\x.two=[]:=by
 unfold kJ at h;cases h1:kind s 119 st with
 | error p=>rw[h1] at h;cases h
 | ok st1 =>
  rw[h1] at h;simp only at h;cases h2:need s ⟨#[61]⟩ st1 with
  | error p=>rw[h2] at h;cases h
  | ok st2 =>
   rw[h2] at h;simp only at h;cases h3:jN s st2 with
   | error p=>rw[h3] at h;cases h
   | ok r =>
    obtain ⟨e,gV⟩:=r;rw[h3] at h;simp only at h;cases h4:need s ⟨#[59]⟩ gV with
    | error p=>rw[h4] at h;cases h
    | ok jL =>
     rw[h4] at h;cases h;exact ⟨⟨KU (Oc s _ _ _ h3),ak ⟨rfl,by simp⟩⟩,rfl,rfl⟩
def zl (x:Sm):Prop:=zh x.ex/\x.op=99/\x.one=[]/\x.two=[]
theorem cR (hx:zl x)(h:lg s x st=.ok (y,st')):zl y:=by
 unfold lg at h;split at h
 ·cases h1:kind s 119 (nx s st) with
  | error p=>rw[h1] at h;cases h
  | ok st1=>rw[h1] at h;cases h;exact hx
 ·cases h;exact hx
theorem cU (hx:zl x)(h:lY s x st=.ok (y,st')):zl y:=by
 unfold lY at h;split at h
 ·cases h1:kind s 119 (nx s st) with
  | error p=>rw[h1] at h;cases h
  | ok st1=>rw[h1] at h;cases h;exact hx
 ·cases h;exact hx
theorem cV (hx:zl x)(h:nC s x st=.ok (y,st')):zl y:=by
 unfold nC at h;split at h
 ·cases h1:kind s 110 (nx s st) with
  | error p=>rw[h1] at h;cases h
  | ok st1=>rw[h1] at h;cases h;exact hx
 ·cases h;exact hx
theorem cW (hx:zl x)(h:lJ s x st=.ok (y,st')):zl y:=by
 unfold lJ at h;split at h
 ·cases h;exact hx
 ·cases h1:jN s st with
  | error p=>rw[h1] at h;cases h
  | ok r=>obtain ⟨e,st1⟩:=r;rw[h1] at h;cases h;exact ⟨KU (Oc s _ _ _ h1),hx.2⟩
theorem cX (s:fq)(h:call s st=.ok (x,st')):zl x:=by
 unfold call at h;cases h1:kind s 119 st with
 | error p=>rw[h1] at h;cases h
 | ok st1 =>
  rw[h1] at h;simp only at h;cases h2:need s ⟨#[40]⟩ st1 with
  | error p=>rw[h2] at h;cases h
  | ok st2 =>
   rw[h2] at h;simp only at h;cases h3:lJ s { jk with op:=99,fD:=txt s st.t,pl:=st.t.a,n:=1 } st2 with
   | error p=>rw[h3] at h;cases h
   | ok r3 =>
    obtain ⟨x3,gV⟩:=r3;rw[h3] at h;simp only at h;have g3:zl x3:=cW ⟨KT,rfl,rfl,rfl⟩ h3;cases h4:need s ⟨#[41]⟩ gV with
    | error p=>rw[h4] at h;cases h
    | ok jL =>
     rw[h4] at h;simp only at h;cases h5:lg s x3 jL with
     | error p=>rw[h5] at h;cases h
     | ok r5 =>
      obtain ⟨x5,kT⟩:=r5;rw[h5] at h;simp only at h;have g5:=cR g3 h5;cases h6:lY s x5 kT with
      | error p=>rw[h6] at h;cases h
      | ok r6 =>
       obtain ⟨x6,mF⟩:=r6;rw[h6] at h;simp only at h;have g6:=cU g5 h6;cases h7:nC s x6 mF with
       | error p=>rw[h7] at h;cases h
       | ok r7 =>
        obtain ⟨x7,pz⟩:=r7;rw[h7] at h;simp only at h;have g7:=cV g6 h7;cases h8:need s ⟨#[59]⟩ pz with
        | error p=>rw[h8] at h;cases h
        | ok uz=>rw[h8] at h;cases h;exact g7
theorem cY (hg:Goes s g)(hm:EB s g)(ht:Tk s st.t)(h:pK s g st=.ok (x,st')):vS x/\jM x.one/\jM x.two/\st.t.a+cnt x.one+cnt x.two<=st'.t.a:=by
 unfold pK at h;cases h1:jN s st with
 | error p=>rw[h1] at h;cases h
 | ok r =>
  obtain ⟨e,st1⟩:=r;rw[h1] at h;simp only at h;have g1:=rX s _ _ _ ht h1;have w1:=Oc s _ _ _ h1;have l1:=g1.lt;cases h2:block s g st1 with
  | error p=>rw[h2] at h;cases h
  | ok r =>
   obtain ⟨l,st2⟩:=r;rw[h2] at h;simp only at h;have g2:=pE hg _ _ _ g1.tk h2;obtain ⟨m1,m2⟩:=GA hg hm g1.tk h2;split at h
   ·rename_i ho;have g3:=gX g2.tk ho;have l3:=g3.lt;cases h4:block s g (nx s st2) with
    | error p=>rw[h4] at h;cases h
    | ok r =>
     obtain ⟨m,gV⟩:=r;obtain ⟨m3,m4⟩:=GA hg hm g3.tk h4;rw[h4] at h;cases h;exact ⟨⟨KU w1,ah (ah (ak ⟨rfl,by simp⟩))⟩,m1,m3,by simp only;omega⟩
   ·cases h;exact ⟨⟨KU w1,ah (ah (ak ⟨rfl,by simp⟩))⟩,m1,xS,by simp only[jk,zk];omega⟩
theorem dE (hg:Goes s g)(hm:EB s g)(ht:Tk s st.t)(h:kK s g st=.ok (x,st')):vS x/\jM x.one/\jM x.two/\st.t.a+cnt x.one+cnt x.two<=st'.t.a:=by
 unfold kK at h;cases h1:block s g st with
 | error p=>rw[h1] at h;cases h
 | ok r =>
  obtain ⟨l,st1⟩:=r;rw[h1] at h;simp only at h;have g1:=pE hg _ _ _ ht h1;obtain ⟨m1,m2⟩:=GA hg hm ht h1;cases h2:need s ⟨#[101,108,115,101]⟩ st1 with
  | error p=>rw[h2] at h;cases h
  | ok st2 =>
   rw[h2] at h;simp only at h;have g2:=lZ g1.tk h2;have l2:=g2.lt;cases h3:block s g st2 with
   | error p=>rw[h3] at h;cases h
   | ok r =>
    obtain ⟨m,gV⟩:=r;obtain ⟨m3,m4⟩:=GA hg hm g2.tk h3;rw[h3] at h;cases h;exact ⟨⟨KT,ah (ah (ah (ak rfl)))⟩,m1,m3,by simp only;omega⟩
theorem dT (hg:Goes s g)(hm:EB s g)(ht:Tk s st.t)(h:qz s g st=.ok (x,st')):vS x/\jM x.one/\jM x.two/\st.t.a+cnt x.one+cnt x.two<=st'.t.a:=by
 unfold qz at h;cases h1:kind s 110 st with
 | error p=>rw[h1] at h;cases h
 | ok st1 =>
  rw[h1] at h;simp only at h;have g1:=oG ht (by decide) (by decide) h1
  have l1:=g1.lt;cases h2:block s g st1 with
  | error p=>rw[h2] at h;cases h
  | ok r =>
   obtain ⟨m,gV⟩:=r;obtain ⟨m1,m2⟩:=GA hg hm g1.tk h2;rw[h2] at h;cases h;exact ⟨⟨KT,ah (ah (ah (ah (ak rfl))))⟩,m1,xS,by simp only[jk,zk];omega⟩
theorem eE (h:uh s st=.ok (x,st')):vS x/\x.one=[]/\x.two=[]:=by
 unfold uh at h;cases h1:need s ⟨#[102,97,105,108]⟩ st with
 | error p=>rw[h1] at h;cases h
 | ok st1 =>
  rw[h1] at h;simp only at h;cases h2:need s ⟨#[59]⟩ st1 with
  | error p=>rw[h2] at h;cases h
  | ok st2=>rw[h2] at h;cases h;exact ⟨⟨KT,ah (ah (ah (ah (ah rfl))))⟩,rfl,rfl⟩
theorem eI (s:fq)(n:Nat):EB s (stmt s n):=by
 induction n with
 | zero=>intro st x st' _ h;simp[stmt] at h
 | succ n ih =>
  intro st x st' ht h;have hgo:=jS s (n+1) _ _ _ ht h;have hlt:=hgo.lt;rw[stmt] at h;split at h
  ·obtain ⟨m1,m2,m3⟩:=cQ s h;rw[m2,m3,zk];exact ⟨m1,xS,xS,by omega⟩
  ·split at h
   ·obtain ⟨m1,m2,m3,m4⟩:=cX s h;rw[m3,m4,zk];exact ⟨⟨m1,ah (ak m2)⟩,xS,xS,by omega⟩
   ·split at h
    ·rename_i ho;have g1:=gX ht ho;have l1:=g1.lt;obtain ⟨m1,m2,m3,m4⟩:=cY (jS s n) ih g1.tk h;exact ⟨m1,m2,m3,by omega⟩
    ·split at h
     ·rename_i ho;have g1:=gX ht ho;have l1:=g1.lt;obtain ⟨m1,m2,m3,m4⟩:=dE (jS s n) ih g1.tk h;exact ⟨m1,m2,m3,by omega⟩
     ·split at h
      ·rename_i ho;have g1:=gX ht ho;have l1:=g1.lt;obtain ⟨m1,m2,m3,m4⟩:=dT (jS s n) ih g1.tk h;exact ⟨m1,m2,m3,by omega⟩
      ·obtain ⟨m1,m2,m3⟩:=eE h;rw[m2,m3,zk];exact ⟨m1,xS,xS,by omega⟩
theorem EC (h:read s=.ok l):jM l/\cnt l<=300:=by
 unfold read at h;split at h
 ·cases h
 ·rename_i hz;cases hp:stmts s (stmt s (s.size+1)) (fun st=>st.t.k == 0) (s.size+1) [] ⟨tok s 0,0,-1⟩ with
  | error p=>rw[hp] at h;cases h
  | ok r =>
   obtain ⟨l',st⟩:=r;rw[hp] at h;simp only at h;split at h
   ·cases h
   ·cases h;have ht:=(uj s 0 (aK _)).1;obtain ⟨i1,i2⟩:=UC (jS s _) (eI s _) _ _ _ _ _ _ ht xS hp;obtain ⟨g2,_⟩:=wQ (jS s _) _ _ _ _ _ _ ht hp;have h1:=g2.tk.ab;have h2:=g2.tk.le;rw[zk] at i2;exact ⟨i1,by omega⟩
theorem zL (e p:Nat)(c:Lk):(say e p c).vars=c.vars:=by unfold say;split<;>rfl
theorem zm (x:Ex)(c:Lk):(iC x c).2.vars=c.vars:=by
 match x with
 | ⟨op,_,fD,_,own,none,_⟩ =>
  show (ze op fD own c).2.vars=_
  unfold ze;split
  ·rfl
  ·split
   ·rfl
   ·split
    ·exact zL _ _ _
    ·rfl
 | ⟨_,_,_,_,own,some l,none⟩ =>
  show (qU own (iC l c)).2.vars=_
  unfold qU;simp only;split
  ·exact zm l c
  ·rw[zL];exact zm l c
 | ⟨op,_,_,_,own,some l,some r⟩ =>
  show (oh op own (iC l c).1 (iC r (iC l c).2)).2.vars=_
  have h1:=zm l c;have h2:=zm r (iC l c).2;unfold oh;split
  ·simp only;split
   ·rw[zL,h2,h1]
   ·rw[h2,h1]
  ·simp only;split
   ·rw[h2,h1]
   ·rw[zL,h2,h1]
theorem UD (w:fq)(p k:Nat)(c:Lk):(nP w p k c).vars.length<=c.vars.length+1:=by
 unfold nP;split
 ·simp
 ·split
  ·rw[zL];omega
  ·omega
theorem Ct (x:Option Ex)(k:Nat)(c:Lk):(lQ x k c).vars=c.vars:=by
 unfold lQ;split
 ·rfl
 ·split
  ·exact zm _ _
  ·rw[zL];exact zm _ _
def pO (x:Sm)(c:Lk):Lk :=
 if x.op=108 then
  match x.ex with
  | none=>c
  | some e=>nP x.fD x.pl (iC e c).1 (iC e c).2
 else if x.op=99 then
  let c1:=lQ x.ex 105 c
  let c2:=if x.gu.toList.isEmpty then c1 else nP x.gu x.fZ 105 c1
  if x.n < 1\/5 < x.n then say 4 x.gG c2 else c2
 else if x.op=105 then iG x.two (iG x.one (lQ x.ex 98 c))
 else if x.op=116 then iG x.two (iG x.one c)
 else if x.op=114 then iG x.one (if 9 < x.n then say 4 x.gG c else c)
 else c
theorem KV (c:Lk):iG [] c=c:=by rw[iG]
theorem KX (x:Sm)(l:List Sm)(c:Lk):iG (x::l) c=iG l (pO x c):=by
 obtain ⟨op,fD,pl,ex,gu,fZ,undo,n,gG,one,two⟩:=x;rw[iG.eq_def]
 all_goals rfl
theorem zn (l:List Sm)(c:Lk):(iG l c).vars.length<=c.vars.length+cnt l:=by
 match l with
 | []=>rw[KV,zk];omega
 | ⟨op,fD,pl,ex,gu,fZ,undo,n,gG,one,two⟩::rest =>
  rw[KX,Cq];have h0:=zn rest (pO ⟨op,fD,pl,ex,gu,fZ,undo,n,gG,one,two⟩ c);have h1:(pO ⟨op,fD,pl,ex,gu,fZ,undo,n,gG,one,two⟩ c).vars.length<=c.vars.length+1+cnt one+cnt two:=by
   unfold pO;simp only;split
   ·cases ex with
    | none=>simp only;omega
    | some e =>
     have:=UD fD pl (iC e c).1 (iC e c).2
     rw[zm] at this;simp only;omega
   ·split
    ·have a1:=Ct ex 105 c;have a2:=UD gu fZ 105 (lQ ex 105 c);rw[a1] at a2;split
     ·rw[zL];split
      ·rw[a1];omega
      ·omega
     ·split
      ·rw[a1];omega
      ·omega
    ·split
     ·have a1:=zn one (lQ ex 98 c);have a2:=zn two (iG one (lQ ex 98 c));rw[Ct] at a1;omega
     ·split
      ·have a1:=zn one c;have a2:=zn two (iG one c);omega
      ·split
       ·have a1:=zn one (if 9 < n then say 4 gG c else c)
        have a3:(if 9 < n then say 4 gG c else c).vars=c.vars:=by
         split
         ·exact zL _ _ _
         ·rfl
        rw[a3] at a1;omega
       ·omega
  have e1:(⟨op,fD,pl,ex,gu,fZ,undo,n,gG,one,two⟩:Sm).one=one:=rfl;have e2:(⟨op,fD,pl,ex,gu,fZ,undo,n,gG,one,two⟩:Sm).two=two:=rfl;rw[e1,e2];omega
def pF (e p:Nat)(c:Lk):Lk:=if c.e=0\/p < c.pl then ⟨c.vars,e,p⟩ else c
def pQ (a b:Nat):Bool:=a == b || (a == 63 || b == 63)
def Bb (op:Nat)(fD:fq)(own:Nat)(c:Lk):Nat×Lk :=
 if op=110 then (105,c)
 else if op=116 then (98,c)
 else
  match iK c.vars fD with
  | none=>(63,pF 5 own c)
  | some i=>(og c.vars i,c)
def notP (own:Nat)(r:Nat×Lk):Nat×Lk:=(98,if pQ r.1 98 then r.2 else pF 6 own r.2)
def zM (op:Nat):Nat:=if op=61\/op=35 then 63 else 105
def Cv (op:Nat):Nat:=if op=61\/op=35\/op=60 then 98 else 105
def uF (op own a:Nat)(r:Nat×Lk):Nat×Lk:=(Cv op,if pQ a (zM op) && pQ r.1 (zM op) && pQ a r.1 then r.2 else pF 6 own r.2)
def iP:Ex->Lk->Nat×Lk
 | ⟨op,_,fD,_,own,none,_⟩,c=>Bb op fD own c
 | ⟨_,_,_,_,own,some l,none⟩,c=>notP own (iP l c)
 | ⟨op,_,_,_,own,some l,some r⟩,c=>uF op own (iP l c).1 (iP r (iP l c).2)
def rY (w:fq)(p k:Nat)(c:Lk):Lk :=
 match iK c.vars w with
 | none=>⟨c.vars++[(w,k)],c.e,c.pl⟩
 | some i=>if pQ (og c.vars i) k then c else pF 6 p c
def rZ (x:Ex)(k:Nat)(c:Lk):Lk:=if pQ (iP x c).1 k then (iP x c).2 else pF 6 x.pl (iP x c).2
def nD (x:Option Ex)(c:Lk):Lk :=
 match x with
 | none=>c
 | some x=>rZ x 105 c
def rM (w:fq)(p:Nat)(c:Lk):Lk:=if w.size=0 then c else rY w p 105 c
def countP (n p least most:Nat)(c:Lk):Lk:=if n < least\/most < n then pF 4 p c else c
def jO:List Sm->Lk->Lk
 | [],c=>c
 | ⟨op,fD,pl,ex,gu,fZ,_,n,gG,one,two⟩::rest,c =>
  jO rest (
   if op=108 then
    match ex with
    | none=>c
    | some x=>rY fD pl (iP x c).1 (iP x c).2
   else if op=99 then countP n gG 1 5 (rM gu fZ (nD ex c))
   else if op=105 then
    match ex with
    | none=>c
    | some x=>jO two (jO one (rZ x 98 c))
   else if op=116 then jO two (jO one c)
   else if op=114 then jO one (countP n gG 0 9 c)
   else c)
def Sp:Ex->Nat->Nat->Prop
 | ⟨_,_,_,_,own,none,none⟩,lo,hi=>lo<=own/\own < hi
 | ⟨_,_,_,_,own,some l,none⟩,lo,hi=>lo<=own/\own < hi/\Sp l lo hi
 | ⟨_,_,_,_,own,some l,some r⟩,lo,hi=>lo<=own/\own < hi/\∃ mid,lo<=mid/\mid<=hi/\Sp l lo mid/\Sp r mid hi
 | ⟨_,_,_,_,_,none,some _⟩,_,_=>False
theorem Sp.mono {x:Ex}{lo hi lo' hi':Nat}(h:Sp x lo hi)(h1:lo'<=lo)(h2:hi<=hi'):Sp x lo' hi':=by
 match x with
 | ⟨_,_,_,_,own,none,none⟩=>have h3:=h.1;have h4:=h.2;exact ⟨by omega,by omega⟩
 | ⟨_,_,_,_,own,some l,none⟩=>obtain ⟨h3,h4,h5⟩:=h;exact ⟨by omega,by omega,h5.mono h1 h2⟩
 | ⟨_,_,_,_,own,some l,some r⟩=>obtain ⟨h3,h4,mid,h5,h6,h7,h8⟩:=h;exact ⟨by omega,by omega,mid,by omega,by omega,h7.mono h1 (aj _),h8.mono (aj _) h2⟩
 | ⟨_,_,_,_,_,none,some _⟩=>exact h.elim
variable {hi i lo n:Nat}
theorem Sp.fE {x:Ex}(h:Sp x lo hi)(a:Nat):Sp { x with pl:=a } lo hi:=by
 match x with
 | ⟨_,_,_,_,own,none,none⟩=>exact h
 | ⟨_,_,_,_,own,some l,none⟩=>exact h
 | ⟨_,_,_,_,own,some l,some r⟩=>exact h
 | ⟨_,_,_,_,_,none,some _⟩=>exact h.elim
structure Inv (c:Lk)(n:Nat):Prop where
 e:c.e<=6
 p:c.e=0\/c.pl < n
variable {c:Lk}
theorem Inv.mono {m:Nat}(h:Inv c n)(hm:n<=m):Inv c m:=⟨h.e,by rcases h.p with h | h;exact ak h;exact ah (by omega)⟩
theorem ED (p:Nat)(h:Inv c n):pF 6 p c=say 6 p c:=by
 unfold pF say
 have:=h.e
 by_cases h1:c.e=0\/p < c.pl
 ·rw[if_pos h1,if_pos (by omega)]
 ·rw[if_neg h1,if_neg (by omega)]
theorem Od {e p:Nat}(h:Inv c n)(hp:n<=p):pF e p c=say e p c:=by
 unfold pF say;by_cases h0:c.e=0
 ·rw[if_pos (ak h0),if_pos (ak h0)]
 ·have:=h.p
  rw[if_neg (by omega),if_neg (by omega)]
theorem Inv.say {c:Lk}{n m e p:Nat}(h:Inv c n)(he:e<=6)(hp:p < m)(hm:n<=m):Inv (say e p c) m:=by
 unfold Px.say;split
 ·exact ⟨he,ah hp⟩
 ·exact h.mono hm
theorem KY (k want:Nat)(h:want≠63):pQ k want=isK k want:=by
 unfold pQ isK
 have:(want == 63)=false:=by simpa using h
 rw[this,Bool.or_false]
theorem UE (a b:Nat):pQ a b=!uD a b:=by
 unfold pQ uD;cases h1:(a == b)<;>cases h2:(a == 63)<;>cases h3:(b == 63)<;>simp_all [bne]
def K3 (k:Nat):Prop:=k=105\/k=98\/k=63
def V3 (c:Lk):Prop:=∀ v∈c.vars,K3 v.2
theorem V3.say {c:Lk}(h:V3 c)(e p:Nat):V3 (say e p c):=by unfold Px.say;split<;>exact h
theorem vo {l:List (fq×Nat)}{w:fq}(h:iK l w=some i):i < l.length:=by
 induction l generalizing i with
 | nil=>cases h
 | cons x r ih =>
  obtain ⟨v,k⟩:=x;unfold iK at h;split at h
  ·cases h;simp
  ·cases hr:iK r w with
   | none=>rw[hr] at h;cases h
   | some j=>rw[hr] at h;cases h;have:=ih hr;simp;omega
theorem KZ {l:List (fq×Nat)}(h:i < l.length):∃ v∈l,og l i=v.2:=by
 unfold og;rw[List.getD,bD h];exact ⟨l[i],dV h,rfl⟩
theorem GD (x:Ex):∀ (c:Lk) (lo hi:Nat),mO x->Sp x lo hi->Inv c lo->V3 c->iP x c=iC x c/\Inv (iC x c).2 hi/\V3 (iC x c).2/\K3 (iC x c).1:=by
 match x with
 | ⟨op,n,fD,pl,own,none,none⟩ =>
  intro c lo hi hw hs hi' hv;have h1:=hs.1;have h2:=hs.2;simp only[iP,iC,Bb,ze];split
  ·exact ⟨rfl,hi'.mono (by omega),hv,ak rfl⟩
  ·split
   ·exact ⟨rfl,hi'.mono (by omega),hv,ah (ak rfl)⟩
   ·cases hf:iK c.vars fD with
    | none=>exact ⟨by simp only;rw[Od hi' h1],hi'.say (by omega) h2 (by omega),hv.say _ _,ah (ah rfl)⟩
    | some i =>
     obtain ⟨v,hv1,hv2⟩:=KZ (vo hf);exact ⟨rfl,hi'.mono (by omega),hv,by simp only;rw[hv2];exact hv v hv1⟩
 | ⟨op,n,fD,pl,own,some l,none⟩ =>
  intro c lo hi hw hs hi' hv;obtain ⟨h1,h2,h3⟩:=hs;obtain ⟨e1,e2,e3,e4⟩:=GD l c lo hi hw.2 h3 hi' hv;simp only[iP,iC,notP,qU];rw[e1,KY _ _ (by decide)]
  split
  ·exact ⟨rfl,e2,e3,ah (ak rfl)⟩
  ·exact ⟨by rw[ED _ e2],e2.say (by omega) h2 (aj _),e3.say _ _,ah (ak rfl)⟩
 | ⟨op,n,fD,pl,own,some l,some r⟩ =>
  intro c lo hi hw hs hi' hv;obtain ⟨h1,h2,mid,h3,h4,h5,h6⟩:=hs;obtain ⟨hop,hwl,hwr⟩:=hw;obtain ⟨e1,e2,e3,e4⟩:=GD l c lo mid hwl h5 hi' hv;obtain ⟨f1,f2,f3,f4⟩:=GD r (iC l c).2 mid hi hwr h6 e2 e3;simp only[iP,iC];rw[e1,f1];generalize iC l c=kl at *;generalize iC r kl.2=kr at *;unfold uF oh;by_cases ho:op=61\/op=35
  ·rw[if_pos ho,zM,if_pos ho,Cv,if_pos (by omega),UE kl.1 kr.1]
   have t1:∀ k,pQ k 63=true:=by intro k;unfold pQ;simp
   rw[t1,t1];cases hu:uD kl.1 kr.1
   ·exact ⟨rfl,by simpa using f2,by simpa using f3,ah (ak rfl)⟩
   ·refine ⟨?_,?_,?_,ah (ak rfl)⟩
    ·simp[ED _ f2]
    ·simpa using f2.say (by omega) h2 (aj _)
    ·simpa using f3.say _ _
  ·rw[if_neg ho,zM,if_neg ho,KY _ _ (by decide),KY _ _ (by decide)]
   have hmk:Cv op=if op=60 then 98 else 105:=by unfold Cv;by_cases h:op=60<;>simp[h,ho]<;>omega
   rw[hmk];have hk3:K3 (if op=60 then 98 else 105):=by split;exact ah (ak rfl);exact ak rfl
   cases ha:isK kl.1 105
   ·simp only[Bool.false_and,eH,if_false];exact ⟨by rw[ED _ f2],f2.say (by omega) h2 (aj _),f3.say _ _,hk3⟩
   ·cases hb:isK kr.1 105
    ·simp only[Bool.true_and,Bool.false_and,eH,if_false];exact ⟨by rw[ED _ f2],f2.say (by omega) h2 (aj _),f3.say _ _,hk3⟩
    ·have:pQ kl.1 kr.1=true:=by
      unfold isK at ha hb;unfold pQ;simp only[dx,beq_iff_eq] at ha hb |-;omega
     rw[this];simp only[Bool.true_and,if_true];exact ⟨trivial,f2,f3,hk3⟩
 | ⟨_,_,_,_,_,none,some _⟩=>intro c lo hi hw;exact hw.elim
def Ss:List Sm->Nat->Nat->Prop
 | [],lo,hi=>lo<=hi
 | ⟨op,_,pl,ex,gu,fZ,_,n,gG,one,two⟩::rest,lo,hi=>∃ md,Ss rest md hi/\lo<=md /\
   ((op=108/\∃ x,ex=some x/\Sp x lo md/\pl < md) \/
    (op=99/\∃ m1 m2,lo<=m1/\m1<=m2/\m2<=md/\(∀ x,ex=some x->Sp x lo m1/\x.pl < m1)/\(gu.size=0\/fZ < m2)/\((1<=n/\n<=5)\/(m2<=gG/\gG < md))) \/
    (op=105/\∃ x a b c d m1,ex=some x/\Sp x lo m1/\x.pl < m1/\m1<=a/\Ss one a b/\b<=c/\Ss two c d/\d<=md) \/
    (op=116/\∃ a b c d,lo<=a/\Ss one a b/\b<=c/\Ss two c d/\d<=md) \/
    (op=114/\∃ a b,lo<=gG/\gG < a/\Ss one a b/\b<=md)\/op=102)
def S1 (x:Sm)(lo md:Nat):Prop:=lo<=md /\
   ((x.op=108/\∃ e,x.ex=some e/\Sp e lo md/\x.pl < md) \/
    (x.op=99/\∃ m1 m2,lo<=m1/\m1<=m2/\m2<=md/\(∀ e,x.ex=some e->Sp e lo m1/\e.pl < m1)/\(x.gu.size=0\/x.fZ < m2)/\((1<=x.n/\x.n<=5)\/(m2<=x.gG/\x.gG < md))) \/
    (x.op=105/\∃ e a b c d m1,x.ex=some e/\Sp e lo m1/\e.pl < m1/\m1<=a/\Ss x.one a b/\b<=c/\Ss x.two c d/\d<=md) \/
    (x.op=116/\∃ a b c d,lo<=a/\Ss x.one a b/\b<=c/\Ss x.two c d/\d<=md) \/
    (x.op=114/\∃ a b,lo<=x.gG/\x.gG < a/\Ss x.one a b/\b<=md)\/x.op=102)
theorem Oe:Ss [] lo hi↔lo<=hi:=by rw[Ss]
theorem UF:Ss (x::l) lo hi↔∃ md,Ss l md hi/\S1 x lo md:=by
 obtain ⟨op,fD,pl,ex,gu,fZ,undo,n,gG,one,two⟩:=x;rw[Ss]
 all_goals rfl
def zN (s:fq)(g:Ps->Except Nat (Ex×Ps)):Prop:=∀ st x st',Tk s st.t->g st=.ok (x,st')->Sp x st.t.a st'.t.a
theorem eJ {g:Ps->Except Nat (Ex×Ps)}(hg:Goes s g)(hs:zN s g)(a b:UInt8)(n:Nat):∀ (pl lo:Nat) (e:Ex) (st:Ps) (x:Ex) (st':Ps),Tk s st.t->lo<=st.t.a->Sp e lo st.t.a->chain s g a b n pl e st=.ok (x,st')->Sp x lo st'.t.a:=by
 induction n with
 | zero=>intro pl lo e st x st' _ _ _ h;simp[chain] at h
 | succ n ih =>
  intro pl lo e st x st' ht hlo he h;rw[chain] at h;split at h
  ·rename_i ho;have g0:=gX ht ho;have l0:=g0.lt;cases hp:g (nx s st) with
   | error p=>rw[hp] at h;cases h
   | ok r =>
    obtain ⟨k,st1⟩:=r;rw[hp] at h;have g1:=hg _ _ _ g0.tk hp;have l1:=g1.lt;exact ih pl lo ⟨a.toNat,0,gM,pl,st.t.a,some e,some k⟩ _ _ _ g1.tk (by omega) ⟨hlo,by omega,(nx s st).t.a,by omega,by omega,he.mono (aj _) (by omega),hs _ _ _ g0.tk hp⟩ h
  ·split at h
   ·rename_i ho;have g0:=gX ht ho;have l0:=g0.lt;cases hp:g (nx s st) with
    | error p=>rw[hp] at h;cases h
    | ok r =>
     obtain ⟨k,st1⟩:=r;rw[hp] at h;have g1:=hg _ _ _ g0.tk hp;have l1:=g1.lt;exact ih pl lo ⟨b.toNat,0,gM,pl,st.t.a,some e,some k⟩ _ _ _ g1.tk (by omega) ⟨hlo,by omega,(nx s st).t.a,by omega,by omega,he.mono (aj _) (by omega),hs _ _ _ g0.tk hp⟩ h
   ·cases h;exact he
theorem UG {g:Ps->Except Nat (Ex×Ps)}(hg:Goes s g)(hs:zN s g)(a b:UInt8):zN s (row s g a b):=by
 intro st x st' ht h;unfold row at h;cases hp:g st with
 | error p=>rw[hp] at h;cases h
 | ok r =>
  obtain ⟨e,st1⟩:=r;rw[hp] at h;have g1:=hg _ _ _ ht hp;exact eJ hg hs _ _ _ _ _ _ _ _ _ g1.tk (bN g1.lt) (hs _ _ _ ht hp) h
theorem UH {g:Ps->Except Nat (Ex×Ps)}(hg:Goes s g)(hs:zN s g):zN s (sum s g):=UG (Co hg) (UG hg hs _ _) _ _
theorem UJ {g:Ps->Except Nat (Ex×Ps)}(hg:Goes s g)(hs:zN s g):zN s (expr s g):=by
 intro st x st' ht h;unfold expr at h;cases hp:sum s g st with
 | error p=>rw[hp] at h;cases h
 | ok r =>
  obtain ⟨e,st1⟩:=r;rw[hp] at h;simp only at h;have g1:=zJ hg _ _ _ ht hp;have s1:=UH hg hs _ _ _ ht hp;have l1:=g1.lt;cases hc:qj s st1.t with
  | none=>rw[hc] at h;cases h;exact s1
  | some o =>
   rw[hc] at h;simp only at h;have hk:=Ew hc;have g0:Good s st1 (nx s st1):=vg g1.tk (by rw[hk];decide) (by rw[hk];decide)
   have l0:=g0.lt;cases hq:sum s g (nx s st1) with
   | error p=>rw[hq] at h;cases h
   | ok r2 =>
    obtain ⟨k,st2⟩:=r2;rw[hq] at h;have g2:=zJ hg _ _ _ g0.tk hq;have s2:=UH hg hs _ _ _ g0.tk hq;have l2:=g2.lt;cases h;exact ⟨by omega,by omega,(nx s st1).t.a,by omega,by omega,s1.mono (aj _) (by omega),s2⟩
theorem eK (s:fq)(n:Nat):zN s (atom s n):=by
 induction n with
 | zero=>intro st x st' _ h;simp[atom] at h
 | succ n ih =>
  intro st x st' ht h;have hgo:=qA s (n+1) _ _ _ ht h;have hlt:=hgo.lt;rw[atom] at h;split at h
  ·cases h;exact ⟨aj _,hlt⟩
  ·split at h
   ·cases h;exact ⟨aj _,hlt⟩
   ·split at h
    ·cases h;exact ⟨aj _,hlt⟩
    ·split at h
     ·cases h;exact ⟨aj _,hlt⟩
     ·split at h
      ·rename_i ho;have g0:=gX ht ho;cases hp:atom s n (nx s st) with
       | error p=>rw[hp] at h;cases h
       | ok r =>
        obtain ⟨k,st1⟩:=r;rw[hp] at h;cases h;exact ⟨aj _,hlt,(ih _ _ _ g0.tk hp).mono (bN g0.lt) (aj _)⟩
      ·split at h
       ·rename_i ho;have g0:=gX (st:=dn st) ht ho;have l0:st.t.a < (nx s (dn st)).t.a:=g0.lt;cases hp:expr s (atom s n) (nx s (dn st)) with
        | error p=>rw[hp] at h;cases h
        | ok r =>
         obtain ⟨k,st1⟩:=r;have g1:=A9 (qA s n) _ _ _ g0.tk hp;have s1:=UJ (qA s n) ih _ _ _ g0.tk hp;rw[hp] at h;simp only at h;split at h
         ·rename_i ho2;have g2:=gX g1.tk ho2;have l2:=g2.lt;cases h;exact (s1.mono (bN l0) (bN l2)).fE _
         ·cases h
       ·cases h
theorem Og (s:fq):zN s (jN s):=UJ (qA s _) (eK s _)
def xU (s:fq)(g:Ps->Except Nat (Sm×Ps)):Prop:=∀ st x st',Tk s st.t->g st=.ok (x,st')->S1 x st.t.a st'.t.a
theorem UK (hg:Goes s g)(hs:xU s g)(stop:Ps->Bool)(n:Nat):∀ (l:List Sm) (st:Ps) (x:List Sm) (st':Ps),Tk s st.t->stmts s g stop n l st=.ok (x,st')->∃ r,x=l++r/\Ss r st.t.a st'.t.a:=by
 induction n with
 | zero=>intro l st x st' _ h;simp[stmts] at h
 | succ n ih =>
  intro l st x st' ht h;rw[stmts] at h;split at h
  ·cases h;exact ⟨[],by simp,Oe.2 (aj _)⟩
  ·cases hp:g st with
   | error p=>rw[hp] at h;cases h
   | ok r =>
    obtain ⟨y,st1⟩:=r;rw[hp] at h;have g1:=hg _ _ _ ht hp;obtain ⟨r,hr,h2⟩:=ih _ _ _ _ g1.tk h;exact ⟨y::r,by rw[hr];simp,UF.2 ⟨_,h2,hs _ _ _ ht hp⟩⟩
theorem GH (hg:Goes s g)(hs:xU s g){x:List Sm}(ht:Tk s st.t)(h:block s g st=.ok (x,st')):∃ a b,st.t.a < a/\Ss x a b/\b<=st'.t.a:=by
 unfold block at h;split at h
 ·rename_i ho;have g0:=gX (st:=dn st) ht ho;cases hp:stmts s g (fun st=>gy s st.t ⟨#[125]⟩) (s.size+1) [] (nx s (dn st)) with
  | error p=>rw[hp] at h;cases h
  | ok r =>
   obtain ⟨l,st1⟩:=r;rw[hp] at h;obtain ⟨r,hr,h2⟩:=UK hg hs _ _ _ _ _ _ g0.tk hp;obtain ⟨g1,g2⟩:=wQ hg _ _ _ _ _ _ g0.tk hp;have g3:=gX g1.tk g2;cases h;rw[dh] at hr;subst hr;exact ⟨_,_,g0.lt,h2,bN g3.lt⟩
 ·cases h
theorem eL (s:fq):xU s (kJ s):=by
 intro st x st' ht h;unfold kJ at h;cases h1:kind s 119 st with
 | error p=>rw[h1] at h;cases h
 | ok st1 =>
  rw[h1] at h;simp only at h;have g1:=oG ht (by decide) (by decide) h1
  cases h2:need s ⟨#[61]⟩ st1 with
  | error p=>rw[h2] at h;cases h
  | ok st2 =>
   rw[h2] at h;simp only at h;have g2:=lZ g1.tk h2;cases h3:jN s st2 with
   | error p=>rw[h3] at h;cases h
   | ok r =>
    obtain ⟨e,gV⟩:=r;rw[h3] at h;simp only at h;have g3:=rX s _ _ _ g2.tk h3;have s3:=Og s _ _ _ g2.tk h3;cases h4:need s ⟨#[59]⟩ gV with
    | error p=>rw[h4] at h;cases h
    | ok jL =>
     have g4:=lZ g3.tk h4;rw[h4] at h;cases h;have l1:=g1.lt;have l2:=g2.lt;have l3:=g3.lt;have l4:=g4.lt;exact ⟨by omega,ak ⟨rfl,e,rfl,s3.mono (by omega) (by omega),by show st.t.a < _;omega⟩⟩
theorem eQ (s:fq):xU s (call s):=by
 intro st x st' ht h;unfold call at h;cases h1:kind s 119 st with
 | error p=>rw[h1] at h;cases h
 | ok st1 =>
  rw[h1] at h;simp only at h;have g1:=oG ht (by decide) (by decide) h1
  cases h2:need s ⟨#[40]⟩ st1 with
  | error p=>rw[h2] at h;cases h
  | ok st2 =>
   rw[h2] at h;simp only at h;have g2:=lZ g1.tk h2;generalize hz:({ jk with op:=99,fD:=txt s st.t,pl:=st.t.a,n:=1 }:Sm)=x2 at h
   have z0:x2.op=99/\x2.n=1/\x2.gu.size=0/\x2.ex=none:=by rw[<- hz];exact ⟨rfl,rfl,rfl,rfl⟩
   cases h3:lJ s x2 st2 with
   | error p=>rw[h3] at h;cases h
   | ok r =>
    obtain ⟨x3,gV⟩:=r;rw[h3] at h;simp only at h;have g3:=Ez g2.tk h3;have z3:x3.op=99/\x3.n=1/\x3.gu.size=0/\(∀ e,x3.ex=some e->Sp e st2.t.a gV.t.a/\e.pl < gV.t.a):=by
     unfold lJ at h3;split at h3
     ·cases h3;exact ⟨z0.1,z0.2.1,z0.2.2.1,fun e he=>by rw[z0.2.2.2] at he;cases he⟩
     ·cases hp:jN s st2 with
      | error p=>rw[hp] at h3;cases h3
      | ok r =>
       obtain ⟨e,zO⟩:=r;rw[hp] at h3;cases h3;refine ⟨z0.1,z0.2.1,z0.2.2.1,fun e' he=>?_⟩
       cases he;exact ⟨Og s _ _ _ g2.tk hp,by rw[Oa s _ _ _ hp];exact (rX s _ _ _ g2.tk hp).lt⟩
    cases h4:need s ⟨#[41]⟩ gV with
    | error p=>rw[h4] at h;cases h
    | ok jL =>
     rw[h4] at h;simp only at h;have g4:=lZ g3.tk h4;cases h5:lg s x3 jL with
     | error p=>rw[h5] at h;cases h
     | ok r5 =>
      obtain ⟨x5,kT⟩:=r5;rw[h5] at h;simp only at h;have g5:=Ey g4.tk h5;have z5:x5.op=99/\x5.n=1/\x5.ex=x3.ex/\(x5.gu.size=0\/x5.fZ < kT.t.a):=by
       unfold lg at h5;split at h5
       ·rename_i ho;have g0:=gX g4.tk ho;cases hp:kind s 119 (nx s jL) with
        | error p=>rw[hp] at h5;cases h5
        | ok st' =>
         rw[hp] at h5;have g6:=oG g0.tk (by decide) (by decide) hp
         cases h5;exact ⟨z3.1,z3.2.1,rfl,ah g6.lt⟩
       ·cases h5;exact ⟨z3.1,z3.2.1,rfl,ak z3.2.2.1⟩
      cases h6:lY s x5 kT with
      | error p=>rw[h6] at h;cases h
      | ok r6 =>
       obtain ⟨x6,mF⟩:=r6;rw[h6] at h;simp only at h;have g6:=Gy g5.tk h6;have z6:x6.op=99/\x6.n=1/\x6.ex=x5.ex/\x6.gu=x5.gu/\x6.fZ=x5.fZ:=by
        unfold lY at h6;split at h6
        ·cases hp:kind s 119 (nx s kT) with
         | error p=>rw[hp] at h6;cases h6
         | ok st' =>
          rw[hp] at h6;cases h6;exact ⟨z5.1,z5.2.1,rfl,rfl,rfl⟩
        ·cases h6;exact ⟨z5.1,z5.2.1,rfl,rfl,rfl⟩
       cases h7:nC s x6 mF with
       | error p=>rw[h7] at h;cases h
       | ok r7 =>
        obtain ⟨x7,pz⟩:=r7;rw[h7] at h;simp only at h;have g7:=Gz g6.tk h7;have z7:x7.op=99/\x7.ex=x6.ex/\x7.gu=x6.gu/\x7.fZ=x6.fZ/\((1<=x7.n/\x7.n<=5)\/(mF.t.a<=x7.gG/\x7.gG < pz.t.a)):=by
         unfold nC at h7;split at h7
         ·rename_i ho;have g0:=gX g6.tk ho;cases hp:kind s 110 (nx s mF) with
          | error p=>rw[hp] at h7;cases h7
          | ok st' =>
           rw[hp] at h7;have g8:=oG g0.tk (by decide) (by decide) hp
           cases h7;exact ⟨z6.1,rfl,rfl,rfl,ah ⟨bN g0.lt,g8.lt⟩⟩
         ·cases h7;exact ⟨z6.1,rfl,rfl,rfl,ak ⟨by rw[z6.2.1];decide,by rw[z6.2.1];decide⟩⟩
        cases h8:need s ⟨#[59]⟩ pz with
        | error p=>rw[h8] at h;cases h
        | ok uz =>
         have g8:=lZ g7.tk h8;rw[h8] at h;cases h;have l1:=g1.lt;have l2:=g2.lt;have l3:=g3.le;have l4:=g4.lt;have l5:=g5.le;have l6:=g6.le;have l7:=g7.le;have l8:=g8.lt;refine ⟨by omega,ah (ak ⟨z7.1,gV.t.a,mF.t.a,by omega,by omega,by omega,?_,?_,?_⟩)⟩
         ·intro e he;rw[z7.2.1,z6.2.2.1,z5.2.2.1] at he;obtain ⟨e1,e2⟩:=z3.2.2.2 e he;exact ⟨e1.mono (by omega) (aj _),e2⟩
         ·rw[z7.2.2.1,z7.2.2.2.1,z6.2.2.2.1,z6.2.2.2.2];rcases z5.2.2.2 with h | h
          ·exact ak h
          ·exact ah (by omega)
         ·rcases z7.2.2.2.2 with h | h
          ·exact ak h
          ·exact ah ⟨h.1,by omega⟩
theorem eR (hg:Goes s g)(hs:xU s g):xU s (pK s g):=by
 intro st x st' ht h;unfold pK at h;cases h1:jN s st with
 | error p=>rw[h1] at h;cases h
 | ok r =>
  obtain ⟨e,st1⟩:=r;rw[h1] at h;simp only at h;have g1:=rX s _ _ _ ht h1;have w1:=Og s _ _ _ ht h1;have p1:e.pl < st1.t.a:=by rw[Oa s _ _ _ h1];exact g1.lt
  have l1:=g1.lt;cases h2:block s g st1 with
  | error p=>rw[h2] at h;cases h
  | ok r =>
   obtain ⟨l,st2⟩:=r;rw[h2] at h;simp only at h;have g2:=pE hg _ _ _ g1.tk h2;have l2:=g2.lt;obtain ⟨a,b,m1,m2,m3⟩:=GH hg hs g1.tk h2;split at h
   ·rename_i ho;have g3:=gX g2.tk ho;have l3:=g3.lt;cases h4:block s g (nx s st2) with
    | error p=>rw[h4] at h;cases h
    | ok r =>
     obtain ⟨m,gV⟩:=r;have g4:=pE hg _ _ _ g3.tk h4;have l4:=g4.lt;obtain ⟨c,d,m4,m5,m6⟩:=GH hg hs g3.tk h4;rw[h4] at h;cases h;exact ⟨by omega,ah (ah (ak ⟨rfl,e,a,b,c,d,st1.t.a,rfl,w1,p1,by omega,m2,by omega,m5,m6⟩))⟩
   ·cases h;exact ⟨by omega,ah (ah (ak ⟨rfl,e,a,b,b,b,st1.t.a,rfl,w1,p1,by omega,m2,aj _,Oe.2 (aj _),m3⟩))⟩
theorem eS (hg:Goes s g)(hs:xU s g):xU s (kK s g):=by
 intro st x st' ht h;unfold kK at h;cases h1:block s g st with
 | error p=>rw[h1] at h;cases h
 | ok r =>
  obtain ⟨l,st1⟩:=r;rw[h1] at h;simp only at h;have g1:=pE hg _ _ _ ht h1;have l1:=g1.lt;obtain ⟨a,b,m1,m2,m3⟩:=GH hg hs ht h1;cases h2:need s ⟨#[101,108,115,101]⟩ st1 with
  | error p=>rw[h2] at h;cases h
  | ok st2 =>
   rw[h2] at h;simp only at h;have g2:=lZ g1.tk h2;have l2:=g2.lt;cases h3:block s g st2 with
   | error p=>rw[h3] at h;cases h
   | ok r =>
    obtain ⟨m,gV⟩:=r;have g3:=pE hg _ _ _ g2.tk h3;have l3:=g3.lt;obtain ⟨c,d,m4,m5,m6⟩:=GH hg hs g2.tk h3;rw[h3] at h;cases h;exact ⟨by omega,ah (ah (ah (ak ⟨rfl,a,b,c,d,by omega,m2,by omega,m5,m6⟩)))⟩
theorem eV (hg:Goes s g)(hs:xU s g):xU s (qz s g):=by
 intro st x st' ht h;unfold qz at h;cases h1:kind s 110 st with
 | error p=>rw[h1] at h;cases h
 | ok st1 =>
  rw[h1] at h;simp only at h;have g1:=oG ht (by decide) (by decide) h1
  have l1:=g1.lt;cases h2:block s g st1 with
  | error p=>rw[h2] at h;cases h
  | ok r =>
   obtain ⟨m,gV⟩:=r;have g2:=pE hg _ _ _ g1.tk h2;have l2:=g2.lt;obtain ⟨a,b,m1,m2,m3⟩:=GH hg hs g1.tk h2;rw[h2] at h;cases h;exact ⟨by omega,ah (ah (ah (ah (ak ⟨rfl,a,b,aj _,by show st.t.a < a;omega,m2,m3⟩))))⟩
theorem S1.down {lo' md:Nat}(h:S1 x lo md)(hl:lo'<=lo):S1 x lo' md:=by
 obtain ⟨h0,h⟩:=h;refine ⟨by omega,?_⟩
 rcases h with ⟨o,e,h1,h2,h3⟩ | ⟨o,m1,m2,h1,h2,h3,h4,h5,h6⟩ | ⟨o,e,a,b,c,d,m1,h1,h2,h3,h4,h5,h6,h7,h8⟩ | ⟨o,a,b,c,d,h1,h2,h3,h4,h5⟩ | ⟨o,a,b,h1,h2,h3,h4⟩ | o
 ·exact ak ⟨o,e,h1,h2.mono hl (aj _),h3⟩
 ·exact ah (ak ⟨o,m1,m2,by omega,h2,h3,fun e he=>⟨(h4 e he).1.mono hl (aj _),(h4 e he).2⟩,h5,h6⟩)
 ·exact ah (ah (ak ⟨o,e,a,b,c,d,m1,h1,h2.mono hl (aj _),h3,h4,h5,h6,h7,h8⟩))
 ·exact ah (ah (ah (ak ⟨o,a,b,c,d,by omega,h2,h3,h4,h5⟩)))
 ·exact ah (ah (ah (ah (ak ⟨o,a,b,by omega,h2,h3,h4⟩))))
 ·exact ah (ah (ah (ah (ah o))))
theorem fL (s:fq)(n:Nat):xU s (stmt s n):=by
 induction n with
 | zero=>intro st x st' _ h;simp[stmt] at h
 | succ n ih =>
  intro st x st' ht h;have hgo:=jS s (n+1) _ _ _ ht h;have hlt:=hgo.lt;rw[stmt] at h;split at h
  ·rename_i ho;have g1:=gX ht ho;exact (eL s _ _ _ g1.tk h).down (bN g1.lt)
  ·split at h
   ·rename_i ho;have g1:=gX ht ho;exact (eQ s _ _ _ g1.tk h).down (bN g1.lt)
   ·split at h
    ·rename_i ho;have g1:=gX ht ho;exact (eR (jS s n) ih _ _ _ g1.tk h).down (bN g1.lt)
    ·split at h
     ·rename_i ho;have g1:=gX ht ho;exact (eS (jS s n) ih _ _ _ g1.tk h).down (bN g1.lt)
     ·split at h
      ·rename_i ho;have g1:=gX ht ho;exact (eV (jS s n) ih _ _ _ g1.tk h).down (bN g1.lt)
      ·have ho:x.op=102:=by
        unfold uh at h;cases h1:need s ⟨#[102,97,105,108]⟩ st with
        | error p=>rw[h1] at h;cases h
        | ok st1 =>
         rw[h1] at h;simp only at h;cases h2:need s ⟨#[59]⟩ st1 with
         | error p=>rw[h2] at h;cases h
         | ok st2=>rw[h2] at h;cases h;rfl
       exact ⟨bN hlt,ah (ah (ah (ah (ah ho))))⟩
theorem fN (h:read s=.ok l):∃ lo hi,Ss l lo hi:=by
 unfold read at h;split at h
 ·cases h
 ·cases hp:stmts s (stmt s (s.size+1)) (fun st=>st.t.k == 0) (s.size+1) [] ⟨tok s 0,0,-1⟩ with
  | error p=>rw[hp] at h;cases h
  | ok r =>
   obtain ⟨l',st⟩:=r;rw[hp] at h;simp only at h;split at h
   ·cases h
   ·cases h;have ht:=(uj s 0 (aK _)).1;obtain ⟨r,hr,h2⟩:=UK (jS s _) (fL s _) _ _ _ _ _ _ ht hp;rw[dh] at hr;subst hr;exact ⟨_,_,h2⟩
