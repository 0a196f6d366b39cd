import Derived.WalkKit
import Derived.WalkSpells
set_option maxRecDepth 100000
namespace Go.Proofs.YtagpnplggopoeaaGreatDoor
namespace Px
def qal (c:UInt8):Bool:=decide (97≤c.toNat) && decide (c.toNat≤122)
def qba (c:UInt8):Bool:=decide (48≤c.toNat) && decide (c.toNat≤57)
def qbi (c:UInt8):Bool:=c == 32 || c == 10
def marks:List UInt8:=[61,59,40,41,123,125,60,35,43,45,42,47]
def qd9 (c:UInt8):Bool:=marks.contains c
def qcx:List (List UInt8):=[[108,101,116],[99,97,108,108],[97,115],[117,110,100,111],[116,114,105,101,115],[105,102],[101,108,115,101],[116,114,121],[114,101,112,101,97,116],[102,97,105,108],[116,114,117,101],[102,97,108,115,101],[110,111,116]]
def qcf (w:List UInt8):Bool:=qcx.contains w
def qg2 (p:UInt8→Bool) (s:ByteArray):Nat→Nat→Nat
 | 0,i=>i
 | n+1,i=>if h:i < s.size then (if p s[i] then qg2 p s n (i+1) else i) else i
def qbc (p:UInt8→Bool) (s:ByteArray) (i:Nat):Nat:=qg2 p s (s.size - i) i
theorem qzt (p:UInt8→Bool) (s:ByteArray) (n i:Nat):i≤qg2 p s n i:=by
 induction n generalizing i with
 | zero=>simp[qg2]
 | succ n ih =>
  unfold qg2;split
  ·split
   ·have:=ih (i+1);omega
   ·omega
  ·omega
theorem zls (p:UInt8→Bool) (s:ByteArray) (n i:Nat) (h:i≤s.size):qg2 p s n i≤s.size:=by
 induction n generalizing i with
 | zero=>simpa [qg2] using h
 | succ n ih =>
  unfold qg2;split
  ·split
   ·exact ih (i+1) (by omega)
   ·omega
  ·omega
theorem qhq (p:UInt8→Bool) (s:ByteArray) (n i:Nat):∀ k (hk:k < s.size),i≤k→k < qg2 p s n i→p s[k]=true:=by
 induction n generalizing i with
 | zero=>intro k hk h1 h2;simp[qg2] at h2;omega
 | succ n ih =>
  intro k hk h1 h2;unfold qg2 at h2;split at h2
  ·split at h2
   ·rename_i hp;by_cases e:k=i
    ·subst e;exact hp
    ·exact ih (i+1) k hk (by omega) h2
   ·omega
  ·omega
theorem qq8 (p:UInt8→Bool) (s:ByteArray) (n i:Nat) (hn:s.size - i≤n):∀ (h:qg2 p s n i < s.size),p s[qg2 p s n i]=false:=by
 induction n generalizing i with
 | zero=>intro h;simp[qg2] at h;omega
 | succ n ih =>
  intro h;by_cases hi:i < s.size
  ·by_cases hp:p s[i]=true
   ·have e:qg2 p s (n+1) i=qg2 p s n (i+1):=by rw[qg2,dif_pos hi,if_pos hp]
    simp only[e] at h ⊢;exact ih (i+1) (by omega) h
   ·have e:qg2 p s (n+1) i=i:=by rw[qg2,dif_pos hi,if_neg hp]
    simp only[e] at h ⊢
    simpa using hp
  ·have e:qg2 p s (n+1) i=i:=by rw[qg2,dif_neg hi]
   simp only[e] at h;omega
theorem qla (p:UInt8→Bool) (s:ByteArray) (i:Nat):i≤qbc p s i:=qzt _ _ _ _
theorem qdz (p:UInt8→Bool) (s:ByteArray) (i:Nat) (h:i≤s.size):qbc p s i≤s.size:=zls _ _ _ _ h
theorem qel (p:UInt8→Bool) (s:ByteArray) (i k:Nat) (h1:i≤k) (h2:k≤s.size) (ha:∀ j (hj:j < s.size),i≤j→j < k→p s[j]=true) (hs:∀ (h:k < s.size),p s[k]=false):qbc p s i=k:=by
 have g1:=qla p s i;have g2:=qdz p s i (by omega)
 rcases Nat.lt_trichotomy (qbc p s i) k with h | h | h
 ·have:=qq8 p s (s.size - i) i (Nat.le_refl _) (by unfold qbc at h;omega)
  have h3:=ha (qbc p s i) (by omega) g1 h
  unfold qbc at h3;rw[this] at h3;simp at h3
 ·exact h
 ·have h3:=qhq p s (s.size - i) i k (by omega) h1 h
  rw[hs (by omega)] at h3;simp at h3
structure Tok where
 k:Nat
 a:Nat
 b:Nat
def qev (s:ByteArray) (a:Nat):Tok :=
 if h:a < s.size then
  if qal s[a] then
   if qcf (s.extract a (qbc qal s a)).toList then ⟨107,a,qbc qal s a⟩ else if 8 < qbc qal s a - a then ⟨63,a,a⟩ else ⟨119,a,qbc qal s a⟩
  else if qba s[a] then
   if 4 < qbc qba s a - a then ⟨63,a,a⟩ else ⟨110,a,qbc qba s a⟩
  else if qd9 s[a] then ⟨107,a,a+1⟩ else ⟨63,a,a⟩
 else ⟨0,s.size,s.size⟩
def tok (s:ByteArray) (i:Nat):Tok:=qev s (qbc qbi s i)
theorem qgo {s:ByteArray} {a:Nat} (h:¬ a < s.size):qev s a=⟨0,s.size,s.size⟩:=by rw[qev,dif_neg h]
theorem qer {s:ByteArray} {a b:Nat} (h:a < s.size) (hs:qal s[a]=true) (hb:qbc qal s a=b) (hk:qcf (s.extract a b).toList=true):qev s a=⟨107,a,b⟩:=by
 subst hb;rw[qev,dif_pos h,if_pos hs,if_pos hk]
theorem qff {s:ByteArray} {a b:Nat} (h:a < s.size) (hs:qal s[a]=true) (hb:qbc qal s a=b) (hk:qcf (s.extract a b).toList=false) (hl:8 < b - a):qev s a=⟨63,a,a⟩:=by
 subst hb;rw[qev,dif_pos h,if_pos hs,if_neg (by simp[hk]),if_pos hl]
theorem qeq {s:ByteArray} {a b:Nat} (h:a < s.size) (hs:qal s[a]=true) (hb:qbc qal s a=b) (hk:qcf (s.extract a b).toList=false) (hl:¬ 8 < b - a):qev s a=⟨119,a,b⟩:=by
 subst hb;rw[qev,dif_pos h,if_pos hs,if_neg (by simp[hk]),if_neg hl]
theorem qfg {s:ByteArray} {a b:Nat} (h:a < s.size) (hs:qal s[a]=false) (hd:qba s[a]=true) (hb:qbc qba s a=b) (hl:4 < b - a):qev s a=⟨63,a,a⟩:=by
 subst hb;rw[qev,dif_pos h,if_neg (by simp[hs]),if_pos hd,if_pos hl]
theorem qfw {s:ByteArray} {a b:Nat} (h:a < s.size) (hs:qal s[a]=false) (hd:qba s[a]=true) (hb:qbc qba s a=b) (hl:¬ 4 < b - a):qev s a=⟨110,a,b⟩:=by
 subst hb;rw[qev,dif_pos h,if_neg (by simp[hs]),if_pos hd,if_neg hl]
theorem qfe {s:ByteArray} {a:Nat} (h:a < s.size) (hs:qal s[a]=false) (hd:qba s[a]=false) (hm:qd9 s[a]=true):qev s a=⟨107,a,a+1⟩:=by
 rw[qev,dif_pos h,if_neg (by simp[hs]),if_neg (by simp[hd]),if_pos hm]
theorem qgl {s:ByteArray} {a:Nat} (h:a < s.size) (hs:qal s[a]=false) (hd:qba s[a]=false) (hm:qd9 s[a]=false):qev s a=⟨63,a,a⟩:=by
 rw[qev,dif_pos h,if_neg (by simp[hs]),if_neg (by simp[hd]),if_neg (by simp[hm])]
end Px
open Go.RowKit
structure Kp (b:Nat) (w w':World):Prop where
 os:w'.os=w.os
 tape:w'.tape=w.tape
 output:w'.output=w.output
 size:w.heap.size≤w'.heap.size
 block:∀ k,k < w.heap.size→k≠b→w'.heap[k]?=w.heap[k]?
theorem Kp.refl (b:Nat) (w:World):Kp b w w:=⟨rfl,rfl,rfl,Nat.le_refl _,fun _ _ _=>rfl⟩
theorem Kp.trans {b:Nat} {w w1 w2:World} (h:Kp b w w1) (k:Kp b w1 w2):Kp b w w2 :=
 ⟨k.os.trans h.os,k.tape.trans h.tape,k.output.trans h.output,Nat.le_trans h.size k.size,fun i hi hb=>(k.block i (Nat.lt_of_lt_of_le hi h.size) hb).trans (h.block i hi hb)⟩
theorem Kp.drew {b:Nat} {w w1:World} (h:Kp b w w1):Kp b w w1.drew:=⟨h.os,h.tape,h.output,h.size,h.block⟩
theorem Kp.below {b:Nat} {w w1 w2:World} (h:Kp b w w1) (k:Below w1.heap.size w1 w2):Kp b w w2 :=
 h.trans ⟨k.os,k.tape,k.output,k.size,fun i hi _=>k.block i hi⟩
theorem Kp.alloc {b:Nat} {w w1:World} (h:Kp b w w1) (o:Obj):Kp b w (w1.alloc o) :=
 h.below ((Below.refl _ _).alloc (Nat.le_refl _) _)
theorem Kp.setCell {b:Nat} {w w1:World} (h:Kp b w w1) (p:Addr) (hp:p.block=b∨w.heap.size≤p.block) (u:Value):Kp b w (w1.setCell p u) :=
 ⟨h.os,h.tape,h.output,by simpa [World.setCell] using h.size,fun i hi hb=>by
  rw[Below.heap_setCell _ _ _ _ (by rcases hp with hp | hp<;>omega)];exact h.block i hi hb⟩
theorem Kp.setB {b o:Nat} {w w1:World} (h:Kp b w w1) (u:Value):Kp b w (w1.setCell ⟨b,o,none⟩ u):=h.setCell _ (Or.inl rfl) u
theorem Kp.setN {b k o:Nat} {w w1:World} (h:Kp b w w1) (hk:w.heap.size≤k) (u:Value):Kp b w (w1.setCell ⟨k,o,none⟩ u):=h.setCell _ (Or.inr hk) u
theorem Kp.cell {b:Nat} {w w':World} (h:Kp b w w') {k o:Nat} (hk:k < w.heap.size) (hb:k≠b):w'.cell? ⟨k,o,none⟩=w.cell? ⟨k,o,none⟩:=World.cell?_of_block (w:=w) (h.block k hk hb)
theorem Kp.qbg {b B:Nat} {w w':World} (h:Kp b w w') (hB:B≤b) (hs:B≤w.heap.size):Below B w w':=⟨h.os,h.tape,h.output,h.size,fun k hk=>h.block k (by omega) (by omega)⟩
theorem lt_of_cell {w:World} {b o:Nat} {v:Value} (h:w.cell? ⟨b,o,none⟩=some v):b < w.heap.size:=by
 rcases Nat.lt_or_ge b w.heap.size with hb | hb
 ·exact hb
 ·have:w.heap[b]?=none:=by simp[hb]
  simp[World.cell?,this] at h
theorem qau {w:World} {k:Nat} {a b c d:Value} {t:TypeId} (h:w.heap[k]?=some (.cells #[a,b,c,d] t)) :
  w.cell? ⟨k,0,none⟩=some a∧w.cell? ⟨k,1,none⟩=some b∧w.cell? ⟨k,2,none⟩=some c∧w.cell? ⟨k,3,none⟩=some d∧∀ o,w.frozen? ⟨k,o,none⟩=false:=by
 refine ⟨?_,?_,?_,?_,?_⟩<;>simp[World.cell?,World.frozen?,h]
theorem zrb {w W w1:World} {o p:Obj} (hW:W.heap=(w.heap.push o).push p) (h:Below W.heap.size W w1):w1.heap[w.heap.size]?=some o∧w1.heap[w.heap.size+1]?=some p:=by
 have e0:W.heap.size=w.heap.size+2:=by rw[hW];simp
 constructor
 ·rw[h.block _ (by omega),hW,Array.getElem?_push,if_neg (by simp),Array.getElem?_push,if_pos rfl]
 ·rw[h.block _ (by omega),hW,Array.getElem?_push,if_pos (by simp)]
theorem qgr {b:Nat} {w w1:World} {o:Obj} (h:Kp b (w.alloc o) w1) (hb:b < w.heap.size):w1.heap[w.heap.size]?=some o:=by
 rw[h.block _ (by simp) (by omega)]
 show (w.heap.push o)[w.heap.size]?=some o
 rw[Array.getElem?_push,if_pos rfl]
theorem Kp.qdo {b:Nat} {w w1:World} {o:Obj} (h:Kp b (w.alloc o) w1):Kp b w w1:=((Kp.refl b w).alloc o).trans h
namespace Px
def onB (s:ByteArray) (t:Tok) (x:ByteArray):Bool:=t.k == 107 && (s.extract t.a t.b).toList == x.toList
def qdg (nest deep:Int) (a:Nat):Int:=if 4≤nest∧deep < 0 then a else deep
structure Ex where
 op:Nat
 n:Nat
 word:ByteArray
 pl:Nat
 own:Nat
 l:Option Ex
 r:Option Ex
structure Sm where
 op:Nat
 word:ByteArray
 pl:Nat
 ex:Option Ex
 asw:ByteArray
 asPl:Nat
 undo:ByteArray
 n:Nat
 nPl:Nat
 one:List Sm
 two:List Sm
structure Ps where
 t:Tok
 nest:Int
 deep:Int
def nx (s:ByteArray) (st:Ps):Ps:=⟨tok s st.t.b,st.nest,st.deep⟩
def dn (st:Ps):Ps:=⟨st.t,st.nest+1,qdg st.nest st.deep st.t.a⟩
def upp (st:Ps):Ps:=⟨st.t,st.nest - 1,st.deep⟩
def txt (s:ByteArray) (t:Tok):ByteArray:=s.extract t.a t.b
def valOf (l:List UInt8):Nat:=l.foldl (fun n c=>10 * n+(c.toNat - 48)) 0
def nowt:ByteArray:=⟨#[]⟩
def chain (s:ByteArray) (part:Ps→Except Nat (Ex×Ps)) (a b:UInt8):Nat→Nat→Ex→Ps→Except Nat (Ex×Ps)
 | 0,_,_,st=>.error st.t.a
 | n+1,pl,e,st =>
  if onB s st.t ⟨#[a]⟩ then
   match part (nx s st) with
   | .error p=>.error p
   | .ok (k,st')=>chain s part a b n pl ⟨a.toNat,0,nowt,pl,st.t.a,some e,some k⟩ st'
  else if onB s st.t ⟨#[b]⟩ then
   match part (nx s st) with
   | .error p=>.error p
   | .ok (k,st')=>chain s part a b n pl ⟨b.toNat,0,nowt,pl,st.t.a,some e,some k⟩ st'
  else .ok (e,st)
def row (s:ByteArray) (part:Ps→Except Nat (Ex×Ps)) (a b:UInt8) (st:Ps):Except Nat (Ex×Ps) :=
 match part st with
 | .error p=>.error p
 | .ok (e,st')=>chain s part a b (s.size+1) st.t.a e st'
def term (s:ByteArray) (atom:Ps→Except Nat (Ex×Ps)) (st:Ps):Except Nat (Ex×Ps):=row s atom 42 47 st
def sum (s:ByteArray) (atom:Ps→Except Nat (Ex×Ps)) (st:Ps):Except Nat (Ex×Ps):=row s (term s atom) 43 45 st
def qec (s:ByteArray) (t:Tok):Option Nat:=if onB s t ⟨#[60]⟩ then some 60 else if onB s t ⟨#[61]⟩ then some 61 else if onB s t ⟨#[35]⟩ then some 35 else none
def expr (s:ByteArray) (atom:Ps→Except Nat (Ex×Ps)) (st:Ps):Except Nat (Ex×Ps) :=
 match sum s atom st with
 | .error p=>.error p
 | .ok (e,st1) =>
  match qec s st1.t with
  | none=>.ok (e,st1)
  | some o =>
   match sum s atom (nx s st1) with
   | .error p=>.error p
   | .ok (k,st2)=>.ok (⟨o,0,nowt,st.t.a,st1.t.a,some e,some k⟩,st2)
def leaf (op n:Nat) (w:ByteArray) (a:Nat):Ex:=⟨op,n,w,a,a,none,none⟩
def atom (s:ByteArray):Nat→Ps→Except Nat (Ex×Ps)
 | 0,st=>.error st.t.a
 | n+1,st =>
  if st.t.k=110 then .ok (leaf 110 (valOf (txt s st.t).toList) nowt st.t.a,nx s st)
  else if st.t.k=119 then .ok (leaf 119 0 (txt s st.t) st.t.a,nx s st)
  else if onB s st.t ⟨#[116,114,117,101]⟩ then .ok (leaf 116 1 nowt st.t.a,nx s st)
  else if onB s st.t ⟨#[102,97,108,115,101]⟩ then .ok (leaf 116 0 nowt st.t.a,nx s st)
  else if onB s st.t ⟨#[110,111,116]⟩ then
   match atom s n (nx s st) with
   | .error p=>.error p
   | .ok (k,st')=>.ok (⟨33,0,nowt,st.t.a,st.t.a,some k,none⟩,st')
  else if onB s st.t ⟨#[40]⟩ then
   match expr s (atom s n) (nx s (dn st)) with
   | .error p=>.error p
   | .ok (e,st')=>if onB s st'.t ⟨#[41]⟩ then .ok ({ e with pl:=st.t.a },upp (nx s st')) else .error st'.t.a
  else .error st.t.a
def qa4 (s:ByteArray) (st:Ps):Except Nat (Ex×Ps):=expr s (atom s (s.size+1)) st
def need (s:ByteArray) (x:ByteArray) (st:Ps):Except Nat Ps:=if onB s st.t x then .ok (nx s st) else .error st.t.a
def kind (s:ByteArray) (k:Nat) (st:Ps):Except Nat Ps:=if st.t.k=k then .ok (nx s st) else .error st.t.a
def stmts (s:ByteArray) (stmt:Ps→Except Nat (Sm×Ps)) (stop:Ps→Bool):Nat→List Sm→Ps→Except Nat (List Sm×Ps)
 | 0,_,st=>.error st.t.a
 | n+1,l,st =>
  if stop st then .ok (l,st) else
   match stmt st with
   | .error p=>.error p
   | .ok (x,st')=>stmts s stmt stop n (l++[x]) st'
def block (s:ByteArray) (stmt:Ps→Except Nat (Sm×Ps)) (st:Ps):Except Nat (List Sm×Ps) :=
 if onB s st.t ⟨#[123]⟩ then
  match stmts s stmt (fun st=>onB s st.t ⟨#[125]⟩) (s.size+1) [] (nx s (dn st)) with
  | .error p=>.error p
  | .ok (l,st')=>.ok (l,upp (nx s st'))
 else .error st.t.a
def qa8:Sm:=⟨0,nowt,0,none,nowt,0,nowt,0,0,[],[]⟩
def qa9 (s:ByteArray) (x:Sm) (st:Ps):Except Nat (Sm×Ps) :=
 if onB s st.t ⟨#[97,115]⟩ then
  match kind s 119 (nx s st) with
  | .error p=>.error p
  | .ok st'=>.ok ({ x with asw:=txt s (nx s st).t,asPl:=(nx s st).t.a },st')
 else .ok (x,st)
def qat (s:ByteArray) (x:Sm) (st:Ps):Except Nat (Sm×Ps) :=
 if onB s st.t ⟨#[117,110,100,111]⟩ then
  match kind s 119 (nx s st) with
  | .error p=>.error p
  | .ok st'=>.ok ({ x with undo:=txt s (nx s st).t },st')
 else .ok (x,st)
def qas (s:ByteArray) (x:Sm) (st:Ps):Except Nat (Sm×Ps) :=
 if onB s st.t ⟨#[116,114,105,101,115]⟩ then
  match kind s 110 (nx s st) with
  | .error p=>.error p
  | .ok st'=>.ok ({ x with n:=valOf (txt s (nx s st).t).toList,nPl:=(nx s st).t.a },st')
 else .ok (x,st)
def qaw (s:ByteArray) (x:Sm) (st:Ps):Except Nat (Sm×Ps) :=
 if onB s st.t ⟨#[41]⟩ then .ok (x,st) else
  match qa4 s st with
  | .error p=>.error p
  | .ok (e,st')=>.ok ({ x with ex:=some e },st')
def call (s:ByteArray) (st:Ps):Except Nat (Sm×Ps) :=
 match kind s 119 st with
 | .error p=>.error p
 | .ok st1 =>
 match need s ⟨#[40]⟩ st1 with
 | .error p=>.error p
 | .ok st2 =>
 match qaw s { qa8 with op:=99,word:=txt s st.t,pl:=st.t.a,n:=1 } st2 with
 | .error p=>.error p
 | .ok (x3,st3) =>
 match need s ⟨#[41]⟩ st3 with
 | .error p=>.error p
 | .ok st4 =>
 match qa9 s x3 st4 with
 | .error p=>.error p
 | .ok (x5,st5) =>
 match qat s x5 st5 with
 | .error p=>.error p
 | .ok (x6,st6) =>
 match qas s x6 st6 with
 | .error p=>.error p
 | .ok (x7,st7) =>
 match need s ⟨#[59]⟩ st7 with
 | .error p=>.error p
 | .ok st8=>.ok (x7,st8)
def letS (s:ByteArray) (st:Ps):Except Nat (Sm×Ps) :=
 match kind s 119 st with
 | .error p=>.error p
 | .ok st1 =>
 match need s ⟨#[61]⟩ st1 with
 | .error p=>.error p
 | .ok st2 =>
 match qa4 s st2 with
 | .error p=>.error p
 | .ok (e,st3) =>
 match need s ⟨#[59]⟩ st3 with
 | .error p=>.error p
 | .ok st4=>.ok ({ qa8 with op:=108,word:=txt s st.t,pl:=st.t.a,ex:=some e },st4)
def ifS (s:ByteArray) (stmt:Ps→Except Nat (Sm×Ps)) (st:Ps):Except Nat (Sm×Ps) :=
 match qa4 s st with
 | .error p=>.error p
 | .ok (e,st1) =>
 match block s stmt st1 with
 | .error p=>.error p
 | .ok (l,st2) =>
 if onB s st2.t ⟨#[101,108,115,101]⟩ then
  match block s stmt (nx s st2) with
  | .error p=>.error p
  | .ok (m,st3)=>.ok ({ qa8 with op:=105,ex:=some e,one:=l,two:=m },st3)
 else .ok ({ qa8 with op:=105,ex:=some e,one:=l },st2)
def tryS (s:ByteArray) (stmt:Ps→Except Nat (Sm×Ps)) (st:Ps):Except Nat (Sm×Ps) :=
 match block s stmt st with
 | .error p=>.error p
 | .ok (l,st1) =>
 match need s ⟨#[101,108,115,101]⟩ st1 with
 | .error p=>.error p
 | .ok st2 =>
 match block s stmt st2 with
 | .error p=>.error p
 | .ok (m,st3)=>.ok ({ qa8 with op:=116,one:=l,two:=m },st3)
def qbu (s:ByteArray) (stmt:Ps→Except Nat (Sm×Ps)) (st:Ps):Except Nat (Sm×Ps) :=
 match kind s 110 st with
 | .error p=>.error p
 | .ok st1 =>
 match block s stmt st1 with
 | .error p=>.error p
 | .ok (l,st2)=>.ok ({ qa8 with op:=114,n:=valOf (txt s st.t).toList,nPl:=st.t.a,one:=l },st2)
def qig (s:ByteArray) (st:Ps):Except Nat (Sm×Ps) :=
 match need s ⟨#[102,97,105,108]⟩ st with
 | .error p=>.error p
 | .ok st1 =>
 match need s ⟨#[59]⟩ st1 with
 | .error p=>.error p
 | .ok st2=>.ok ({ qa8 with op:=102 },st2)
def stmt (s:ByteArray):Nat→Ps→Except Nat (Sm×Ps)
 | 0,st=>.error st.t.a
 | n+1,st =>
  if onB s st.t ⟨#[108,101,116]⟩ then letS s (nx s st)
  else if onB s st.t ⟨#[99,97,108,108]⟩ then call s (nx s st)
  else if onB s st.t ⟨#[105,102]⟩ then ifS s (stmt s n) (nx s st)
  else if onB s st.t ⟨#[116,114,121]⟩ then tryS s (stmt s n) (nx s st)
  else if onB s st.t ⟨#[114,101,112,101,97,116]⟩ then qbu s (stmt s n) (nx s st)
  else qig s st
def read (s:ByteArray):Except (Nat×Nat) (List Sm) :=
 if 300 < s.size then .error (1,0) else
  match stmts s (stmt s (s.size+1)) (fun st=>st.t.k == 0) (s.size+1) [] ⟨tok s 0,0,-1⟩ with
  | .error p=>.error (2,p)
  | .ok (l,st)=>if 0≤st.deep then .error (3,st.deep.toNat) else .ok l
theorem qsp {p:UInt8→Bool} {s:ByteArray} {i:Nat} (h:i < s.size) (hp:p s[i]=true):i < qbc p s i:=by
 unfold qbc;obtain ⟨n,hn⟩:∃ n,s.size - i=n+1:=⟨s.size - i - 1,by omega⟩
 rw[hn,qg2,dif_pos h,if_pos hp]
 have:=qzt p s n (i+1)
 omega
structure Tk (s:ByteArray) (t:Tok):Prop where
 ab:t.a≤t.b
 le:t.b≤s.size
 lt:t.k≠0→t.k≠63→t.a < t.b
 kinds:t.k=0∨t.k=63∨t.k=107∨t.k=110∨t.k=119
 fin:t.k=0→t.a=s.size
 num:t.k=110→t.b - t.a≤4∧∀ j (hj:j < s.size),t.a≤j→j < t.b→qba s[j]=true
theorem zk5 (s:ByteArray) (a:Nat) (ha:a≤s.size):Tk s (qev s a)∧a≤(qev s a).a:=by
 by_cases h:a < s.size
 ·cases hs:qal s[a]
  ·cases hd:qba s[a]
   ·cases hm:qd9 s[a]
    ·rw[qgl h hs hd hm];exact ⟨⟨by simp,by simp;omega,by simp,by simp,by simp,by simp⟩,by simp⟩
    ·rw[qfe h hs hd hm];exact ⟨⟨by simp,by simp;omega,by simp,by simp,by simp,by simp⟩,by simp⟩
   ·by_cases hl:4 < qbc qba s a - a
    ·rw[qfg h hs hd rfl hl];exact ⟨⟨by simp,by simp;omega,by simp,by simp,by simp,by simp⟩,by simp⟩
    ·rw[qfw h hs hd rfl hl];have g:=qsp h hd;have l:=qdz qba s a ha;exact ⟨⟨by simp;omega,by simpa using l,by intro _ _;exact g,by simp,by simp,by intro _;exact ⟨by simp;omega,fun j hj h1 h2=>qhq qba s _ a j hj h1 h2⟩⟩,by simp⟩
  ·have g:=qsp h hs;have l:=qdz qal s a ha;cases hk:qcf (s.extract a (qbc qal s a)).toList
   ·by_cases hl:8 < qbc qal s a - a
    ·rw[qff h hs rfl hk hl];exact ⟨⟨by simp,by simp;omega,by simp,by simp,by simp,by simp⟩,by simp⟩
    ·rw[qeq h hs rfl hk hl];exact ⟨⟨by simp;omega,by simpa using l,by intro _ _;exact g,by simp,by simp,by simp⟩,by simp⟩
   ·rw[qer h hs rfl hk];exact ⟨⟨by simp;omega,by simpa using l,by intro _ _;exact g,by simp,by simp,by simp⟩,by simp⟩
 ·rw[qgo h];exact ⟨⟨by simp,by simp,by simp,by simp,by simp,by simp⟩,by simpa using ha⟩
theorem qfv (s:ByteArray) (i:Nat) (hi:i≤s.size):Tk s (tok s i)∧i≤(tok s i).a:=by
 have h:=zk5 s (qbc qbi s i) (qdz _ _ _ hi);have g:=qla qbi s i;exact ⟨h.1,Nat.le_trans g h.2⟩
theorem qjc {s:ByteArray} {t:Tok} {x:ByteArray} (h:onB s t x=true):t.k=107:=by
 unfold onB at h;simp at h;exact h.1
theorem qnn {s:ByteArray} {st:Ps} (h:Tk s st.t):Tk s (nx s st).t:=(qfv s st.t.b h.le).1
theorem nx_lt {s:ByteArray} {st:Ps} (h:Tk s st.t) (h0:st.t.k≠0) (h1:st.t.k≠63):st.t.a < (nx s st).t.a:=Nat.lt_of_lt_of_le (h.lt h0 h1) (qfv s st.t.b h.le).2
structure Good (s:ByteArray) (st st':Ps):Prop where
 tk:Tk s st'.t
 lt:st.t.a < st'.t.a
 nest:st'.nest=st.nest
theorem Good.trans {s:ByteArray} {a b c:Ps} (h:Good s a b) (k:Good s b c):Good s a c:=⟨k.tk,Nat.lt_trans h.lt k.lt,k.nest.trans h.nest⟩
theorem qe5 {s:ByteArray} {st:Ps} (h:Tk s st.t) (h0:st.t.k≠0) (h1:st.t.k≠63):Good s st (nx s st):=⟨qnn h,nx_lt h h0 h1,rfl⟩
theorem qaf {s x:ByteArray} {st:Ps} (h:Tk s st.t) (ho:onB s st.t x=true):Good s st (nx s st):=qe5 h (by rw[qjc ho];decide) (by rw[qjc ho];decide)
def Goes {α:Type} (s:ByteArray) (g:Ps→Except Nat (α×Ps)):Prop:=∀ st x st',Tk s st.t→g st=.ok (x,st')→Good s st st'
theorem zdt {s:ByteArray} {g:Ps→Except Nat (Ex×Ps)} (hg:Goes s g) (a b:UInt8) (n:Nat):∀ (pl:Nat) (e:Ex) (st:Ps) (x:Ex) (st':Ps),Tk s st.t→chain s g a b n pl e st=.ok (x,st')→Tk s st'.t∧st.t.a≤st'.t.a∧st'.nest=st.nest:=by
 induction n with
 | zero=>intro pl e st x st' _ h;simp[chain] at h
 | succ n ih =>
  intro pl e st x st' ht h;rw[chain] at h;by_cases ha:onB s st.t ⟨#[a]⟩=true
  ·rw[if_pos ha] at h;have g1:=qaf ht ha;cases hp:g (nx s st) with
   | error p=>rw[hp] at h;cases h
   | ok r =>
    obtain ⟨k,st1⟩:=r;rw[hp] at h;have g2:=g1.trans (hg _ _ _ g1.tk hp);obtain ⟨i1,i2,i3⟩:=ih _ _ _ _ _ g2.tk h;exact ⟨i1,by have:=g2.lt;omega,by rw[i3,g2.nest]⟩
  ·rw[if_neg ha] at h;by_cases hb:onB s st.t ⟨#[b]⟩=true
   ·rw[if_pos hb] at h;have g1:=qaf ht hb;cases hp:g (nx s st) with
    | error p=>rw[hp] at h;cases h
    | ok r =>
     obtain ⟨k,st1⟩:=r;rw[hp] at h;have g2:=g1.trans (hg _ _ _ g1.tk hp);obtain ⟨i1,i2,i3⟩:=ih _ _ _ _ _ g2.tk h;exact ⟨i1,by have:=g2.lt;omega,by rw[i3,g2.nest]⟩
   ·rw[if_neg hb] at h;cases h;exact ⟨ht,Nat.le_refl _,rfl⟩
theorem qzw {s:ByteArray} {g:Ps→Except Nat (Ex×Ps)} (hg:Goes s g) (a b:UInt8):Goes s (row s g a b):=by
 intro st x st' ht h;unfold row at h;cases hp:g st with
 | error p=>rw[hp] at h;cases h
 | ok r =>
  obtain ⟨e,st1⟩:=r;rw[hp] at h;have g1:=hg _ _ _ ht hp;obtain ⟨i1,i2,i3⟩:=zdt hg a b _ _ _ _ _ _ g1.tk h;exact ⟨i1,by have:=g1.lt;omega,by rw[i3,g1.nest]⟩
theorem qgp {s:ByteArray} {g:Ps→Except Nat (Ex×Ps)} (hg:Goes s g):Goes s (term s g):=qzw hg _ _
theorem qgb {s:ByteArray} {g:Ps→Except Nat (Ex×Ps)} (hg:Goes s g):Goes s (sum s g):=qzw (qgp hg) _ _
theorem qm5 {s:ByteArray} {t:Tok} {o:Nat} (h:qec s t=some o):t.k=107:=by
 unfold qec at h;split at h
 ·rename_i h1;exact qjc h1
 ·split at h
  ·rename_i h1;exact qjc h1
  ·split at h
   ·rename_i h1;exact qjc h1
   ·cases h
theorem qf3 {s:ByteArray} {g:Ps→Except Nat (Ex×Ps)} (hg:Goes s g):Goes s (expr s g):=by
 intro st x st' ht h;unfold expr at h;cases hp:sum s g st with
 | error p=>rw[hp] at h;cases h
 | ok r =>
  obtain ⟨e,st1⟩:=r;rw[hp] at h;have g1:=qgb hg _ _ _ ht hp;simp only at h;cases hc:qec s st1.t with
  | none=>rw[hc] at h;cases h;exact g1
  | some o =>
   rw[hc] at h;have g2:=g1.trans (qe5 g1.tk (by rw[qm5 hc];decide) (by rw[qm5 hc];decide))
   simp only at h;cases hq:sum s g (nx s st1) with
   | error p=>rw[hq] at h;cases h
   | ok r2 =>
    obtain ⟨k,st2⟩:=r2;rw[hq] at h;cases h;exact g2.trans (qgb hg _ _ _ g2.tk hq)
theorem qbj (s:ByteArray) (n:Nat):Goes s (atom s n):=by
 induction n with
 | zero=>intro st x st' _ h;simp[atom] at h
 | succ n ih =>
  intro st x st' ht h;rw[atom] at h;split at h
  ·rename_i hk;cases h;exact qe5 ht (by omega) (by omega)
  ·split at h
   ·rename_i hk;cases h;exact qe5 ht (by omega) (by omega)
   ·split at h
    ·rename_i hk;cases h;exact qaf ht hk
    ·split at h
     ·rename_i hk;cases h;exact qaf ht hk
     ·split at h
      ·rename_i hk;have g1:=qaf ht hk;cases hp:atom s n (nx s st) with
       | error p=>rw[hp] at h;cases h
       | ok r =>
        obtain ⟨k,st1⟩:=r;rw[hp] at h;cases h;exact g1.trans (ih _ _ _ g1.tk hp)
      ·split at h
       ·rename_i hk;have g1:=qaf ht hk;cases hp:expr s (atom s n) (nx s (dn st)) with
        | error p=>rw[hp] at h;cases h
        | ok r =>
         obtain ⟨k,st1⟩:=r;rw[hp] at h;simp only at h;have g2:=qf3 ih _ _ _ (show Tk s (nx s (dn st)).t from g1.tk) hp;split at h
         ·rename_i hc;cases h;have g3:=qaf g2.tk hc;have h1:st.t.a < (nx s (dn st)).t.a:=g1.lt;have h2:=g2.lt;have h3:=g3.lt;refine ⟨g3.tk,?_,?_⟩
          ·show st.t.a < (nx s st1).t.a;omega
          ·show st1.nest - 1=st.nest
           rw[g2.nest];show st.nest+1 - 1=st.nest;omega
         ·cases h
       ·cases h
theorem qav {s x:ByteArray} {st st':Ps} (ht:Tk s st.t) (h:need s x st=.ok st'):Good s st st':=by
 unfold need at h;split at h
 ·rename_i ho;cases h;exact qaf ht ho
 ·cases h
theorem qa6 {s:ByteArray} {k:Nat} {st st':Ps} (ht:Tk s st.t) (hk:k≠0) (hk':k≠63) (h:kind s k st=.ok st'):Good s st st':=by
 unfold kind at h;split at h
 ·rename_i ho;cases h;exact qe5 ht (by omega) (by omega)
 ·cases h
theorem qbb (s:ByteArray):Goes s (qa4 s):=qf3 (qbj s _)
structure Good0 (s:ByteArray) (st st':Ps):Prop where
 tk:Tk s st'.t
 le:st.t.a≤st'.t.a
 nest:st'.nest=st.nest
theorem Good.zero {s:ByteArray} {a b:Ps} (h:Good s a b):Good0 s a b:=⟨h.tk,Nat.le_of_lt h.lt,h.nest⟩
theorem Good0.trans {s:ByteArray} {a b c:Ps} (h:Good0 s a b) (k:Good0 s b c):Good0 s a c:=⟨k.tk,Nat.le_trans h.le k.le,k.nest.trans h.nest⟩
theorem Good.zk6 {s:ByteArray} {a b c:Ps} (h:Good s a b) (k:Good0 s b c):Good s a c:=⟨k.tk,Nat.lt_of_lt_of_le h.lt k.le,k.nest.trans h.nest⟩
theorem Good0.refl {s:ByteArray} {a:Ps} (h:Tk s a.t):Good0 s a a:=⟨h,Nat.le_refl _,rfl⟩
theorem qcs {s:ByteArray} {g:Ps→Except Nat (Sm×Ps)} (hg:Goes s g) (stop:Ps→Bool) (n:Nat):∀ (l:List Sm) (st:Ps) (x:List Sm) (st':Ps),Tk s st.t→stmts s g stop n l st=.ok (x,st')→Good0 s st st'∧stop st'=true:=by
 induction n with
 | zero=>intro l st x st' _ h;simp[stmts] at h
 | succ n ih =>
  intro l st x st' ht h;rw[stmts] at h;split at h
  ·rename_i hs;cases h;exact ⟨Good0.refl ht,hs⟩
  ·cases hp:g st with
   | error p=>rw[hp] at h;cases h
   | ok r =>
    obtain ⟨k,st1⟩:=r;rw[hp] at h;have g1:=hg _ _ _ ht hp;obtain ⟨i1,i2⟩:=ih _ _ _ _ g1.tk h;exact ⟨g1.zero.trans i1,i2⟩
theorem qa0 {s:ByteArray} {g:Ps→Except Nat (Sm×Ps)} (hg:Goes s g):Goes s (block s g):=by
 intro st x st' ht h;unfold block at h;split at h
 ·rename_i ho;have g1:=qaf ht ho;cases hp:stmts s g (fun st=>onB s st.t ⟨#[125]⟩) (s.size+1) [] (nx s (dn st)) with
  | error p=>rw[hp] at h;cases h
  | ok r =>
   obtain ⟨l,st1⟩:=r;rw[hp] at h;cases h;obtain ⟨g2,hs⟩:=qcs hg _ _ _ _ _ _ (show Tk s (nx s (dn st)).t from g1.tk) hp;have g3:=qaf g2.tk hs;have h1:st.t.a < (nx s (dn st)).t.a:=g1.lt;have h2:=g2.le;have h3:=g3.lt;refine ⟨g3.tk,?_,?_⟩
   ·show st.t.a < (nx s st1).t.a;omega
   ·show st1.nest - 1=st.nest
    rw[g2.nest];show st.nest+1 - 1=st.nest;omega
 ·cases h
theorem zhn (s:ByteArray):Goes s (letS s):=by
 intro st x st' ht h;unfold letS at h;cases h1:kind s 119 st with
 | error p=>rw[h1] at h;cases h
 | ok st1 =>
  rw[h1] at h;simp only at h;have g1:=qa6 ht (by decide) (by decide) h1
  cases h2:need s ⟨#[61]⟩ st1 with
  | error p=>rw[h2] at h;cases h
  | ok st2 =>
   rw[h2] at h;simp only at h;have g2:=g1.trans (qav g1.tk h2);cases h3:qa4 s st2 with
   | error p=>rw[h3] at h;cases h
   | ok r =>
    obtain ⟨e,st3⟩:=r;rw[h3] at h;simp only at h;have g3:=g2.trans (qbb s _ _ _ g2.tk h3);cases h4:need s ⟨#[59]⟩ st3 with
    | error p=>rw[h4] at h;cases h
    | ok st4 =>
     rw[h4] at h;cases h;exact g3.trans (qav g3.tk h4)
theorem qfo {s:ByteArray} {x:Sm} {st:Ps} {y:Sm} {st':Ps} (ht:Tk s st.t) (h:qa9 s x st=.ok (y,st')):Good0 s st st':=by
 unfold qa9 at h;split at h
 ·rename_i ho;have g1:=qaf ht ho;cases h1:kind s 119 (nx s st) with
  | error p=>rw[h1] at h;cases h
  | ok st1=>rw[h1] at h;cases h;exact (g1.trans (qa6 g1.tk (by decide) (by decide) h1)).zero
 ·cases h;exact Good0.refl ht
theorem qe6 {s:ByteArray} {x:Sm} {st:Ps} {y:Sm} {st':Ps} (ht:Tk s st.t) (h:qat s x st=.ok (y,st')):Good0 s st st':=by
 unfold qat at h;split at h
 ·rename_i ho;have g1:=qaf ht ho;cases h1:kind s 119 (nx s st) with
  | error p=>rw[h1] at h;cases h
  | ok st1=>rw[h1] at h;cases h;exact (g1.trans (qa6 g1.tk (by decide) (by decide) h1)).zero
 ·cases h;exact Good0.refl ht
theorem qeh {s:ByteArray} {x:Sm} {st:Ps} {y:Sm} {st':Ps} (ht:Tk s st.t) (h:qas s x st=.ok (y,st')):Good0 s st st':=by
 unfold qas at h;split at h
 ·rename_i ho;have g1:=qaf ht ho;cases h1:kind s 110 (nx s st) with
  | error p=>rw[h1] at h;cases h
  | ok st1=>rw[h1] at h;cases h;exact (g1.trans (qa6 g1.tk (by decide) (by decide) h1)).zero
 ·cases h;exact Good0.refl ht
theorem qet {s:ByteArray} {x:Sm} {st:Ps} {y:Sm} {st':Ps} (ht:Tk s st.t) (h:qaw s x st=.ok (y,st')):Good0 s st st':=by
 unfold qaw at h;split at h
 ·cases h;exact Good0.refl ht
 ·cases h1:qa4 s st with
  | error p=>rw[h1] at h;cases h
  | ok r=>obtain ⟨e,st1⟩:=r;rw[h1] at h;cases h;exact (qbb s _ _ _ ht h1).zero
theorem zjj (s:ByteArray):Goes s (call s):=by
 intro st x st' ht h;unfold call at h;cases h1:kind s 119 st with
 | error p=>rw[h1] at h;cases h
 | ok st1 =>
  rw[h1] at h;simp only at h;have g1:=qa6 ht (by decide) (by decide) h1
  cases h2:need s ⟨#[40]⟩ st1 with
  | error p=>rw[h2] at h;cases h
  | ok st2 =>
   rw[h2] at h;simp only at h;have g2:=g1.trans (qav g1.tk h2);cases h3:qaw s { qa8 with op:=99,word:=txt s st.t,pl:=st.t.a,n:=1 } st2 with
   | error p=>rw[h3] at h;cases h
   | ok r3 =>
    obtain ⟨x3,st3⟩:=r3;rw[h3] at h;simp only at h;have g3:=g2.zk6 (qet g2.tk h3);cases h4:need s ⟨#[41]⟩ st3 with
    | error p=>rw[h4] at h;cases h
    | ok st4 =>
     rw[h4] at h;simp only at h;have g4:=g3.trans (qav g3.tk h4);cases h5:qa9 s x3 st4 with
     | error p=>rw[h5] at h;cases h
     | ok r5 =>
      obtain ⟨x5,st5⟩:=r5;rw[h5] at h;simp only at h;have g5:=g4.zk6 (qfo g4.tk h5);cases h6:qat s x5 st5 with
      | error p=>rw[h6] at h;cases h
      | ok r6 =>
       obtain ⟨x6,st6⟩:=r6;rw[h6] at h;simp only at h;have g6:=g5.zk6 (qe6 g5.tk h6);cases h7:qas s x6 st6 with
       | error p=>rw[h7] at h;cases h
       | ok r7 =>
        obtain ⟨x7,st7⟩:=r7;rw[h7] at h;simp only at h;have g7:=g6.zk6 (qeh g6.tk h7);cases h8:need s ⟨#[59]⟩ st7 with
        | error p=>rw[h8] at h;cases h
        | ok st8=>rw[h8] at h;cases h;exact g7.trans (qav g7.tk h8)
theorem zoa {s:ByteArray} {g:Ps→Except Nat (Sm×Ps)} (hg:Goes s g):Goes s (ifS s g):=by
 intro st x st' ht h;unfold ifS at h;cases h1:qa4 s st with
 | error p=>rw[h1] at h;cases h
 | ok r =>
  obtain ⟨e,st1⟩:=r;rw[h1] at h;simp only at h;have g1:=qbb s _ _ _ ht h1;cases h2:block s g st1 with
  | error p=>rw[h2] at h;cases h
  | ok r =>
   obtain ⟨l,st2⟩:=r;rw[h2] at h;simp only at h;have g2:=g1.trans (qa0 hg _ _ _ g1.tk h2);split at h
   ·rename_i ho;have g3:=g2.trans (qaf g2.tk ho);cases h4:block s g (nx s st2) with
    | error p=>rw[h4] at h;cases h
    | ok r=>obtain ⟨m,st3⟩:=r;rw[h4] at h;cases h;exact g3.trans (qa0 hg _ _ _ g3.tk h4)
   ·cases h;exact g2
theorem zes {s:ByteArray} {g:Ps→Except Nat (Sm×Ps)} (hg:Goes s g):Goes s (tryS s g):=by
 intro st x st' ht h;unfold tryS at h;cases h1:block s g st with
 | error p=>rw[h1] at h;cases h
 | ok r =>
  obtain ⟨l,st1⟩:=r;rw[h1] at h;simp only at h;have g1:=qa0 hg _ _ _ ht h1;cases h2:need s ⟨#[101,108,115,101]⟩ st1 with
  | error p=>rw[h2] at h;cases h
  | ok st2 =>
   rw[h2] at h;simp only at h;have g2:=g1.trans (qav g1.tk h2);cases h3:block s g st2 with
   | error p=>rw[h3] at h;cases h
   | ok r=>obtain ⟨m,st3⟩:=r;rw[h3] at h;cases h;exact g2.trans (qa0 hg _ _ _ g2.tk h3)
theorem qvm {s:ByteArray} {g:Ps→Except Nat (Sm×Ps)} (hg:Goes s g):Goes s (qbu s g):=by
 intro st x st' ht h;unfold qbu at h;cases h1:kind s 110 st with
 | error p=>rw[h1] at h;cases h
 | ok st1 =>
  rw[h1] at h;simp only at h;have g1:=qa6 ht (by decide) (by decide) h1
  cases h2:block s g st1 with
  | error p=>rw[h2] at h;cases h
  | ok r=>obtain ⟨m,st3⟩:=r;rw[h2] at h;cases h;exact g1.trans (qa0 hg _ _ _ g1.tk h2)
theorem zdg (s:ByteArray):Goes s (qig s):=by
 intro st x st' ht h;unfold qig at h;cases h1:need s ⟨#[102,97,105,108]⟩ st with
 | error p=>rw[h1] at h;cases h
 | ok st1 =>
  rw[h1] at h;simp only at h;have g1:=qav ht h1;cases h2:need s ⟨#[59]⟩ st1 with
  | error p=>rw[h2] at h;cases h
  | ok st2=>rw[h2] at h;cases h;exact g1.trans (qav g1.tk h2)
theorem qam (s:ByteArray) (n:Nat):Goes s (stmt s n):=by
 induction n with
 | zero=>intro st x st' _ h;simp[stmt] at h
 | succ n ih =>
  intro st x st' ht h;rw[stmt] at h;split at h
  ·rename_i ho;have g1:=qaf ht ho;exact g1.trans (zhn s _ _ _ g1.tk h)
  ·split at h
   ·rename_i ho;have g1:=qaf ht ho;exact g1.trans (zjj s _ _ _ g1.tk h)
   ·split at h
    ·rename_i ho;have g1:=qaf ht ho;exact g1.trans (zoa ih _ _ _ g1.tk h)
    ·split at h
     ·rename_i ho;have g1:=qaf ht ho;exact g1.trans (zes ih _ _ _ g1.tk h)
     ·split at h
      ·rename_i ho;have g1:=qaf ht ho;exact g1.trans (qvm ih _ _ _ g1.tk h)
      ·exact zdg s _ _ _ ht h
end Px
namespace Lg
def Plc (g:Px.Ps→Except Nat (Px.Ex×Px.Ps)):Prop:=∀ st x st',g st=.ok (x,st')→x.pl=st.t.a
theorem zjd {s:ByteArray} {g:Px.Ps→Except Nat (Px.Ex×Px.Ps)} {a b:UInt8} (n:Nat):∀ (pl:Nat) (e:Px.Ex) (st:Px.Ps) (x:Px.Ex) (st':Px.Ps),e.pl=pl→Px.chain s g a b n pl e st=.ok (x,st')→x.pl=pl:=by
 induction n with
 | zero=>intro pl e st x st' _ h;simp[Px.chain] at h
 | succ n ih =>
  intro pl e st x st' he h;rw[Px.chain] at h;split at h
  ·cases hp:g (Px.nx s st) with
   | error p=>rw[hp] at h;cases h
   | ok r=>obtain ⟨k,st1⟩:=r;rw[hp] at h;exact ih pl ⟨a.toNat,0,Px.nowt,pl,st.t.a,some e,some k⟩ _ _ _ rfl h
  ·split at h
   ·cases hp:g (Px.nx s st) with
    | error p=>rw[hp] at h;cases h
    | ok r=>obtain ⟨k,st1⟩:=r;rw[hp] at h;exact ih pl ⟨b.toNat,0,Px.nowt,pl,st.t.a,some e,some k⟩ _ _ _ rfl h
   ·cases h;exact he
theorem zfn {s:ByteArray} {g:Px.Ps→Except Nat (Px.Ex×Px.Ps)} (hg:Plc g) (a b:UInt8):Plc (Px.row s g a b):=by
 intro st x st' h;unfold Px.row at h;cases hp:g st with
 | error p=>rw[hp] at h;cases h
 | ok r=>obtain ⟨e,st1⟩:=r;rw[hp] at h;exact zjd _ _ _ _ _ _ (hg _ _ _ hp) h
theorem zon {s:ByteArray} {g:Px.Ps→Except Nat (Px.Ex×Px.Ps)} (hg:Plc g):Plc (Px.expr s g):=by
 intro st x st' h;unfold Px.expr at h;cases hp:Px.sum s g st with
 | error p=>rw[hp] at h;cases h
 | ok r =>
  obtain ⟨e,st1⟩:=r;rw[hp] at h;simp only at h;cases hc:Px.qec s st1.t with
  | none=>rw[hc] at h;cases h;exact zfn (zfn hg _ _) _ _ _ _ _ hp
  | some o =>
   rw[hc] at h;simp only at h;cases hq:Px.sum s g (Px.nx s st1) with
   | error p=>rw[hq] at h;cases h
   | ok r2=>obtain ⟨k,st2⟩:=r2;rw[hq] at h;cases h;rfl
theorem zpa (s:ByteArray) (n:Nat):Plc (Px.atom s n):=by
 intro st x st' h;cases n with
 | zero=>simp[Px.atom] at h
 | succ n =>
  rw[Px.atom] at h;split at h
  ·cases h;rfl
  ·split at h
   ·cases h;rfl
   ·split at h
    ·cases h;rfl
    ·split at h
     ·cases h;rfl
     ·split at h
      ·cases hp:Px.atom s n (Px.nx s st) with
       | error p=>rw[hp] at h;cases h
       | ok r=>obtain ⟨k,st1⟩:=r;rw[hp] at h;cases h;rfl
      ·split at h
       ·cases hp:Px.expr s (Px.atom s n) (Px.nx s (Px.dn st)) with
        | error p=>rw[hp] at h;cases h
        | ok r =>
         obtain ⟨k,st1⟩:=r;rw[hp] at h;simp only at h;split at h
         ·cases h;rfl
         ·cases h
       ·cases h
theorem qm0 (s:ByteArray):Plc (Px.qa4 s):=zon (zpa s _)
end Lg
namespace Px
structure Lk where
 vars:List (ByteArray×Nat)
 e:Nat
 pl:Nat
def say (e p:Nat) (c:Lk):Lk:=if c.e=0∨p < c.pl∨(p=c.pl∧e < c.e) then ⟨c.vars,e,p⟩ else c
def qa3 (l:List (ByteArray×Nat)) (w:ByteArray):Option Nat :=
 match l with
 | []=>none
 | (v,_)::r=>if v.toList == w.toList then some 0 else (qa3 r w).map (·+1)
def qcn (l:List (ByteArray×Nat)) (i:Nat):Nat:=(l.getD i (⟨#[]⟩,0)).2
def isK (k want:Nat):Bool:=k == want || k == 63
def qft (a b:Nat):Bool:=a != b && a != 63 && b != 63
def qpq (op:Nat) (word:ByteArray) (own:Nat) (c:Lk):Nat×Lk :=
 if op=110 then (105,c)
 else if op=116 then (98,c)
 else
  match qa3 c.vars word with
  | none=>(63,say 5 own c)
  | some i=>(qcn c.vars i,c)
def notK (own:Nat) (r:Nat×Lk):Nat×Lk:=(98,if isK r.1 98 then r.2 else say 6 own r.2)
def binK (op own a:Nat) (r:Nat×Lk):Nat×Lk :=
 if op=61∨op=35 then (98,if qft a r.1 then say 6 own r.2 else r.2)
 else (if op=60 then 98 else 105,if isK a 105 && isK r.1 105 then r.2 else say 6 own r.2)
def qao:Ex→Lk→Nat×Lk
 | ⟨op,_,word,_,own,none,_⟩,c=>qpq op word own c
 | ⟨_,_,_,_,own,some l,none⟩,c=>notK own (qao l c)
 | ⟨op,_,_,_,own,some l,some r⟩,c=>binK op own (qao l c).1 (qao r (qao l c).2)
def WfE:Ex→Prop
 | ⟨op,_,_,_,_,none,none⟩=>op=110∨op=116∨op=119
 | ⟨op,_,_,_,_,some l,none⟩=>op=33∧WfE l
 | ⟨op,_,_,_,_,some l,some r⟩=>(op=42∨op=47∨op=43∨op=45∨op=60∨op=61∨op=35)∧WfE l∧WfE r
 | ⟨_,_,_,_,_,none,some _⟩=>False
theorem WfE.place {x:Ex} (h:WfE x) (a:Nat):WfE { x with pl:=a }:=by
 match x with
 | ⟨_,_,_,_,_,none,none⟩=>exact h
 | ⟨_,_,_,_,_,some _,none⟩=>exact h
 | ⟨_,_,_,_,_,some _,some _⟩=>exact h
 | ⟨_,_,_,_,_,none,some _⟩=>exact h
def qut (g:Ps→Except Nat (Ex×Ps)):Prop:=∀ st x st',g st=.ok (x,st')→WfE x
def opB (a:UInt8):Prop:=a.toNat=42∨a.toNat=47∨a.toNat=43∨a.toNat=45∨a.toNat=60∨a.toNat=61∨a.toNat=35
theorem qyl {s:ByteArray} {g:Ps→Except Nat (Ex×Ps)} (hg:qut g) {a b:UInt8} (ha:opB a) (hb:opB b) (n:Nat):∀ (pl:Nat) (e:Ex) (st:Ps) (x:Ex) (st':Ps),WfE e→chain s g a b n pl e st=.ok (x,st')→WfE x:=by
 induction n with
 | zero=>intro pl e st x st' _ h;simp[chain] at h
 | succ n ih =>
  intro pl e st x st' he h;rw[chain] at h;split at h
  ·cases hp:g (nx s st) with
   | error p=>rw[hp] at h;cases h
   | ok r =>
    obtain ⟨k,st1⟩:=r;rw[hp] at h;exact ih pl ⟨a.toNat,0,nowt,pl,st.t.a,some e,some k⟩ _ _ _ ⟨ha,he,hg _ _ _ hp⟩ h
  ·split at h
   ·cases hp:g (nx s st) with
    | error p=>rw[hp] at h;cases h
    | ok r =>
     obtain ⟨k,st1⟩:=r;rw[hp] at h;exact ih pl ⟨b.toNat,0,nowt,pl,st.t.a,some e,some k⟩ _ _ _ ⟨hb,he,hg _ _ _ hp⟩ h
   ·cases h;exact he
theorem qvj {s:ByteArray} {g:Ps→Except Nat (Ex×Ps)} (hg:qut g) {a b:UInt8} (ha:opB a) (hb:opB b):qut (row s g a b):=by
 intro st x st' h;unfold row at h;cases hp:g st with
 | error p=>rw[hp] at h;cases h
 | ok r =>
  obtain ⟨e,st1⟩:=r;rw[hp] at h;exact qyl hg ha hb _ _ _ _ _ _ (hg _ _ _ hp) h
theorem qo4 {s:ByteArray} {g:Ps→Except Nat (Ex×Ps)} (hg:qut g):qut (sum s g) :=
 qvj (qvj hg (by unfold opB;decide) (by unfold opB;decide)) (by unfold opB;decide) (by unfold opB;decide)
theorem qrs {s:ByteArray} {g:Ps→Except Nat (Ex×Ps)} (hg:qut g):qut (expr s g):=by
 intro st x st' h;unfold expr at h;cases hp:sum s g st with
 | error p=>rw[hp] at h;cases h
 | ok r =>
  obtain ⟨e,st1⟩:=r;rw[hp] at h;simp only at h;cases hc:qec s st1.t with
  | none=>rw[hc] at h;cases h;exact qo4 hg _ _ _ hp
  | some o =>
   rw[hc] at h;simp only at h;have ho:o=60∨o=61∨o=35:=by
    unfold qec at hc;split at hc
    ·cases hc;simp
    ·split at hc
     ·cases hc;simp
     ·split at hc
      ·cases hc;simp
      ·cases hc
   cases hq:sum s g (nx s st1) with
   | error p=>rw[hq] at h;cases h
   | ok r2 =>
    obtain ⟨k,st2⟩:=r2;rw[hq] at h;cases h;exact ⟨by omega,qo4 hg _ _ _ hp,qo4 hg _ _ _ hq⟩
theorem zd6 (s:ByteArray) (n:Nat):qut (atom s n):=by
 induction n with
 | zero=>intro st x st' h;simp[atom] at h
 | succ n ih =>
  intro st x st' h;rw[atom] at h;split at h
  ·cases h;exact Or.inl rfl
  ·split at h
   ·cases h;exact Or.inr (Or.inr rfl)
   ·split at h
    ·cases h;exact Or.inr (Or.inl rfl)
    ·split at h
     ·cases h;exact Or.inr (Or.inl rfl)
     ·split at h
      ·cases hp:atom s n (nx s st) with
       | error p=>rw[hp] at h;cases h
       | ok r =>
        obtain ⟨k,st1⟩:=r;rw[hp] at h;cases h;exact ⟨rfl,ih _ _ _ hp⟩
      ·split at h
       ·cases hp:expr s (atom s n) (nx s (dn st)) with
        | error p=>rw[hp] at h;cases h
        | ok r =>
         obtain ⟨k,st1⟩:=r;rw[hp] at h;simp only at h;split at h
         ·cases h;exact (qrs ih _ _ _ hp).place _
         ·cases h
       ·cases h
theorem qjr (s:ByteArray):qut (qa4 s):=qrs (zd6 s _)
def qc7 (w:ByteArray) (p k:Nat) (c:Lk):Lk :=
 match qa3 c.vars w with
 | none=>⟨c.vars++[(w,k)],c.e,c.pl⟩
 | some i=>if qft (qcn c.vars i) k then say 6 p c else c
def qbq (x:Option Ex) (k:Nat) (c:Lk):Lk :=
 match x with
 | none=>c
 | some x=>if isK (qao x c).1 k then (qao x c).2 else say 6 x.pl (qao x c).2
def qap:List Sm→Lk→Lk
 | [],c=>c
 | ⟨op,word,pl,ex,asw,asPl,_,n,nPl,one,two⟩::rest,c =>
  qap rest (
   if op=108 then
    match ex with
    | none=>c
    | some x=>qc7 word pl (qao x c).1 (qao x c).2
   else if op=99 then
    let c1:=qbq ex 105 c
    let c2:=if asw.toList.isEmpty then c1 else qc7 asw asPl 105 c1
    if n < 1∨5 < n then say 4 nPl c2 else c2
   else if op=105 then qap two (qap one (qbq ex 98 c))
   else if op=116 then qap two (qap one c)
   else if op=114 then qap one (if 9 < n then say 4 nPl c else c)
   else c)
def check (s:ByteArray):Nat×Nat :=
 match read s with
 | .error r=>r
 | .ok l=>let c:=qap l ⟨[],0,0⟩;if c.e=0 then (0,0) else (c.e,c.pl)
def cnt:List Sm→Nat
 | []=>0
 | ⟨_,_,_,_,_,_,_,_,_,one,two⟩::rest=>1+cnt one+cnt two+cnt rest
def WfO (x:Option Ex):Prop:=∀ e,x=some e→WfE e
def WfH (x:Sm):Prop:=WfO x.ex∧((x.op=108∧x.ex≠none)∨x.op=99∨(x.op=105∧x.ex≠none)∨x.op=116∨x.op=114∨x.op=102)
def WfS:List Sm→Prop
 | []=>True
 | ⟨op,word,pl,ex,asw,asPl,undo,n,nPl,one,two⟩::rest=>WfH ⟨op,word,pl,ex,asw,asPl,undo,n,nPl,one,two⟩∧WfS one∧WfS two∧WfS rest
theorem qgy:WfS []:=by rw[WfS];trivial
theorem qd7 {x:Sm} {l:List Sm}:WfS (x::l)↔WfH x∧WfS x.one∧WfS x.two∧WfS l:=by
 obtain ⟨op,word,pl,ex,asw,asPl,undo,n,nPl,one,two⟩:=x;rw[WfS]
theorem zpj {l:List Sm} {x:Sm} (h:WfS l) (h1:WfH x) (h2:WfS x.one) (h3:WfS x.two):WfS (l++[x]):=by
 induction l with
 | nil=>exact qd7.2 ⟨h1,h2,h3,qgy⟩
 | cons y l ih =>
  obtain ⟨g1,g2,g3,g4⟩:=qd7.1 h;exact qd7.2 ⟨g1,g2,g3,ih g4⟩
theorem qho:cnt []=0:=by rw[cnt]
theorem qik (x:Sm) (l:List Sm):cnt (x::l)=1+cnt x.one+cnt x.two+cnt l:=by
 obtain ⟨op,word,pl,ex,asw,asPl,undo,n,nPl,one,two⟩:=x;rw[cnt]
theorem zor (l:List Sm) (x:Sm):cnt (l++[x])=cnt l+1+cnt x.one+cnt x.two:=by
 induction l with
 | nil=>simp[qik,qho]
 | cons y l ih=>rw[List.cons_append,qik,qik,ih];omega
def qr5 (s:ByteArray) (g:Ps→Except Nat (Sm×Ps)):Prop:=∀ st x st',Tk s st.t→g st=.ok (x,st')→WfH x∧WfS x.one∧WfS x.two∧st.t.a+1+cnt x.one+cnt x.two≤st'.t.a
theorem qo6 {s:ByteArray} {g:Ps→Except Nat (Sm×Ps)} (hg:Goes s g) (hm:qr5 s g) (stop:Ps→Bool) (n:Nat):∀ (l:List Sm) (st:Ps) (x:List Sm) (st':Ps),Tk s st.t→WfS l→stmts s g stop n l st=.ok (x,st')→WfS x∧st.t.a+cnt x≤st'.t.a+cnt l:=by
 induction n with
 | zero=>intro l st x st' _ _ h;simp[stmts] at h
 | succ n ih =>
  intro l st x st' ht hl h;rw[stmts] at h;split at h
  ·cases h;exact ⟨hl,Nat.le_refl _⟩
  ·cases hp:g st with
   | error p=>rw[hp] at h;cases h
   | ok r =>
    obtain ⟨k,st1⟩:=r;rw[hp] at h;have g1:=hg _ _ _ ht hp;obtain ⟨m1,m2,m3,m4⟩:=hm _ _ _ ht hp;obtain ⟨i1,i2⟩:=ih _ _ _ _ g1.tk (zpj hl m1 m2 m3) h;rw[zor] at i2;exact ⟨i1,by omega⟩
theorem qgx {s:ByteArray} {g:Ps→Except Nat (Sm×Ps)} (hg:Goes s g) (hm:qr5 s g) {st:Ps} {x:List Sm} {st':Ps} (ht:Tk s st.t) (h:block s g st=.ok (x,st')):WfS x∧st.t.a+cnt x≤st'.t.a:=by
 unfold block at h;split at h
 ·rename_i ho;have g1:=qaf ht ho;cases hp:stmts s g (fun st=>onB s st.t ⟨#[125]⟩) (s.size+1) [] (nx s (dn st)) with
  | error p=>rw[hp] at h;cases h
  | ok r =>
   obtain ⟨l,st1⟩:=r;rw[hp] at h;cases h;obtain ⟨g2,hs⟩:=qcs hg _ _ _ _ _ _ (show Tk s (nx s (dn st)).t from g1.tk) hp;obtain ⟨i1,i2⟩:=qo6 hg hm _ _ _ _ _ _ (show Tk s (nx s (dn st)).t from g1.tk) qgy hp;have g3:=qaf g2.tk hs;have h1:st.t.a < (nx s (dn st)).t.a:=g1.lt;have h3:st1.t.a < (nx s st1).t.a:=g3.lt;rw[qho] at i2;refine ⟨i1,?_⟩;show st.t.a+cnt _≤(nx s st1).t.a
   omega
 ·cases h
theorem qnv:WfO none:=fun e h=>by cases h
theorem qnu {e:Ex} (h:WfE e):WfO (some e):=fun e' h'=>by cases h';exact h
theorem zc5 (s:ByteArray) {st:Ps} {x:Sm} {st':Ps} (h:letS s st=.ok (x,st')):WfH x∧x.one=[]∧x.two=[]:=by
 unfold letS at h;cases h1:kind s 119 st with
 | error p=>rw[h1] at h;cases h
 | ok st1 =>
  rw[h1] at h;simp only at h;cases h2:need s ⟨#[61]⟩ st1 with
  | error p=>rw[h2] at h;cases h
  | ok st2 =>
   rw[h2] at h;simp only at h;cases h3:qa4 s st2 with
   | error p=>rw[h3] at h;cases h
   | ok r =>
    obtain ⟨e,st3⟩:=r;rw[h3] at h;simp only at h;cases h4:need s ⟨#[59]⟩ st3 with
    | error p=>rw[h4] at h;cases h
    | ok st4 =>
     rw[h4] at h;cases h;exact ⟨⟨qnu (qjr s _ _ _ h3),Or.inl ⟨rfl,by simp⟩⟩,rfl,rfl⟩
def WfC (x:Sm):Prop:=WfO x.ex∧x.op=99∧x.one=[]∧x.two=[]
theorem qws {s:ByteArray} {x:Sm} {st:Ps} {y:Sm} {st':Ps} (hx:WfC x) (h:qa9 s x st=.ok (y,st')):WfC y:=by
 unfold qa9 at h;split at h
 ·cases h1:kind s 119 (nx s st) with
  | error p=>rw[h1] at h;cases h
  | ok st1=>rw[h1] at h;cases h;exact hx
 ·cases h;exact hx
theorem qqv {s:ByteArray} {x:Sm} {st:Ps} {y:Sm} {st':Ps} (hx:WfC x) (h:qat s x st=.ok (y,st')):WfC y:=by
 unfold qat at h;split at h
 ·cases h1:kind s 119 (nx s st) with
  | error p=>rw[h1] at h;cases h
  | ok st1=>rw[h1] at h;cases h;exact hx
 ·cases h;exact hx
theorem qqe {s:ByteArray} {x:Sm} {st:Ps} {y:Sm} {st':Ps} (hx:WfC x) (h:qas s x st=.ok (y,st')):WfC y:=by
 unfold qas at h;split at h
 ·cases h1:kind s 110 (nx s st) with
  | error p=>rw[h1] at h;cases h
  | ok st1=>rw[h1] at h;cases h;exact hx
 ·cases h;exact hx
theorem qua {s:ByteArray} {x:Sm} {st:Ps} {y:Sm} {st':Ps} (hx:WfC x) (h:qaw s x st=.ok (y,st')):WfC y:=by
 unfold qaw at h;split at h
 ·cases h;exact hx
 ·cases h1:qa4 s st with
  | error p=>rw[h1] at h;cases h
  | ok r=>obtain ⟨e,st1⟩:=r;rw[h1] at h;cases h;exact ⟨qnu (qjr s _ _ _ h1),hx.2⟩
theorem zdw (s:ByteArray) {st:Ps} {x:Sm} {st':Ps} (h:call s st=.ok (x,st')):WfC x:=by
 unfold call at h;cases h1:kind s 119 st with
 | error p=>rw[h1] at h;cases h
 | ok st1 =>
  rw[h1] at h;simp only at h;cases h2:need s ⟨#[40]⟩ st1 with
  | error p=>rw[h2] at h;cases h
  | ok st2 =>
   rw[h2] at h;simp only at h;cases h3:qaw s { qa8 with op:=99,word:=txt s st.t,pl:=st.t.a,n:=1 } st2 with
   | error p=>rw[h3] at h;cases h
   | ok r3 =>
    obtain ⟨x3,st3⟩:=r3;rw[h3] at h;simp only at h;have g3:WfC x3:=qua ⟨qnv,rfl,rfl,rfl⟩ h3;cases h4:need s ⟨#[41]⟩ st3 with
    | error p=>rw[h4] at h;cases h
    | ok st4 =>
     rw[h4] at h;simp only at h;cases h5:qa9 s x3 st4 with
     | error p=>rw[h5] at h;cases h
     | ok r5 =>
      obtain ⟨x5,st5⟩:=r5;rw[h5] at h;simp only at h;have g5:=qws g3 h5;cases h6:qat s x5 st5 with
      | error p=>rw[h6] at h;cases h
      | ok r6 =>
       obtain ⟨x6,st6⟩:=r6;rw[h6] at h;simp only at h;have g6:=qqv g5 h6;cases h7:qas s x6 st6 with
       | error p=>rw[h7] at h;cases h
       | ok r7 =>
        obtain ⟨x7,st7⟩:=r7;rw[h7] at h;simp only at h;have g7:=qqe g6 h7;cases h8:need s ⟨#[59]⟩ st7 with
        | error p=>rw[h8] at h;cases h
        | ok st8=>rw[h8] at h;cases h;exact g7
theorem zib {s:ByteArray} {g:Ps→Except Nat (Sm×Ps)} (hg:Goes s g) (hm:qr5 s g) {st:Ps} {x:Sm} {st':Ps} (ht:Tk s st.t) (h:ifS s g st=.ok (x,st')):WfH x∧WfS x.one∧WfS x.two∧st.t.a+cnt x.one+cnt x.two≤st'.t.a:=by
 unfold ifS at h;cases h1:qa4 s st with
 | error p=>rw[h1] at h;cases h
 | ok r =>
  obtain ⟨e,st1⟩:=r;rw[h1] at h;simp only at h;have g1:=qbb s _ _ _ ht h1;have w1:=qjr s _ _ _ h1;have l1:=g1.lt;cases h2:block s g st1 with
  | error p=>rw[h2] at h;cases h
  | ok r =>
   obtain ⟨l,st2⟩:=r;rw[h2] at h;simp only at h;have g2:=qa0 hg _ _ _ g1.tk h2;obtain ⟨m1,m2⟩:=qgx hg hm g1.tk h2;split at h
   ·rename_i ho;have g3:=qaf g2.tk ho;have l3:=g3.lt;cases h4:block s g (nx s st2) with
    | error p=>rw[h4] at h;cases h
    | ok r =>
     obtain ⟨m,st3⟩:=r;obtain ⟨m3,m4⟩:=qgx hg hm g3.tk h4;rw[h4] at h;cases h;exact ⟨⟨qnu w1,Or.inr (Or.inr (Or.inl ⟨rfl,by simp⟩))⟩,m1,m3,by simp only;omega⟩
   ·cases h;exact ⟨⟨qnu w1,Or.inr (Or.inr (Or.inl ⟨rfl,by simp⟩))⟩,m1,qgy,by simp only[qa8,qho];omega⟩
theorem zb0 {s:ByteArray} {g:Ps→Except Nat (Sm×Ps)} (hg:Goes s g) (hm:qr5 s g) {st:Ps} {x:Sm} {st':Ps} (ht:Tk s st.t) (h:tryS s g st=.ok (x,st')):WfH x∧WfS x.one∧WfS x.two∧st.t.a+cnt x.one+cnt x.two≤st'.t.a:=by
 unfold tryS at h;cases h1:block s g st with
 | error p=>rw[h1] at h;cases h
 | ok r =>
  obtain ⟨l,st1⟩:=r;rw[h1] at h;simp only at h;have g1:=qa0 hg _ _ _ ht h1;obtain ⟨m1,m2⟩:=qgx hg hm ht h1;cases h2:need s ⟨#[101,108,115,101]⟩ st1 with
  | error p=>rw[h2] at h;cases h
  | ok st2 =>
   rw[h2] at h;simp only at h;have g2:=qav g1.tk h2;have l2:=g2.lt;cases h3:block s g st2 with
   | error p=>rw[h3] at h;cases h
   | ok r =>
    obtain ⟨m,st3⟩:=r;obtain ⟨m3,m4⟩:=qgx hg hm g2.tk h3;rw[h3] at h;cases h;exact ⟨⟨qnv,Or.inr (Or.inr (Or.inr (Or.inl rfl)))⟩,m1,m3,by simp only;omega⟩
theorem qsv {s:ByteArray} {g:Ps→Except Nat (Sm×Ps)} (hg:Goes s g) (hm:qr5 s g) {st:Ps} {x:Sm} {st':Ps} (ht:Tk s st.t) (h:qbu s g st=.ok (x,st')):WfH x∧WfS x.one∧WfS x.two∧st.t.a+cnt x.one+cnt x.two≤st'.t.a:=by
 unfold qbu at h;cases h1:kind s 110 st with
 | error p=>rw[h1] at h;cases h
 | ok st1 =>
  rw[h1] at h;simp only at h;have g1:=qa6 ht (by decide) (by decide) h1
  have l1:=g1.lt;cases h2:block s g st1 with
  | error p=>rw[h2] at h;cases h
  | ok r =>
   obtain ⟨m,st3⟩:=r;obtain ⟨m1,m2⟩:=qgx hg hm g1.tk h2;rw[h2] at h;cases h;exact ⟨⟨qnv,Or.inr (Or.inr (Or.inr (Or.inr (Or.inl rfl))))⟩,m1,qgy,by simp only[qa8,qho];omega⟩
theorem qyg {s:ByteArray} {st:Ps} {x:Sm} {st':Ps} (h:qig s st=.ok (x,st')):WfH x∧x.one=[]∧x.two=[]:=by
 unfold qig at h;cases h1:need s ⟨#[102,97,105,108]⟩ st with
 | error p=>rw[h1] at h;cases h
 | ok st1 =>
  rw[h1] at h;simp only at h;cases h2:need s ⟨#[59]⟩ st1 with
  | error p=>rw[h2] at h;cases h
  | ok st2=>rw[h2] at h;cases h;exact ⟨⟨qnv,Or.inr (Or.inr (Or.inr (Or.inr (Or.inr rfl))))⟩,rfl,rfl⟩
theorem zb7 (s:ByteArray) (n:Nat):qr5 s (stmt s n):=by
 induction n with
 | zero=>intro st x st' _ h;simp[stmt] at h
 | succ n ih =>
  intro st x st' ht h;have hgo:=qam s (n+1) _ _ _ ht h;have hlt:=hgo.lt;rw[stmt] at h;split at h
  ·obtain ⟨m1,m2,m3⟩:=zc5 s h;rw[m2,m3,qho];exact ⟨m1,qgy,qgy,by omega⟩
  ·split at h
   ·obtain ⟨m1,m2,m3,m4⟩:=zdw s h;rw[m3,m4,qho];exact ⟨⟨m1,Or.inr (Or.inl m2)⟩,qgy,qgy,by omega⟩
   ·split at h
    ·rename_i ho;have g1:=qaf ht ho;have l1:=g1.lt;obtain ⟨m1,m2,m3,m4⟩:=zib (qam s n) ih g1.tk h;exact ⟨m1,m2,m3,by omega⟩
    ·split at h
     ·rename_i ho;have g1:=qaf ht ho;have l1:=g1.lt;obtain ⟨m1,m2,m3,m4⟩:=zb0 (qam s n) ih g1.tk h;exact ⟨m1,m2,m3,by omega⟩
     ·split at h
      ·rename_i ho;have g1:=qaf ht ho;have l1:=g1.lt;obtain ⟨m1,m2,m3,m4⟩:=qsv (qam s n) ih g1.tk h;exact ⟨m1,m2,m3,by omega⟩
      ·obtain ⟨m1,m2,m3⟩:=qyg h;rw[m2,m3,qho];exact ⟨m1,qgy,qgy,by omega⟩
theorem qd0 {s:ByteArray} {l:List Sm} (h:read s=.ok l):WfS l∧cnt l≤300:=by
 unfold read at h;split at h
 ·cases h
 ·rename_i hz;cases hp:stmts s (stmt s (s.size+1)) (fun st=>st.t.k == 0) (s.size+1) [] ⟨tok s 0,0,-1⟩ with
  | error p=>rw[hp] at h;cases h
  | ok r =>
   obtain ⟨l',st⟩:=r;rw[hp] at h;simp only at h;split at h
   ·cases h
   ·cases h;have ht:=(qfv s 0 (Nat.zero_le _)).1;obtain ⟨i1,i2⟩:=qo6 (qam s _) (zb7 s _) _ _ _ _ _ _ ht qgy hp;obtain ⟨g2,_⟩:=qcs (qam s _) _ _ _ _ _ _ ht hp;have h1:=g2.tk.ab;have h2:=g2.tk.le;rw[qho] at i2;exact ⟨i1,by omega⟩
theorem qgc (e p:Nat) (c:Lk):(say e p c).vars=c.vars:=by unfold say;split<;>rfl
theorem qdj (x:Ex) (c:Lk):(qao x c).2.vars=c.vars:=by
 match x with
 | ⟨op,_,word,_,own,none,_⟩ =>
  show (qpq op word own c).2.vars=_
  unfold qpq;split
  ·rfl
  ·split
   ·rfl
   ·split
    ·exact qgc _ _ _
    ·rfl
 | ⟨_,_,_,_,own,some l,none⟩ =>
  show (notK own (qao l c)).2.vars=_
  unfold notK;simp only;split
  ·exact qdj l c
  ·rw[qgc];exact qdj l c
 | ⟨op,_,_,_,own,some l,some r⟩ =>
  show (binK op own (qao l c).1 (qao r (qao l c).2)).2.vars=_
  have h1:=qdj l c;have h2:=qdj r (qao l c).2;unfold binK;split
  ·simp only;split
   ·rw[qgc,h2,h1]
   ·rw[h2,h1]
  ·simp only;split
   ·rw[h2,h1]
   ·rw[qgc,h2,h1]
theorem qrp (w:ByteArray) (p k:Nat) (c:Lk):(qc7 w p k c).vars.length≤c.vars.length+1:=by
 unfold qc7;split
 ·simp
 ·split
  ·rw[qgc];omega
  ·omega
theorem qfk (x:Option Ex) (k:Nat) (c:Lk):(qbq x k c).vars=c.vars:=by
 unfold qbq;split
 ·rfl
 ·split
  ·exact qdj _ _
  ·rw[qgc];exact qdj _ _
def qcc (x:Sm) (c:Lk):Lk :=
 if x.op=108 then
  match x.ex with
  | none=>c
  | some e=>qc7 x.word x.pl (qao e c).1 (qao e c).2
 else if x.op=99 then
  let c1:=qbq x.ex 105 c
  let c2:=if x.asw.toList.isEmpty then c1 else qc7 x.asw x.asPl 105 c1
  if x.n < 1∨5 < x.n then say 4 x.nPl c2 else c2
 else if x.op=105 then qap x.two (qap x.one (qbq x.ex 98 c))
 else if x.op=116 then qap x.two (qap x.one c)
 else if x.op=114 then qap x.one (if 9 < x.n then say 4 x.nPl c else c)
 else c
theorem qhu (c:Lk):qap [] c=c:=by rw[qap]
theorem qdi (x:Sm) (l:List Sm) (c:Lk):qap (x::l) c=qap l (qcc x c):=by
 obtain ⟨op,word,pl,ex,asw,asPl,undo,n,nPl,one,two⟩:=x;rw[qap.eq_def]
 all_goals rfl
theorem qdh (l:List Sm) (c:Lk):(qap l c).vars.length≤c.vars.length+cnt l:=by
 match l with
 | []=>rw[qhu,qho];omega
 | ⟨op,word,pl,ex,asw,asPl,undo,n,nPl,one,two⟩::rest =>
  rw[qdi,qik];have h0:=qdh rest (qcc ⟨op,word,pl,ex,asw,asPl,undo,n,nPl,one,two⟩ c);have h1:(qcc ⟨op,word,pl,ex,asw,asPl,undo,n,nPl,one,two⟩ c).vars.length≤c.vars.length+1+cnt one+cnt two:=by
   unfold qcc;simp only;split
   ·cases ex with
    | none=>simp only;omega
    | some e =>
     have:=qrp word pl (qao e c).1 (qao e c).2
     rw[qdj] at this;simp only;omega
   ·split
    ·have a1:=qfk ex 105 c;have a2:=qrp asw asPl 105 (qbq ex 105 c);rw[a1] at a2;split
     ·rw[qgc];split
      ·rw[a1];omega
      ·omega
     ·split
      ·rw[a1];omega
      ·omega
    ·split
     ·have a1:=qdh one (qbq ex 98 c);have a2:=qdh two (qap one (qbq ex 98 c));rw[qfk] at a1;omega
     ·split
      ·have a1:=qdh one c;have a2:=qdh two (qap one c);omega
      ·split
       ·have a1:=qdh one (if 9 < n then say 4 nPl c else c)
        have a3:(if 9 < n then say 4 nPl c else c).vars=c.vars:=by
         split
         ·exact qgc _ _ _
         ·rfl
        rw[a3] at a1;omega
       ·omega
  have e1:(⟨op,word,pl,ex,asw,asPl,undo,n,nPl,one,two⟩:Sm).one=one:=rfl;have e2:(⟨op,word,pl,ex,asw,asPl,undo,n,nPl,one,two⟩:Sm).two=two:=rfl;rw[e1,e2];omega
def qew (e p:Nat) (c:Lk):Lk:=if c.e=0∨p < c.pl then ⟨c.vars,e,p⟩ else c
def qcd (a b:Nat):Bool:=a == b || (a == 63 || b == 63)
def qv3 (op:Nat) (word:ByteArray) (own:Nat) (c:Lk):Nat×Lk :=
 if op=110 then (105,c)
 else if op=116 then (98,c)
 else
  match qa3 c.vars word with
  | none=>(63,qew 5 own c)
  | some i=>(qcn c.vars i,c)
def notP (own:Nat) (r:Nat×Lk):Nat×Lk:=(98,if qcd r.1 98 then r.2 else qew 6 own r.2)
def qfx (op:Nat):Nat:=if op=61∨op=35 then 63 else 105
def qjg (op:Nat):Nat:=if op=61∨op=35∨op=60 then 98 else 105
def binP (op own a:Nat) (r:Nat×Lk):Nat×Lk:=(qjg op,if qcd a (qfx op) && qcd r.1 (qfx op) && qcd a r.1 then r.2 else qew 6 own r.2)
def qaj:Ex→Lk→Nat×Lk
 | ⟨op,_,word,_,own,none,_⟩,c=>qv3 op word own c
 | ⟨_,_,_,_,own,some l,none⟩,c=>notP own (qaj l c)
 | ⟨op,_,_,_,own,some l,some r⟩,c=>binP op own (qaj l c).1 (qaj r (qaj l c).2)
def qid (w:ByteArray) (p k:Nat) (c:Lk):Lk :=
 match qa3 c.vars w with
 | none=>⟨c.vars++[(w,k)],c.e,c.pl⟩
 | some i=>if qcd (qcn c.vars i) k then c else qew 6 p c
def qh4 (x:Ex) (k:Nat) (c:Lk):Lk:=if qcd (qaj x c).1 k then (qaj x c).2 else qew 6 x.pl (qaj x c).2
def argP (x:Option Ex) (c:Lk):Lk :=
 match x with
 | none=>c
 | some x=>qh4 x 105 c
def asP (w:ByteArray) (p:Nat) (c:Lk):Lk:=if w.size=0 then c else qid w p 105 c
def countP (n p least most:Nat) (c:Lk):Lk:=if n < least∨most < n then qew 4 p c else c
def qbz:List Sm→Lk→Lk
 | [],c=>c
 | ⟨op,word,pl,ex,asw,asPl,_,n,nPl,one,two⟩::rest,c =>
  qbz rest (
   if op=108 then
    match ex with
    | none=>c
    | some x=>qid word pl (qaj x c).1 (qaj x c).2
   else if op=99 then countP n nPl 1 5 (asP asw asPl (argP ex c))
   else if op=105 then
    match ex with
    | none=>c
    | some x=>qbz two (qbz one (qh4 x 98 c))
   else if op=116 then qbz two (qbz one c)
   else if op=114 then qbz one (countP n nPl 0 9 c)
   else c)
def Sp:Ex→Nat→Nat→Prop
 | ⟨_,_,_,_,own,none,none⟩,lo,hi=>lo≤own∧own < hi
 | ⟨_,_,_,_,own,some l,none⟩,lo,hi=>lo≤own∧own < hi∧Sp l lo hi
 | ⟨_,_,_,_,own,some l,some r⟩,lo,hi=>lo≤own∧own < hi∧∃ mid,lo≤mid∧mid≤hi∧Sp l lo mid∧Sp r mid hi
 | ⟨_,_,_,_,_,none,some _⟩,_,_=>False
theorem Sp.mono {x:Ex} {lo hi lo' hi':Nat} (h:Sp x lo hi) (h1:lo'≤lo) (h2:hi≤hi'):Sp x lo' hi':=by
 match x with
 | ⟨_,_,_,_,own,none,none⟩=>have h3:=h.1;have h4:=h.2;exact ⟨by omega,by omega⟩
 | ⟨_,_,_,_,own,some l,none⟩=>obtain ⟨h3,h4,h5⟩:=h;exact ⟨by omega,by omega,h5.mono h1 h2⟩
 | ⟨_,_,_,_,own,some l,some r⟩=>obtain ⟨h3,h4,mid,h5,h6,h7,h8⟩:=h;exact ⟨by omega,by omega,mid,by omega,by omega,h7.mono h1 (Nat.le_refl _),h8.mono (Nat.le_refl _) h2⟩
 | ⟨_,_,_,_,_,none,some _⟩=>exact h.elim
theorem Sp.place {x:Ex} {lo hi:Nat} (h:Sp x lo hi) (a:Nat):Sp { x with pl:=a } lo hi:=by
 match x with
 | ⟨_,_,_,_,own,none,none⟩=>exact h
 | ⟨_,_,_,_,own,some l,none⟩=>exact h
 | ⟨_,_,_,_,own,some l,some r⟩=>exact h
 | ⟨_,_,_,_,_,none,some _⟩=>exact h.elim
structure Inv (c:Lk) (n:Nat):Prop where
 e:c.e≤6
 p:c.e=0∨c.pl < n
theorem Inv.mono {c:Lk} {n m:Nat} (h:Inv c n) (hm:n≤m):Inv c m:=⟨h.e,by rcases h.p with h | h;exact Or.inl h;exact Or.inr (by omega)⟩
theorem qhs {c:Lk} {n:Nat} (p:Nat) (h:Inv c n):qew 6 p c=say 6 p c:=by
 unfold qew say
 have:=h.e
 by_cases h1:c.e=0∨p < c.pl
 ·rw[if_pos h1,if_pos (by omega)]
 ·rw[if_neg h1,if_neg (by omega)]
theorem qs9 {c:Lk} {n e p:Nat} (h:Inv c n) (hp:n≤p):qew e p c=say e p c:=by
 unfold qew say;by_cases h0:c.e=0
 ·rw[if_pos (Or.inl h0),if_pos (Or.inl h0)]
 ·have:=h.p
  rw[if_neg (by omega),if_neg (by omega)]
theorem Inv.say {c:Lk} {n m e p:Nat} (h:Inv c n) (he:e≤6) (hp:p < m) (hm:n≤m):Inv (say e p c) m:=by
 unfold Px.say;split
 ·exact ⟨he,Or.inr hp⟩
 ·exact h.mono hm
theorem qoe (k want:Nat) (h:want≠63):qcd k want=isK k want:=by
 unfold qcd isK
 have:(want == 63)=false:=by simpa using h
 rw[this,Bool.or_false]
theorem qpz (a b:Nat):qcd a b=!qft a b:=by
 unfold qcd qft;cases h1:(a == b)<;>cases h2:(a == 63)<;>cases h3:(b == 63)<;>simp_all [bne]
def K3 (k:Nat):Prop:=k=105∨k=98∨k=63
def V3 (c:Lk):Prop:=∀ v∈c.vars,K3 v.2
theorem V3.say {c:Lk} (h:V3 c) (e p:Nat):V3 (say e p c):=by unfold Px.say;split<;>exact h
theorem qds {l:List (ByteArray×Nat)} {w:ByteArray} {i:Nat} (h:qa3 l w=some i):i < l.length:=by
 induction l generalizing i with
 | nil=>cases h
 | cons x r ih =>
  obtain ⟨v,k⟩:=x;unfold qa3 at h;split at h
  ·cases h;simp
  ·cases hr:qa3 r w with
   | none=>rw[hr] at h;cases h
   | some j=>rw[hr] at h;cases h;have:=ih hr;simp;omega
theorem qj9 {l:List (ByteArray×Nat)} {i:Nat} (h:i < l.length):∃ v∈l,qcn l i=v.2:=by
 unfold qcn;rw[List.getD,List.getElem?_eq_getElem h];exact ⟨l[i],List.getElem_mem h,rfl⟩
theorem qlr (x:Ex):∀ (c:Lk) (lo hi:Nat),WfE x→Sp x lo hi→Inv c lo→V3 c→qaj x c=qao x c∧Inv (qao x c).2 hi∧V3 (qao x c).2∧K3 (qao x c).1:=by
 match x with
 | ⟨op,n,word,pl,own,none,none⟩ =>
  intro c lo hi hw hs hi' hv;have h1:=hs.1;have h2:=hs.2;simp only[qaj,qao,qv3,qpq];split
  ·exact ⟨rfl,hi'.mono (by omega),hv,Or.inl rfl⟩
  ·split
   ·exact ⟨rfl,hi'.mono (by omega),hv,Or.inr (Or.inl rfl)⟩
   ·cases hf:qa3 c.vars word with
    | none=>exact ⟨by simp only;rw[qs9 hi' h1],hi'.say (by omega) h2 (by omega),hv.say _ _,Or.inr (Or.inr rfl)⟩
    | some i =>
     obtain ⟨v,hv1,hv2⟩:=qj9 (qds hf);exact ⟨rfl,hi'.mono (by omega),hv,by simp only;rw[hv2];exact hv v hv1⟩
 | ⟨op,n,word,pl,own,some l,none⟩ =>
  intro c lo hi hw hs hi' hv;obtain ⟨h1,h2,h3⟩:=hs;obtain ⟨e1,e2,e3,e4⟩:=qlr l c lo hi hw.2 h3 hi' hv;simp only[qaj,qao,notP,notK];rw[e1,qoe _ _ (by decide)]
  split
  ·exact ⟨rfl,e2,e3,Or.inr (Or.inl rfl)⟩
  ·exact ⟨by rw[qhs _ e2],e2.say (by omega) h2 (Nat.le_refl _),e3.say _ _,Or.inr (Or.inl rfl)⟩
 | ⟨op,n,word,pl,own,some l,some r⟩ =>
  intro c lo hi hw hs hi' hv;obtain ⟨h1,h2,mid,h3,h4,h5,h6⟩:=hs;obtain ⟨hop,hwl,hwr⟩:=hw;obtain ⟨e1,e2,e3,e4⟩:=qlr l c lo mid hwl h5 hi' hv;obtain ⟨f1,f2,f3,f4⟩:=qlr r (qao l c).2 mid hi hwr h6 e2 e3;simp only[qaj,qao];rw[e1,f1];generalize qao l c=kl at *;generalize qao r kl.2=kr at *;unfold binP binK;by_cases ho:op=61∨op=35
  ·rw[if_pos ho,qfx,if_pos ho,qjg,if_pos (by omega),qpz kl.1 kr.1]
   have t1:∀ k,qcd k 63=true:=by intro k;unfold qcd;simp
   rw[t1,t1];cases hu:qft kl.1 kr.1
   ·exact ⟨rfl,by simpa using f2,by simpa using f3,Or.inr (Or.inl rfl)⟩
   ·refine ⟨?_,?_,?_,Or.inr (Or.inl rfl)⟩
    ·simp[qhs _ f2]
    ·simpa using f2.say (by omega) h2 (Nat.le_refl _)
    ·simpa using f3.say _ _
  ·rw[if_neg ho,qfx,if_neg ho,qoe _ _ (by decide),qoe _ _ (by decide)]
   have hmk:qjg op=if op=60 then 98 else 105:=by unfold qjg;by_cases h:op=60<;>simp[h,ho]<;>omega
   rw[hmk];have hk3:K3 (if op=60 then 98 else 105):=by split;exact Or.inr (Or.inl rfl);exact Or.inl rfl
   cases ha:isK kl.1 105
   ·simp only[Bool.false_and,Bool.false_eq_true,if_false];exact ⟨by rw[qhs _ f2],f2.say (by omega) h2 (Nat.le_refl _),f3.say _ _,hk3⟩
   ·cases hb:isK kr.1 105
    ·simp only[Bool.true_and,Bool.false_and,Bool.false_eq_true,if_false];exact ⟨by rw[qhs _ f2],f2.say (by omega) h2 (Nat.le_refl _),f3.say _ _,hk3⟩
    ·have:qcd kl.1 kr.1=true:=by
      unfold isK at ha hb;unfold qcd;simp only[Bool.or_eq_true,beq_iff_eq] at ha hb ⊢;omega
     rw[this];simp only[Bool.true_and,if_true];exact ⟨trivial,f2,f3,hk3⟩
 | ⟨_,_,_,_,_,none,some _⟩=>intro c lo hi hw;exact hw.elim
def Ss:List Sm→Nat→Nat→Prop
 | [],lo,hi=>lo≤hi
 | ⟨op,_,pl,ex,asw,asPl,_,n,nPl,one,two⟩::rest,lo,hi=>∃ md,Ss rest md hi∧lo≤md ∧
   ((op=108∧∃ x,ex=some x∧Sp x lo md∧pl < md) ∨
    (op=99∧∃ m1 m2,lo≤m1∧m1≤m2∧m2≤md∧(∀ x,ex=some x→Sp x lo m1∧x.pl < m1)∧(asw.size=0∨asPl < m2)∧((1≤n∧n≤5)∨(m2≤nPl∧nPl < md))) ∨
    (op=105∧∃ x a b c d m1,ex=some x∧Sp x lo m1∧x.pl < m1∧m1≤a∧Ss one a b∧b≤c∧Ss two c d∧d≤md) ∨
    (op=116∧∃ a b c d,lo≤a∧Ss one a b∧b≤c∧Ss two c d∧d≤md) ∨
    (op=114∧∃ a b,lo≤nPl∧nPl < a∧Ss one a b∧b≤md)∨op=102)
def S1 (x:Sm) (lo md:Nat):Prop:=lo≤md ∧
   ((x.op=108∧∃ e,x.ex=some e∧Sp e lo md∧x.pl < md) ∨
    (x.op=99∧∃ m1 m2,lo≤m1∧m1≤m2∧m2≤md∧(∀ e,x.ex=some e→Sp e lo m1∧e.pl < m1)∧(x.asw.size=0∨x.asPl < m2)∧((1≤x.n∧x.n≤5)∨(m2≤x.nPl∧x.nPl < md))) ∨
    (x.op=105∧∃ e a b c d m1,x.ex=some e∧Sp e lo m1∧e.pl < m1∧m1≤a∧Ss x.one a b∧b≤c∧Ss x.two c d∧d≤md) ∨
    (x.op=116∧∃ a b c d,lo≤a∧Ss x.one a b∧b≤c∧Ss x.two c d∧d≤md) ∨
    (x.op=114∧∃ a b,lo≤x.nPl∧x.nPl < a∧Ss x.one a b∧b≤md)∨x.op=102)
theorem zkc {lo hi:Nat}:Ss [] lo hi↔lo≤hi:=by rw[Ss]
theorem zkd {x:Sm} {l:List Sm} {lo hi:Nat}:Ss (x::l) lo hi↔∃ md,Ss l md hi∧S1 x lo md:=by
 obtain ⟨op,word,pl,ex,asw,asPl,undo,n,nPl,one,two⟩:=x;rw[Ss]
 all_goals rfl
def qur (s:ByteArray) (g:Ps→Except Nat (Ex×Ps)):Prop:=∀ st x st',Tk s st.t→g st=.ok (x,st')→Sp x st.t.a st'.t.a
theorem qyk {s:ByteArray} {g:Ps→Except Nat (Ex×Ps)} (hg:Goes s g) (hs:qur s g) (a b:UInt8) (n:Nat):∀ (pl lo:Nat) (e:Ex) (st:Ps) (x:Ex) (st':Ps),Tk s st.t→lo≤st.t.a→Sp e lo st.t.a→chain s g a b n pl e st=.ok (x,st')→Sp x lo st'.t.a:=by
 induction n with
 | zero=>intro pl lo e st x st' _ _ _ h;simp[chain] at h
 | succ n ih =>
  intro pl lo e st x st' ht hlo he h;rw[chain] at h;split at h
  ·rename_i ho;have g0:=qaf ht ho;have l0:=g0.lt;cases hp:g (nx s st) with
   | error p=>rw[hp] at h;cases h
   | ok r =>
    obtain ⟨k,st1⟩:=r;rw[hp] at h;have g1:=hg _ _ _ g0.tk hp;have l1:=g1.lt;exact ih pl lo ⟨a.toNat,0,nowt,pl,st.t.a,some e,some k⟩ _ _ _ g1.tk (by omega) ⟨hlo,by omega,(nx s st).t.a,by omega,by omega,he.mono (Nat.le_refl _) (by omega),hs _ _ _ g0.tk hp⟩ h
  ·split at h
   ·rename_i ho;have g0:=qaf ht ho;have l0:=g0.lt;cases hp:g (nx s st) with
    | error p=>rw[hp] at h;cases h
    | ok r =>
     obtain ⟨k,st1⟩:=r;rw[hp] at h;have g1:=hg _ _ _ g0.tk hp;have l1:=g1.lt;exact ih pl lo ⟨b.toNat,0,nowt,pl,st.t.a,some e,some k⟩ _ _ _ g1.tk (by omega) ⟨hlo,by omega,(nx s st).t.a,by omega,by omega,he.mono (Nat.le_refl _) (by omega),hs _ _ _ g0.tk hp⟩ h
   ·cases h;exact he
theorem qvi {s:ByteArray} {g:Ps→Except Nat (Ex×Ps)} (hg:Goes s g) (hs:qur s g) (a b:UInt8):qur s (row s g a b):=by
 intro st x st' ht h;unfold row at h;cases hp:g st with
 | error p=>rw[hp] at h;cases h
 | ok r =>
  obtain ⟨e,st1⟩:=r;rw[hp] at h;have g1:=hg _ _ _ ht hp;exact qyk hg hs _ _ _ _ _ _ _ _ _ g1.tk (Nat.le_of_lt g1.lt) (hs _ _ _ ht hp) h
theorem qva {s:ByteArray} {g:Ps→Except Nat (Ex×Ps)} (hg:Goes s g) (hs:qur s g):qur s (sum s g):=qvi (qgp hg) (qvi hg hs _ _) _ _
theorem qrr {s:ByteArray} {g:Ps→Except Nat (Ex×Ps)} (hg:Goes s g) (hs:qur s g):qur s (expr s g):=by
 intro st x st' ht h;unfold expr at h;cases hp:sum s g st with
 | error p=>rw[hp] at h;cases h
 | ok r =>
  obtain ⟨e,st1⟩:=r;rw[hp] at h;simp only at h;have g1:=qgb hg _ _ _ ht hp;have s1:=qva hg hs _ _ _ ht hp;have l1:=g1.lt;cases hc:qec s st1.t with
  | none=>rw[hc] at h;cases h;exact s1
  | some o =>
   rw[hc] at h;simp only at h;have hk:=qm5 hc;have g0:Good s st1 (nx s st1):=qe5 g1.tk (by rw[hk];decide) (by rw[hk];decide)
   have l0:=g0.lt;cases hq:sum s g (nx s st1) with
   | error p=>rw[hq] at h;cases h
   | ok r2 =>
    obtain ⟨k,st2⟩:=r2;rw[hq] at h;have g2:=qgb hg _ _ _ g0.tk hq;have s2:=qva hg hs _ _ _ g0.tk hq;have l2:=g2.lt;cases h;exact ⟨by omega,by omega,(nx s st1).t.a,by omega,by omega,s1.mono (Nat.le_refl _) (by omega),s2⟩
theorem zd5 (s:ByteArray) (n:Nat):qur s (atom s n):=by
 induction n with
 | zero=>intro st x st' _ h;simp[atom] at h
 | succ n ih =>
  intro st x st' ht h;have hgo:=qbj s (n+1) _ _ _ ht h;have hlt:=hgo.lt;rw[atom] at h;split at h
  ·cases h;exact ⟨Nat.le_refl _,hlt⟩
  ·split at h
   ·cases h;exact ⟨Nat.le_refl _,hlt⟩
   ·split at h
    ·cases h;exact ⟨Nat.le_refl _,hlt⟩
    ·split at h
     ·cases h;exact ⟨Nat.le_refl _,hlt⟩
     ·split at h
      ·rename_i ho;have g0:=qaf ht ho;cases hp:atom s n (nx s st) with
       | error p=>rw[hp] at h;cases h
       | ok r =>
        obtain ⟨k,st1⟩:=r;rw[hp] at h;cases h;exact ⟨Nat.le_refl _,hlt,(ih _ _ _ g0.tk hp).mono (Nat.le_of_lt g0.lt) (Nat.le_refl _)⟩
      ·split at h
       ·rename_i ho;have g0:=qaf (st:=dn st) ht ho;have l0:st.t.a < (nx s (dn st)).t.a:=g0.lt;cases hp:expr s (atom s n) (nx s (dn st)) with
        | error p=>rw[hp] at h;cases h
        | ok r =>
         obtain ⟨k,st1⟩:=r;have g1:=qf3 (qbj s n) _ _ _ g0.tk hp;have s1:=qrr (qbj s n) ih _ _ _ g0.tk hp;rw[hp] at h;simp only at h;split at h
         ·rename_i ho2;have g2:=qaf g1.tk ho2;have l2:=g2.lt;cases h;exact (s1.mono (Nat.le_of_lt l0) (Nat.le_of_lt l2)).place _
         ·cases h
       ·cases h
theorem qjq (s:ByteArray):qur s (qa4 s):=qrr (qbj s _) (zd5 s _)
def qjv (s:ByteArray) (g:Ps→Except Nat (Sm×Ps)):Prop:=∀ st x st',Tk s st.t→g st=.ok (x,st')→S1 x st.t.a st'.t.a
theorem qo5 {s:ByteArray} {g:Ps→Except Nat (Sm×Ps)} (hg:Goes s g) (hs:qjv s g) (stop:Ps→Bool) (n:Nat):∀ (l:List Sm) (st:Ps) (x:List Sm) (st':Ps),Tk s st.t→stmts s g stop n l st=.ok (x,st')→∃ r,x=l++r∧Ss r st.t.a st'.t.a:=by
 induction n with
 | zero=>intro l st x st' _ h;simp[stmts] at h
 | succ n ih =>
  intro l st x st' ht h;rw[stmts] at h;split at h
  ·cases h;exact ⟨[],by simp,zkc.2 (Nat.le_refl _)⟩
  ·cases hp:g st with
   | error p=>rw[hp] at h;cases h
   | ok r =>
    obtain ⟨y,st1⟩:=r;rw[hp] at h;have g1:=hg _ _ _ ht hp;obtain ⟨r,hr,h2⟩:=ih _ _ _ _ g1.tk h;exact ⟨y::r,by rw[hr];simp,zkd.2 ⟨_,h2,hs _ _ _ ht hp⟩⟩
theorem qgw {s:ByteArray} {g:Ps→Except Nat (Sm×Ps)} (hg:Goes s g) (hs:qjv s g) {st:Ps} {x:List Sm} {st':Ps} (ht:Tk s st.t) (h:block s g st=.ok (x,st')):∃ a b,st.t.a < a∧Ss x a b∧b≤st'.t.a:=by
 unfold block at h;split at h
 ·rename_i ho;have g0:=qaf (st:=dn st) ht ho;cases hp:stmts s g (fun st=>onB s st.t ⟨#[125]⟩) (s.size+1) [] (nx s (dn st)) with
  | error p=>rw[hp] at h;cases h
  | ok r =>
   obtain ⟨l,st1⟩:=r;rw[hp] at h;obtain ⟨r,hr,h2⟩:=qo5 hg hs _ _ _ _ _ _ g0.tk hp;obtain ⟨g1,g2⟩:=qcs hg _ _ _ _ _ _ g0.tk hp;have g3:=qaf g1.tk g2;cases h;rw[List.nil_append] at hr;subst hr;exact ⟨_,_,g0.lt,h2,Nat.le_of_lt g3.lt⟩
 ·cases h
theorem zc4 (s:ByteArray):qjv s (letS s):=by
 intro st x st' ht h;unfold letS at h;cases h1:kind s 119 st with
 | error p=>rw[h1] at h;cases h
 | ok st1 =>
  rw[h1] at h;simp only at h;have g1:=qa6 ht (by decide) (by decide) h1
  cases h2:need s ⟨#[61]⟩ st1 with
  | error p=>rw[h2] at h;cases h
  | ok st2 =>
   rw[h2] at h;simp only at h;have g2:=qav g1.tk h2;cases h3:qa4 s st2 with
   | error p=>rw[h3] at h;cases h
   | ok r =>
    obtain ⟨e,st3⟩:=r;rw[h3] at h;simp only at h;have g3:=qbb s _ _ _ g2.tk h3;have s3:=qjq s _ _ _ g2.tk h3;cases h4:need s ⟨#[59]⟩ st3 with
    | error p=>rw[h4] at h;cases h
    | ok st4 =>
     have g4:=qav g3.tk h4;rw[h4] at h;cases h;have l1:=g1.lt;have l2:=g2.lt;have l3:=g3.lt;have l4:=g4.lt;exact ⟨by omega,Or.inl ⟨rfl,e,rfl,s3.mono (by omega) (by omega),by show st.t.a < _;omega⟩⟩
theorem zdv (s:ByteArray):qjv s (call s):=by
 intro st x st' ht h;unfold call at h;cases h1:kind s 119 st with
 | error p=>rw[h1] at h;cases h
 | ok st1 =>
  rw[h1] at h;simp only at h;have g1:=qa6 ht (by decide) (by decide) h1
  cases h2:need s ⟨#[40]⟩ st1 with
  | error p=>rw[h2] at h;cases h
  | ok st2 =>
   rw[h2] at h;simp only at h;have g2:=qav g1.tk h2;generalize hz:({ qa8 with op:=99,word:=txt s st.t,pl:=st.t.a,n:=1 }:Sm)=x2 at h
   have z0:x2.op=99∧x2.n=1∧x2.asw.size=0∧x2.ex=none:=by rw[← hz];exact ⟨rfl,rfl,rfl,rfl⟩
   cases h3:qaw s x2 st2 with
   | error p=>rw[h3] at h;cases h
   | ok r =>
    obtain ⟨x3,st3⟩:=r;rw[h3] at h;simp only at h;have g3:=qet g2.tk h3;have z3:x3.op=99∧x3.n=1∧x3.asw.size=0∧(∀ e,x3.ex=some e→Sp e st2.t.a st3.t.a∧e.pl < st3.t.a):=by
     unfold qaw at h3;split at h3
     ·cases h3;exact ⟨z0.1,z0.2.1,z0.2.2.1,fun e he=>by rw[z0.2.2.2] at he;cases he⟩
     ·cases hp:qa4 s st2 with
      | error p=>rw[hp] at h3;cases h3
      | ok r =>
       obtain ⟨e,st3'⟩:=r;rw[hp] at h3;cases h3;refine ⟨z0.1,z0.2.1,z0.2.2.1,fun e' he=>?_⟩
       cases he;exact ⟨qjq s _ _ _ g2.tk hp,by rw[Lg.qm0 s _ _ _ hp];exact (qbb s _ _ _ g2.tk hp).lt⟩
    cases h4:need s ⟨#[41]⟩ st3 with
    | error p=>rw[h4] at h;cases h
    | ok st4 =>
     rw[h4] at h;simp only at h;have g4:=qav g3.tk h4;cases h5:qa9 s x3 st4 with
     | error p=>rw[h5] at h;cases h
     | ok r5 =>
      obtain ⟨x5,st5⟩:=r5;rw[h5] at h;simp only at h;have g5:=qfo g4.tk h5;have z5:x5.op=99∧x5.n=1∧x5.ex=x3.ex∧(x5.asw.size=0∨x5.asPl < st5.t.a):=by
       unfold qa9 at h5;split at h5
       ·rename_i ho;have g0:=qaf g4.tk ho;cases hp:kind s 119 (nx s st4) with
        | error p=>rw[hp] at h5;cases h5
        | ok st' =>
         rw[hp] at h5;have g6:=qa6 g0.tk (by decide) (by decide) hp
         cases h5;exact ⟨z3.1,z3.2.1,rfl,Or.inr g6.lt⟩
       ·cases h5;exact ⟨z3.1,z3.2.1,rfl,Or.inl z3.2.2.1⟩
      cases h6:qat s x5 st5 with
      | error p=>rw[h6] at h;cases h
      | ok r6 =>
       obtain ⟨x6,st6⟩:=r6;rw[h6] at h;simp only at h;have g6:=qe6 g5.tk h6;have z6:x6.op=99∧x6.n=1∧x6.ex=x5.ex∧x6.asw=x5.asw∧x6.asPl=x5.asPl:=by
        unfold qat at h6;split at h6
        ·cases hp:kind s 119 (nx s st5) with
         | error p=>rw[hp] at h6;cases h6
         | ok st' =>
          rw[hp] at h6;cases h6;exact ⟨z5.1,z5.2.1,rfl,rfl,rfl⟩
        ·cases h6;exact ⟨z5.1,z5.2.1,rfl,rfl,rfl⟩
       cases h7:qas s x6 st6 with
       | error p=>rw[h7] at h;cases h
       | ok r7 =>
        obtain ⟨x7,st7⟩:=r7;rw[h7] at h;simp only at h;have g7:=qeh g6.tk h7;have z7:x7.op=99∧x7.ex=x6.ex∧x7.asw=x6.asw∧x7.asPl=x6.asPl∧((1≤x7.n∧x7.n≤5)∨(st6.t.a≤x7.nPl∧x7.nPl < st7.t.a)):=by
         unfold qas at h7;split at h7
         ·rename_i ho;have g0:=qaf g6.tk ho;cases hp:kind s 110 (nx s st6) with
          | error p=>rw[hp] at h7;cases h7
          | ok st' =>
           rw[hp] at h7;have g8:=qa6 g0.tk (by decide) (by decide) hp
           cases h7;exact ⟨z6.1,rfl,rfl,rfl,Or.inr ⟨Nat.le_of_lt g0.lt,g8.lt⟩⟩
         ·cases h7;exact ⟨z6.1,rfl,rfl,rfl,Or.inl ⟨by rw[z6.2.1];decide,by rw[z6.2.1];decide⟩⟩
        cases h8:need s ⟨#[59]⟩ st7 with
        | error p=>rw[h8] at h;cases h
        | ok st8 =>
         have g8:=qav g7.tk h8;rw[h8] at h;cases h;have l1:=g1.lt;have l2:=g2.lt;have l3:=g3.le;have l4:=g4.lt;have l5:=g5.le;have l6:=g6.le;have l7:=g7.le;have l8:=g8.lt;refine ⟨by omega,Or.inr (Or.inl ⟨z7.1,st3.t.a,st6.t.a,by omega,by omega,by omega,?_,?_,?_⟩)⟩
         ·intro e he;rw[z7.2.1,z6.2.2.1,z5.2.2.1] at he;obtain ⟨e1,e2⟩:=z3.2.2.2 e he;exact ⟨e1.mono (by omega) (Nat.le_refl _),e2⟩
         ·rw[z7.2.2.1,z7.2.2.2.1,z6.2.2.2.1,z6.2.2.2.2];rcases z5.2.2.2 with h | h
          ·exact Or.inl h
          ·exact Or.inr (by omega)
         ·rcases z7.2.2.2.2 with h | h
          ·exact Or.inl h
          ·exact Or.inr ⟨h.1,by omega⟩
theorem zia {s:ByteArray} {g:Ps→Except Nat (Sm×Ps)} (hg:Goes s g) (hs:qjv s g):qjv s (ifS s g):=by
 intro st x st' ht h;unfold ifS at h;cases h1:qa4 s st with
 | error p=>rw[h1] at h;cases h
 | ok r =>
  obtain ⟨e,st1⟩:=r;rw[h1] at h;simp only at h;have g1:=qbb s _ _ _ ht h1;have w1:=qjq s _ _ _ ht h1;have p1:e.pl < st1.t.a:=by rw[Lg.qm0 s _ _ _ h1];exact g1.lt
  have l1:=g1.lt;cases h2:block s g st1 with
  | error p=>rw[h2] at h;cases h
  | ok r =>
   obtain ⟨l,st2⟩:=r;rw[h2] at h;simp only at h;have g2:=qa0 hg _ _ _ g1.tk h2;have l2:=g2.lt;obtain ⟨a,b,m1,m2,m3⟩:=qgw hg hs g1.tk h2;split at h
   ·rename_i ho;have g3:=qaf g2.tk ho;have l3:=g3.lt;cases h4:block s g (nx s st2) with
    | error p=>rw[h4] at h;cases h
    | ok r =>
     obtain ⟨m,st3⟩:=r;have g4:=qa0 hg _ _ _ g3.tk h4;have l4:=g4.lt;obtain ⟨c,d,m4,m5,m6⟩:=qgw hg hs g3.tk h4;rw[h4] at h;cases h;exact ⟨by omega,Or.inr (Or.inr (Or.inl ⟨rfl,e,a,b,c,d,st1.t.a,rfl,w1,p1,by omega,m2,by omega,m5,m6⟩))⟩
   ·cases h;exact ⟨by omega,Or.inr (Or.inr (Or.inl ⟨rfl,e,a,b,b,b,st1.t.a,rfl,w1,p1,by omega,m2,Nat.le_refl _,zkc.2 (Nat.le_refl _),m3⟩))⟩
theorem zbz {s:ByteArray} {g:Ps→Except Nat (Sm×Ps)} (hg:Goes s g) (hs:qjv s g):qjv s (tryS s g):=by
 intro st x st' ht h;unfold tryS at h;cases h1:block s g st with
 | error p=>rw[h1] at h;cases h
 | ok r =>
  obtain ⟨l,st1⟩:=r;rw[h1] at h;simp only at h;have g1:=qa0 hg _ _ _ ht h1;have l1:=g1.lt;obtain ⟨a,b,m1,m2,m3⟩:=qgw hg hs ht h1;cases h2:need s ⟨#[101,108,115,101]⟩ st1 with
  | error p=>rw[h2] at h;cases h
  | ok st2 =>
   rw[h2] at h;simp only at h;have g2:=qav g1.tk h2;have l2:=g2.lt;cases h3:block s g st2 with
   | error p=>rw[h3] at h;cases h
   | ok r =>
    obtain ⟨m,st3⟩:=r;have g3:=qa0 hg _ _ _ g2.tk h3;have l3:=g3.lt;obtain ⟨c,d,m4,m5,m6⟩:=qgw hg hs g2.tk h3;rw[h3] at h;cases h;exact ⟨by omega,Or.inr (Or.inr (Or.inr (Or.inl ⟨rfl,a,b,c,d,by omega,m2,by omega,m5,m6⟩)))⟩
theorem qsu {s:ByteArray} {g:Ps→Except Nat (Sm×Ps)} (hg:Goes s g) (hs:qjv s g):qjv s (qbu s g):=by
 intro st x st' ht h;unfold qbu at h;cases h1:kind s 110 st with
 | error p=>rw[h1] at h;cases h
 | ok st1 =>
  rw[h1] at h;simp only at h;have g1:=qa6 ht (by decide) (by decide) h1
  have l1:=g1.lt;cases h2:block s g st1 with
  | error p=>rw[h2] at h;cases h
  | ok r =>
   obtain ⟨m,st3⟩:=r;have g2:=qa0 hg _ _ _ g1.tk h2;have l2:=g2.lt;obtain ⟨a,b,m1,m2,m3⟩:=qgw hg hs g1.tk h2;rw[h2] at h;cases h;exact ⟨by omega,Or.inr (Or.inr (Or.inr (Or.inr (Or.inl ⟨rfl,a,b,Nat.le_refl _,by show st.t.a < a;omega,m2,m3⟩))))⟩
theorem S1.down {x:Sm} {lo lo' md:Nat} (h:S1 x lo md) (hl:lo'≤lo):S1 x lo' md:=by
 obtain ⟨h0,h⟩:=h;refine ⟨by omega,?_⟩
 rcases h with ⟨o,e,h1,h2,h3⟩ | ⟨o,m1,m2,h1,h2,h3,h4,h5,h6⟩ | ⟨o,e,a,b,c,d,m1,h1,h2,h3,h4,h5,h6,h7,h8⟩ | ⟨o,a,b,c,d,h1,h2,h3,h4,h5⟩ | ⟨o,a,b,h1,h2,h3,h4⟩ | o
 ·exact Or.inl ⟨o,e,h1,h2.mono hl (Nat.le_refl _),h3⟩
 ·exact Or.inr (Or.inl ⟨o,m1,m2,by omega,h2,h3,fun e he=>⟨(h4 e he).1.mono hl (Nat.le_refl _),(h4 e he).2⟩,h5,h6⟩)
 ·exact Or.inr (Or.inr (Or.inl ⟨o,e,a,b,c,d,m1,h1,h2.mono hl (Nat.le_refl _),h3,h4,h5,h6,h7,h8⟩))
 ·exact Or.inr (Or.inr (Or.inr (Or.inl ⟨o,a,b,c,d,by omega,h2,h3,h4,h5⟩)))
 ·exact Or.inr (Or.inr (Or.inr (Or.inr (Or.inl ⟨o,a,b,by omega,h2,h3,h4⟩))))
 ·exact Or.inr (Or.inr (Or.inr (Or.inr (Or.inr o))))
theorem zb6 (s:ByteArray) (n:Nat):qjv s (stmt s n):=by
 induction n with
 | zero=>intro st x st' _ h;simp[stmt] at h
 | succ n ih =>
  intro st x st' ht h;have hgo:=qam s (n+1) _ _ _ ht h;have hlt:=hgo.lt;rw[stmt] at h;split at h
  ·rename_i ho;have g1:=qaf ht ho;exact (zc4 s _ _ _ g1.tk h).down (Nat.le_of_lt g1.lt)
  ·split at h
   ·rename_i ho;have g1:=qaf ht ho;exact (zdv s _ _ _ g1.tk h).down (Nat.le_of_lt g1.lt)
   ·split at h
    ·rename_i ho;have g1:=qaf ht ho;exact (zia (qam s n) ih _ _ _ g1.tk h).down (Nat.le_of_lt g1.lt)
    ·split at h
     ·rename_i ho;have g1:=qaf ht ho;exact (zbz (qam s n) ih _ _ _ g1.tk h).down (Nat.le_of_lt g1.lt)
     ·split at h
      ·rename_i ho;have g1:=qaf ht ho;exact (qsu (qam s n) ih _ _ _ g1.tk h).down (Nat.le_of_lt g1.lt)
      ·have ho:x.op=102:=by
        unfold qig at h;cases h1:need s ⟨#[102,97,105,108]⟩ st with
        | error p=>rw[h1] at h;cases h
        | ok st1 =>
         rw[h1] at h;simp only at h;cases h2:need s ⟨#[59]⟩ st1 with
         | error p=>rw[h2] at h;cases h
         | ok st2=>rw[h2] at h;cases h;rfl
       exact ⟨Nat.le_of_lt hlt,Or.inr (Or.inr (Or.inr (Or.inr (Or.inr ho))))⟩
theorem zcr {s:ByteArray} {l:List Sm} (h:read s=.ok l):∃ lo hi,Ss l lo hi:=by
 unfold read at h;split at h
 ·cases h
 ·cases hp:stmts s (stmt s (s.size+1)) (fun st=>st.t.k == 0) (s.size+1) [] ⟨tok s 0,0,-1⟩ with
  | error p=>rw[hp] at h;cases h
  | ok r =>
   obtain ⟨l',st⟩:=r;rw[hp] at h;simp only at h;split at h
   ·cases h
   ·cases h;have ht:=(qfv s 0 (Nat.zero_le _)).1;obtain ⟨r,hr,h2⟩:=qo5 (qam s _) (zb6 s _) _ _ _ _ _ _ ht hp;rw[List.nil_append] at hr;subst hr;exact ⟨_,_,h2⟩
end Px
end Go.Proofs.YtagpnplggopoeaaGreatDoor
