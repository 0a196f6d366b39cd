import Derived.Test.YthanmfbakpcigaaGreatDoorR00
set_option maxRecDepth 100000
namespace Go.Proofs.YthanmfbakpcigaaGreatDoor
namespace Px
def okE (V:Vs):Ex→Nat→Prop
 | ⟨op,n,word,_,_,none,_⟩,k=>if op=110 then k=105 else if op=116 then k=98∧n≤1 else op=119∧∃ i,qa3 V word=some i∧qcn V i=k
 | ⟨op,_,_,_,_,some l,none⟩,k=>op=33∧k=98∧okE V l 98
 | ⟨op,_,_,_,_,some l,some r⟩,k =>
  if op=61∨op=35 then k=98∧∃ j,okE V l j∧okE V r j
  else (op=42∨op=47∨op=43∨op=45∨op=60)∧k=(if op=60 then 98 else 105)∧okE V l 105∧okE V r 105
def okO (V:Vs) (x:Option Ex) (k:Nat):Prop:=∀ e,x=some e→okE V e k
def okV (V:Vs) (w:ByteArray) (k:Nat):Prop:=∃ i,qa3 V w=some i∧qcn V i=k
def okH (V:Vs) (op:Nat) (word:ByteArray) (ex:Option Ex) (asw:ByteArray) (n:Nat):Prop :=
 (op=108∧∃ e k,ex=some e∧okE V e k∧okV V word k∧(k=105∨k=98)) ∨
 (op=99∧okO V ex 105∧(asw.size=0∨okV V asw 105)∧1≤n∧n≤5) ∨
 (op=105∧∃ e,ex=some e∧okE V e 98)∨op=116∨(op=114∧n≤9)∨op=102
def okS (V:Vs):List Sm→Prop
 | []=>True
 | ⟨op,word,_,ex,asw,_,_,n,_,one,two⟩::rest=>okH V op word ex asw n∧(op=105∨op=116∨op=114→okS V one)∧(op=105∨op=116→okS V two)∧okS V rest
theorem zgx (V:Vs):okS V []:=by rw[okS];trivial
theorem qgd {V:Vs} {x:Sm} {l:List Sm}:okS V (x::l)↔okH V x.op x.word x.ex x.asw x.n∧(x.op=105∨x.op=116∨x.op=114→okS V x.one)∧(x.op=105∨x.op=116→okS V x.two)∧okS V l:=by
 obtain ⟨op,word,pl,ex,asw,asPl,undo,n,nPl,one,two⟩:=x;rw[okS]
def TrE:Ex→Prop
 | ⟨op,n,_,_,_,none,_⟩=>op=116→n≤1
 | ⟨_,_,_,_,_,some l,none⟩=>TrE l
 | ⟨_,_,_,_,_,some l,some r⟩=>TrE l∧TrE r
def TrS:List Sm→Prop
 | []=>True
 | ⟨_,_,_,ex,_,_,_,_,_,one,two⟩::rest=>(∀ e,ex=some e→TrE e)∧TrS one∧TrS two∧TrS rest
theorem qim:TrS []:=by rw[TrS];trivial
theorem zbp {x:Sm} {l:List Sm}:TrS (x::l)↔(∀ e,x.ex=some e→TrE e)∧TrS x.one∧TrS x.two∧TrS l:=by
 obtain ⟨op,word,pl,ex,asw,asPl,undo,n,nPl,one,two⟩:=x;rw[TrS]
theorem qp0 {l m:Vs} {w:ByteArray} {i:Nat} (h:qa3 l w=some i):qa3 (l++m) w=some i:=by
 induction l generalizing i with
 | nil=>cases h
 | cons v l ih =>
  obtain ⟨v,k⟩:=v;rw[qa3] at h;rw[List.cons_append,qa3];split at h
  ·rename_i hc;rw[if_pos hc];exact h
  ·rename_i hc;rw[if_neg hc];cases hf:qa3 l w with
   | none=>rw[hf] at h;cases h
   | some j=>rw[hf] at h;rw[ih hf];exact h
theorem zil {l:Vs} {w:ByteArray} {k:Nat} (h:qa3 l w=none):qa3 (l++[(w,k)]) w=some l.length:=by
 induction l with
 | nil=>simp[qa3]
 | cons v l ih =>
  obtain ⟨v,k'⟩:=v;rw[qa3] at h;split at h
  ·cases h
  ·rename_i hc;rw[List.cons_append,qa3,if_neg hc];have h2:qa3 l w=none:=by
    cases hf:qa3 l w with
    | none=>rfl
    | some j=>rw[hf] at h;cases h
   rw[ih h2];simp
theorem qmz {l m:Vs} {i:Nat} (h:i < l.length):qcn (l++m) i=qcn l i:=by
 unfold qcn;rw[List.getD_eq_getElem?_getD,List.getD_eq_getElem?_getD,List.getElem?_append_left h]
def K2 (V:Vs):Prop:=∀ v∈V,v.2=105∨v.2=98
theorem K2.at {V:Vs} (h:K2 V) {i:Nat} (hi:i < V.length):qcn V i=105∨qcn V i=98:=by
 obtain ⟨v,hv,e⟩:=qj9 hi;rw[e];exact h v hv
theorem qkf {c:Lk} {e p:Nat} (he:e≠0):¬ (say e p c).e=0:=qca he p
theorem zn2 {k want:Nat} (hk:k=105∨k=98):isK k want=true↔k=want:=by
 unfold isK;rw[Bool.or_eq_true,beq_iff_eq,beq_iff_eq];omega
theorem qj8 (x:Ex):∀ (c:Lk) (W:Vs),WfE x→TrE x→K2 c.vars→(qao x c).2.e=0→(qao x c).2=c∧((qao x c).1=105∨(qao x c).1=98)∧okE (c.vars++W) x (qao x c).1:=by
 match x with
 | ⟨op,n,word,pl,own,none,none⟩ =>
  intro c W hw ht hk h;rw[qao] at h ⊢;unfold qpq at h ⊢;have hw':op=110∨op=116∨op=119:=hw;by_cases h1:op=110
  ·rw[if_pos h1];refine ⟨rfl,Or.inl rfl,?_⟩;rw[okE,if_pos h1]
  ·rw[if_neg h1] at h ⊢;by_cases h2:op=116
   ·rw[if_pos h2];refine ⟨rfl,Or.inr rfl,?_⟩;rw[okE,if_neg h1,if_pos h2];exact ⟨rfl,ht h2⟩
   ·rw[if_neg h2] at h ⊢;cases hf:qa3 c.vars word with
    | none=>rw[hf] at h;exact absurd h (qkf (by decide))
    | some i =>
     dsimp only;have hi:=qds hf;refine ⟨rfl,hk.at hi,?_⟩;rw[okE,if_neg h1,if_neg h2];exact ⟨by omega,i,qp0 hf,qmz hi⟩
 | ⟨op,n,word,pl,own,none,some r⟩=>intro c W hw;exact hw.elim
 | ⟨op,n,word,pl,own,some l,none⟩ =>
  intro c W hw ht hk h;rw[qao] at h ⊢;unfold notK at h ⊢;dsimp only at h ⊢;have hl:(qao l c).2.e=0∧isK (qao l c).1 98=true:=by
   split at h
   ·rename_i hi;exact ⟨h,hi⟩
   ·exact absurd h (qkf (by decide))
  obtain ⟨i1,i2,i3⟩:=qj8 l c W hw.2 ht hk hl.1;rw[if_pos hl.2];refine ⟨i1,Or.inr rfl,?_⟩;rw[okE];rw[(zn2 i2).1 hl.2] at i3;exact ⟨hw.1,rfl,i3⟩
 | ⟨op,n,word,pl,own,some l,some r⟩ =>
  intro c W hw ht hk h;rw[qao] at h ⊢;obtain ⟨hop,hwl,hwr⟩:=hw;have hr0:(qao r (qao l c).2).2.e=0:=by
   unfold binK at h;split at h
   ·dsimp only at h;split at h
    ·exact absurd h (qkf (by decide))
    ·exact h
   ·dsimp only at h;split at h
    ·exact h
    ·exact absurd h (qkf (by decide))
  have hl0:(qao l c).2.e=0:=Decidable.byContradiction fun hn=>qfz r _ hn hr0
  obtain ⟨i1,i2,i3⟩:=qj8 l c W hwl ht.1 hk hl0;rw[i1] at hr0 h ⊢;obtain ⟨j1,j2,j3⟩:=qj8 r c W hwr ht.2 hk hr0;unfold binK at h ⊢;by_cases ho:op=61∨op=35
  ·rw[if_pos ho] at h ⊢;dsimp only at h ⊢;split at h
   ·exact absurd h (qkf (by decide))
   ·rename_i hu;rw[if_neg hu,j1];refine ⟨rfl,Or.inr rfl,?_⟩;rw[okE,if_pos ho]
    have:(qao l c).1=(qao r c).1:=by
     unfold qft at hu;simp only[Bool.and_eq_true,bne_iff_ne,ne_eq,not_and,Decidable.not_not] at hu;omega
    exact ⟨rfl,_,i3,by rw[this];exact j3⟩
  ·rw[if_neg ho] at h ⊢;dsimp only at h ⊢;split at h
   ·rename_i hi;rw[if_pos hi,j1];rw[Bool.and_eq_true,zn2 i2,zn2 j2] at hi;refine ⟨rfl,by split<;>omega,?_⟩
    rw[okE,if_neg ho];rw[hi.1] at i3;rw[hi.2] at j3;exact ⟨by omega,rfl,i3,j3⟩
   ·exact absurd h (qkf (by decide))
theorem za3 {c:Lk} {w:ByteArray} {p k:Nat} (hk:K2 c.vars) (hk':k=105∨k=98) (h:(qc7 w p k c).e=0):c.e=0∧K2 (qc7 w p k c).vars∧(∃ m,(qc7 w p k c).vars=c.vars++m)∧∀ W,okV ((qc7 w p k c).vars++W) w k:=by
 have hc0:c.e=0:=Decidable.byContradiction fun hn=>qf2 hn w p k h
 unfold qc7 at h ⊢;cases hf:qa3 c.vars w with
 | none =>
  simp only;refine ⟨hc0,?_,⟨[(w,k)],rfl⟩,?_⟩
  ·intro v hv;rw[List.mem_append,List.mem_singleton] at hv;rcases hv with hv | rfl
   ·exact hk v hv
   ·exact hk'
  ·intro W;refine ⟨c.vars.length,qp0 (zil hf),?_⟩;rw[qmz (by simp)]
   unfold qcn;simp[List.getD_eq_getElem?_getD]
 | some i =>
  rw[hf] at h;simp only at h ⊢;have hi:=qds hf;split at h
  ·exact absurd h (qkf (by decide))
  ·rename_i hu;rw[if_neg hu];refine ⟨hc0,hk,⟨[],by simp⟩,fun W=>⟨i,qp0 hf,?_⟩⟩
   rw[qmz hi]
   have:=hk.at hi
   unfold qft at hu;simp only[Bool.and_eq_true,bne_iff_ne,ne_eq,not_and,Decidable.not_not] at hu;omega
theorem qtd {c:Lk} {x:Option Ex} {k:Nat} (hw:WfO x) (ht:∀ e,x=some e→TrE e) (hk:K2 c.vars) (h:(qbq x k c).e=0):c.e=0∧qbq x k c=c∧∀ W,okO (c.vars++W) x k:=by
 have hc0:c.e=0:=Decidable.byContradiction fun hn=>qlj hn x k h
 unfold qbq at h ⊢;cases x with
 | none=>exact ⟨hc0,rfl,fun W e he=>by cases he⟩
 | some e =>
  simp only at h ⊢;split at h
  ·rename_i hi;rw[if_pos hi];have hh:=fun W=>qj8 e c W (hw e rfl) (ht e rfl) hk h
   refine ⟨hc0,(hh []).1,fun W e' he=>?_⟩
   cases he;obtain ⟨_,i2,i3⟩:=hh W;rw[(zn2 i2).1 hi] at i3;exact i3
  ·exact absurd h (qkf (by decide))
theorem qg9 (l:List Sm):∀ (c:Lk),WfS l→TrS l→K2 c.vars→(qap l c).e=0→c.e=0∧K2 (qap l c).vars∧(∃ m,(qap l c).vars=c.vars++m)∧∀ W,okS ((qap l c).vars++W) l:=by
 match l with
 | []=>intro c _ _ hk h;rw[qap] at h ⊢;exact ⟨h,hk,⟨[],by simp⟩,fun W=>zgx _⟩
 | ⟨op,word,pl,ex,asw,asPl,undo,n,nPl,one,two⟩::rest =>
  intro c hw ht hk h;rw[qmv] at h ⊢;obtain ⟨⟨hw1,hw2⟩,hwo,hwt,hwr⟩:=qd7.1 hw;obtain ⟨ht1,hto,htt,htr⟩:=zbp.1 ht;dsimp only at hw1 hw2 hwo hwt ht1 hto htt;have hx:(qmw ⟨op,word,pl,ex,asw,asPl,undo,n,nPl,one,two⟩ c).e=0:=Decidable.byContradiction fun hn=>qb7 rest _ hn h
  have key:c.e=0∧K2 (qmw ⟨op,word,pl,ex,asw,asPl,undo,n,nPl,one,two⟩ c).vars∧(∃ m,(qmw ⟨op,word,pl,ex,asw,asPl,undo,n,nPl,one,two⟩ c).vars=c.vars++m) ∧
    ∀ W,okH ((qmw ⟨op,word,pl,ex,asw,asPl,undo,n,nPl,one,two⟩ c).vars++W) op word ex asw n∧(op=105∨op=116∨op=114→okS ((qmw ⟨op,word,pl,ex,asw,asPl,undo,n,nPl,one,two⟩ c).vars++W) one)∧(op=105∨op=116→okS ((qmw ⟨op,word,pl,ex,asw,asPl,undo,n,nPl,one,two⟩ c).vars++W) two):=by
   unfold qmw at hx ⊢;dsimp only at hx ⊢;by_cases o1:op=108
   ·rw[if_pos o1] at hx ⊢;obtain ⟨e,rfl⟩:∃ e,ex=some e:=by
     cases ex with
     | none=>rcases hw2 with h | h | h | h | h | h<;>first | exact absurd rfl h.2 | omega
     | some e=>exact ⟨e,rfl⟩
    dsimp only at hx ⊢;have he0:(qao e c).2.e=0:=Decidable.byContradiction fun hn=>qf2 hn _ _ _ hx
    obtain ⟨i1,i2,_⟩:=qj8 e c [] (hw1 e rfl) (ht1 e rfl) hk he0;have i3:=fun W=>(qj8 e c W (hw1 e rfl) (ht1 e rfl) hk he0).2.2
    rw[i1] at hx ⊢;obtain ⟨g1,g2,⟨m,g3⟩,g4⟩:=za3 hk i2 hx;refine ⟨g1,g2,⟨m,g3⟩,fun W=>⟨Or.inl ⟨o1,e,_,rfl,?_,g4 W,i2⟩,fun h=>by omega,fun h=>by omega⟩⟩
    rw[g3,List.append_assoc];exact i3 _
   ·rw[if_neg o1] at hx ⊢;by_cases o2:op=99
    ·rw[if_pos o2] at hx ⊢;have hn:1≤n∧n≤5:=by
      by_cases hn:n < 1∨5 < n
      ·rw[if_pos hn] at hx;exact absurd hx (qkf (by decide))
      ·omega
     have hnn:¬ (n < 1∨5 < n):=by omega
     rw[if_neg hnn] at hx ⊢;by_cases ha:asw.toList.isEmpty
     ·rw[if_pos ha] at hx ⊢;obtain ⟨m1,m2,m3⟩:=qtd hw1 ht1 hk hx;rw[m2];refine ⟨m1,hk,⟨[],by simp⟩,fun W=>⟨Or.inr (Or.inl ⟨o2,m3 W,Or.inl ?_,hn.1,hn.2⟩),fun h=>by omega,fun h=>by omega⟩⟩
      rw[List.isEmpty_iff,ByteArray.toList_eq] at ha;exact List.length_eq_zero_iff.2 ha
     ·rw[if_neg ha] at hx ⊢;have hm0:(qbq ex 105 c).e=0:=Decidable.byContradiction fun hn=>qf2 hn _ _ _ hx
      obtain ⟨m1,m2,m3⟩:=qtd hw1 ht1 hk hm0;rw[m2] at hx ⊢;obtain ⟨g1,g2,⟨m,g3⟩,g4⟩:=za3 hk (Or.inl rfl) hx;refine ⟨g1,g2,⟨m,g3⟩,fun W=>⟨Or.inr (Or.inl ⟨o2,?_,Or.inr (g4 W),hn.1,hn.2⟩),fun h=>by omega,fun h=>by omega⟩⟩
      rw[g3,List.append_assoc];exact m3 _
    ·rw[if_neg o2] at hx ⊢;by_cases o3:op=105
     ·rw[if_pos o3] at hx ⊢;have h1:(qap one (qbq ex 98 c)).e=0:=Decidable.byContradiction fun hn=>qb7 two _ hn hx
      have h0:(qbq ex 98 c).e=0:=Decidable.byContradiction fun hn=>qb7 one _ hn h1
      obtain ⟨m1,m2,m3⟩:=qtd hw1 ht1 hk h0;rw[m2] at hx h1 ⊢;obtain ⟨a1,a2,⟨ma,a3⟩,a4⟩:=qg9 one c hwo hto hk h1;obtain ⟨b1,b2,⟨mb,b3⟩,b4⟩:=qg9 two (qap one c) hwt htt a2 hx;obtain ⟨e,rfl⟩:∃ e,ex=some e:=by
       cases ex with
       | none=>rcases hw2 with h | h | h | h | h | h<;>first | exact absurd rfl h.2 | omega
       | some e=>exact ⟨e,rfl⟩
      refine ⟨m1,b2,⟨ma++mb,by rw[b3,a3,List.append_assoc]⟩,fun W=>⟨Or.inr (Or.inr (Or.inl ⟨o3,e,rfl,?_⟩)),fun _=>?_,fun _=>b4 W⟩⟩
      ·rw[b3,a3,List.append_assoc,List.append_assoc];exact m3 _ e rfl
      ·rw[b3,List.append_assoc];exact a4 _
     ·rw[if_neg o3] at hx ⊢;by_cases o4:op=116
      ·rw[if_pos o4] at hx ⊢;have h1:(qap one c).e=0:=Decidable.byContradiction fun hn=>qb7 two _ hn hx
       obtain ⟨a1,a2,⟨ma,a3⟩,a4⟩:=qg9 one c hwo hto hk h1;obtain ⟨b1,b2,⟨mb,b3⟩,b4⟩:=qg9 two (qap one c) hwt htt a2 hx;refine ⟨a1,b2,⟨ma++mb,by rw[b3,a3,List.append_assoc]⟩,fun W=>⟨Or.inr (Or.inr (Or.inr (Or.inl o4))),fun _=>?_,fun _=>b4 W⟩⟩
       rw[b3,List.append_assoc];exact a4 _
      ·rw[if_neg o4] at hx ⊢;by_cases o5:op=114
       ·rw[if_pos o5] at hx ⊢;have hn:n≤9:=by
         by_cases hn:9 < n
         ·rw[if_pos hn] at hx;exact absurd hx (qb7 one _ (qca (by decide) _))
         ·omega
        rw[if_neg (by omega)] at hx ⊢
        obtain ⟨a1,a2,⟨ma,a3⟩,a4⟩:=qg9 one c hwo hto hk hx;exact ⟨a1,a2,⟨ma,a3⟩,fun W=>⟨Or.inr (Or.inr (Or.inr (Or.inr (Or.inl ⟨o5,hn⟩)))),fun _=>a4 W,fun h=>by omega⟩⟩
       ·rw[if_neg o5] at hx ⊢;refine ⟨hx,hk,⟨[],by simp⟩,fun W=>⟨Or.inr (Or.inr (Or.inr (Or.inr (Or.inr ?_)))),fun h=>by omega,fun h=>by omega⟩⟩
        rcases hw2 with h | h | h | h | h | h<;>omega
  obtain ⟨k1,k2,⟨m,k3⟩,k4⟩:=key;obtain ⟨r1,r2,⟨m',r3⟩,r4⟩:=qg9 rest _ hwr htr k2 h;refine ⟨k1,r2,⟨m++m',by rw[r3,k3,List.append_assoc]⟩,fun W=>?_⟩
  rw[qgd];dsimp only;rw[r3,List.append_assoc];obtain ⟨q1,q2,q3⟩:=k4 (m'++W);refine ⟨q1,q2,q3,?_⟩;rw[← List.append_assoc,← r3];exact r4 W
open Go.RowKit
structure Ins where
 k:Nat
 a:Nat
 b:Nat
structure Pg where
 words:List ByteArray
 nv:Nat
 ins:List Ins
structure Ms where
 st:List Int
 vars:List Int
 undos:List (Nat×Int)
 begun:List (Nat×Nat×Nat)
 asks:List Ask
 left:List Int
 place:Nat
 tried:Nat
 qak:Bool
 fin:Nat
def askM (P:Pg) (i:Nat) (arg:Int) (most:Nat) (und:Bool) (m:Ms):Nat×Int×Ms :=
 match m.left with
 | []=>(2,0,{ m with asks:=m.asks++[⟨P.words.getD i nowt,arg,m.tried+1,und⟩] })
 | v::r =>
  if v < 0∧m.tried+1 < most then (3,0,{ m with asks:=m.asks++[⟨P.words.getD i nowt,arg,m.tried+1,und⟩],left:=r,tried:=m.tried+1 })
  else if v < 0 then (1,0,{ m with asks:=m.asks++[⟨P.words.getD i nowt,arg,m.tried+1,und⟩],left:=r,tried:=0 })
  else (0,v,{ m with asks:=m.asks++[⟨P.words.getD i nowt,arg,m.tried+1,und⟩],left:=r,tried:=0 })
def op2M (k:Nat) (a b:Int):Int :=
 if k=4 then wrap64 (a+b) else if k=5 then wrap64 (a - b) else if k=6 then wrap64 (a * b)
 else if k=8 then truth (decide (a < b)) else if k=9 then truth (decide (a=b)) else truth (decide (a≠b))
def doM (P:Pg) (i:Ins) (m:Ms):Nat×Ms :=
 if i.k=0 then (0,{ m with st:=(i.a:Int)::m.st })
 else if i.k=1 then (0,{ m with st:=m.vars.getD i.a 0::m.st })
 else if i.k=2 then (0,{ m with vars:=m.vars.set i.a (m.st.headD 0),st:=m.st.tail })
 else if i.k=3 then (0,{ m with st:=m.st.tail })
 else if i.k=7 then
  if m.st.headD 0=0 then (1,m) else (0,{ m with st:=wrap64 ((m.st.tail.headD 0).tdiv (m.st.headD 0))::m.st.tail.tail })
 else if i.k≤10 then (0,{ m with st:=op2M i.k (m.st.tail.headD 0) (m.st.headD 0)::m.st.tail.tail })
 else if i.k=11 then (0,{ m with st:=truth (decide (m.st.headD 0=0))::m.st.tail })
 else if i.k=12 then (0,{ m with place:=i.a })
 else if i.k=13 then (0,{ m with st:=m.st.tail,place:=if m.st.headD 0=0 then i.a else m.place })
 else if i.k=14 then
  if 0 < m.st.headD 0 then (0,{ m with st:=wrap64 (m.st.headD 0 - 1)::m.st.tail }) else (0,{ m with st:=m.st.tail,place:=i.a })
 else if i.k=15 then (0,{ m with begun:=(m.undos.length,m.st.length,i.a)::m.begun })
 else if i.k=16 then (0,{ m with begun:=m.begun.tail,place:=i.a })
 else if i.k=17 then (1,m)
 else if i.k=18 then
  match askM P i.a (m.st.headD 0) i.b false m with
  | (0,v,m')=>(0,{ m' with st:=v::m'.st.tail })
  | (e,_,m')=>(e,m')
 else (0,{ m with undos:=(i.a,m.st.headD 0)::m.undos })
def qbw (m:Ms):Nat :=
 match m.begun with
 | []=>0
 | b::_=>b.1
def qa2 (P:Pg) (m:Ms):Nat×Ms :=
 match m.undos with
 | []=>behind
 | u::r =>
  if m.undos.length=qbw m then behind
  else
   match askM P u.1 u.2 3 true m with
   | (0,_,m')=>(0,{ m' with undos:=r })
   | (1,_,m')=>(4,m')
   | (e,_,m')=>(e,m')
where
 behind:Nat×Ms :=
  match m.begun with
  | []=>(0,{ m with qak:=false,fin:=2 })
  | b::r=>(0,{ m with qak:=false,begun:=r,st:=m.st.drop (m.st.length - b.2.1),place:=b.2.2 })
def qa1 (P:Pg) (m:Ms):Nat×Ms :=
 if m.qak then qa2 P m
 else
  match P.ins[m.place]? with
  | none=>(0,{ m with fin:=1 })
  | some i =>
   match doM P i { m with place:=m.place+1 } with
   | (0,m')=>(0,m')
   | (e,m')=>(e,{ m' with place:=m.place })
def qbo (P:Pg) (m:Ms):Bool×Ms :=
 match qa1 P m with
 | (0,m')=>(decide (m'.fin≠0),m')
 | (1,m')=>(decide (m'.fin≠0),{ m' with qak:=true })
 | (2,m')=>(true,m')
 | (3,m')=>(decide (m'.fin≠0),m')
 | (_,m')=>(true,{ m' with fin:=3 })
def runM (P:Pg):Nat→Ms→Nat×Ms
 | 0,m=>(4,m)
 | n+1,m=>if (qbo P m).1 then ((qbo P m).2.fin,(qbo P m).2) else runM P n (qbo P m).2
def qa7 (P:Pg):Nat→Ms→Option Ms
 | 0,m=>some m
 | n+1,m=>if (qbo P m).1 then none else qa7 P n (qbo P m).2
theorem qaz {P:Pg} {a b:Nat} {m m1 m2:Ms} (h:qa7 P a m=some m1) (k:qa7 P b m1=some m2):qa7 P (a+b) m=some m2:=by
 induction a generalizing m with
 | zero=>cases h;simpa using k
 | succ a ih =>
  rw[qa7] at h;rw[show a+1+b=(a+b)+1 by omega,qa7]
  split at h
  ·cases h
  ·rename_i hs;rw[if_neg hs];exact ih h
theorem qes {P:Pg} {m m1:Ms} (h:qbo P m=(false,m1)):qa7 P 1 m=some m1:=by
 rw[qa7,h];rfl
theorem qq9 {P:Pg} {a n:Nat} {m m1:Ms} (h:qa7 P a m=some m1) (hn:a≤n):runM P n m=runM P (n - a) m1:=by
 induction a generalizing m n with
 | zero=>cases h;rfl
 | succ a ih =>
  obtain ⟨n,rfl⟩:∃ k,n=k+1:=⟨n - 1,by omega⟩
  rw[qa7] at h;split at h
  ·cases h
  ·rename_i hs;rw[runM,if_neg hs,ih h (by omega)]
   congr 1;omega
theorem zfl {P:Pg} {n:Nat} {m m1:Ms} (h:qbo P m=(true,m1)) (hn:0 < n):runM P n m=(m1.fin,m1):=by
 obtain ⟨n,rfl⟩:∃ k,n=k+1:=⟨n - 1,by omega⟩
 rw[runM,h];rfl
def idxW:List ByteArray→ByteArray→Nat
 | [],_=>0
 | v::r,w=>if v.toList == w.toList then 0 else idxW r w+1
def qdb (op:Nat):Nat:=if op=43 then 4 else if op=45 then 5 else if op=42 then 6 else if op=47 then 7 else if op=60 then 8 else if op=61 then 9 else 10
def mkE (iv:ByteArray→Nat):Ex→List Ins
 | ⟨op,n,word,_,_,none,_⟩=>if op=119 then [⟨1,iv word,0⟩] else [⟨0,n,0⟩]
 | ⟨_,_,_,_,_,some l,none⟩=>mkE iv l++[⟨11,0,0⟩]
 | ⟨op,_,_,_,_,some l,some r⟩=>mkE iv l++mkE iv r++[⟨qdb op,0,0⟩]
def mkO (iv:ByteArray→Nat) (x:Option Ex):List Ins :=
 match x with
 | none=>[⟨0,0,0⟩]
 | some e=>mkE iv e
def mkC (iw iv:ByteArray→Nat) (word:ByteArray) (ex:Option Ex) (asw undo:ByteArray) (n:Nat):List Ins :=
 mkO iv ex++([⟨18,iw word,n⟩]++((if undo.size=0 then [] else [⟨19,iw undo,0⟩])++[if asw.size=0 then ⟨3,0,0⟩ else ⟨2,iv asw,0⟩]))
def mkS (iw iv:ByteArray→Nat):List Sm→Nat→List Ins
 | [],_=>[]
 | ⟨op,word,_,ex,asw,_,undo,n,_,one,two⟩::rest,p =>
  let c :=
   if op=108 then mkO iv ex++[⟨2,iv word,0⟩]
   else if op=99 then mkC iw iv word ex asw undo n
   else if op=105 then
    let x:=mkO iv ex
    let a:=mkS iw iv one (p+x.length+1)
    if two.isEmpty then x++([⟨13,p+x.length+1+a.length,0⟩]++a)
    else
     let b:=mkS iw iv two (p+x.length+1+a.length+1)
     x++([⟨13,p+x.length+1+a.length+1,0⟩]++(a++([⟨12,p+x.length+1+a.length+1+b.length,0⟩]++b)))
   else if op=116 then
    let a:=mkS iw iv one (p+1)
    let b:=mkS iw iv two (p+1+a.length+1)
    [⟨15,p+1+a.length+1,0⟩]++(a++([⟨16,p+1+a.length+1+b.length,0⟩]++b))
   else if op=114 then
    let a:=mkS iw iv one (p+2)
    [⟨0,n,0⟩]++([⟨14,p+2+a.length+1,0⟩]++(a++[⟨12,p+1,0⟩]))
   else [⟨17,0,0⟩]
  c++mkS iw iv rest (p+c.length)
def mkX (iw iv:ByteArray→Nat) (x:Sm) (p:Nat):List Ins :=
 if x.op=108 then mkO iv x.ex++[⟨2,iv x.word,0⟩]
 else if x.op=99 then mkC iw iv x.word x.ex x.asw x.undo x.n
 else if x.op=105 then
  let c:=mkO iv x.ex
  let a:=mkS iw iv x.one (p+c.length+1)
  if x.two.isEmpty then c++([⟨13,p+c.length+1+a.length,0⟩]++a)
  else
   let b:=mkS iw iv x.two (p+c.length+1+a.length+1)
   c++([⟨13,p+c.length+1+a.length+1,0⟩]++(a++([⟨12,p+c.length+1+a.length+1+b.length,0⟩]++b)))
 else if x.op=116 then
  let a:=mkS iw iv x.one (p+1)
  let b:=mkS iw iv x.two (p+1+a.length+1)
  [⟨15,p+1+a.length+1,0⟩]++(a++([⟨16,p+1+a.length+1+b.length,0⟩]++b))
 else if x.op=114 then
  let a:=mkS iw iv x.one (p+2)
  [⟨0,x.n,0⟩]++([⟨14,p+2+a.length+1,0⟩]++(a++[⟨12,p+1,0⟩]))
 else [⟨17,0,0⟩]
theorem qms (iw iv:ByteArray→Nat) (p:Nat):mkS iw iv [] p=[]:=by rw[mkS]
theorem qh7 (iw iv:ByteArray→Nat) (x:Sm) (l:List Sm) (p:Nat):mkS iw iv (x::l) p=mkX iw iv x p++mkS iw iv l (p+(mkX iw iv x p).length):=by
 obtain ⟨op,word,pl,ex,asw,asPl,undo,n,nPl,one,two⟩:=x;rw[mkS.eq_def];rfl
def coE:Ex→Nat
 | ⟨_,_,_,_,_,none,_⟩=>1
 | ⟨_,_,_,_,_,some l,none⟩=>coE l+1
 | ⟨_,_,_,_,_,some l,some r⟩=>coE l+coE r+1
def coO (x:Option Ex):Nat :=
 match x with
 | none=>1
 | some e=>coE e
def coS:List Sm→Nat
 | []=>0
 | ⟨op,_,_,ex,_,_,undo,n,_,one,two⟩::rest =>
  (if op=108 then coO ex+1
   else if op=99 then coO ex+n+(if undo.size=0 then 0 else 4)+1
   else if op=105 then coO ex+2+coS one+coS two
   else if op=116 then 3+coS one+coS two
   else if op=114 then 2+n * (coS one+2)
   else 1)+coS rest
def coX (x:Sm):Nat :=
 if x.op=108 then coO x.ex+1
 else if x.op=99 then coO x.ex+x.n+(if x.undo.size=0 then 0 else 4)+1
 else if x.op=105 then coO x.ex+2+coS x.one+coS x.two
 else if x.op=116 then 3+coS x.one+coS x.two
 else if x.op=114 then 2+x.n * (coS x.one+2)
 else 1
theorem qyi:coS []=0:=by rw[coS]
theorem zbe (x:Sm) (l:List Sm):coS (x::l)=coX x+coS l:=by
 obtain ⟨op,word,pl,ex,asw,asPl,undo,n,nPl,one,two⟩:=x;rw[coS];rfl
open Go.RowKit
def CodeAt (P:Pg) (p:Nat) (c:List Ins):Prop:=∀ j,j < c.length→P.ins[p+j]?=c[j]?
theorem CodeAt.left {P:Pg} {p:Nat} {a b:List Ins} (h:CodeAt P p (a++b)):CodeAt P p a:=fun j hj=>by
 rw[h j (by simp;omega),List.getElem?_append_left hj]
theorem CodeAt.right {P:Pg} {p:Nat} {a b:List Ins} (h:CodeAt P p (a++b)):CodeAt P (p+a.length) b:=fun j hj=>by
 rw[Nat.add_assoc,h (a.length+j) (by simp;omega),List.getElem?_append_right (by omega),Nat.add_sub_cancel_left]
theorem CodeAt.head {P:Pg} {p:Nat} {i:Ins} {b:List Ins} (h:CodeAt P p (i::b)):P.ins[p]?=some i:=by
 have:=h 0 (by simp)
 simpa using this
theorem CodeAt.one {P:Pg} {p:Nat} {i:Ins} (h:CodeAt P p [i]):P.ins[p]?=some i:=h.head
theorem qtc {P:Pg} {m:Ms} {i:Ins} (hi:P.ins[m.place]?=some i) (hu:m.qak=false):qa1 P m=match doM P i { m with place:=m.place+1 } with
  | (0,m')=>(0,m')
  | (e,m')=>(e,{ m' with place:=m.place }):=by
 unfold qa1;rw[if_neg (by simp[hu]),hi]
 all_goals rfl
theorem step_ok {P:Pg} {m m':Ms} {i:Ins} (hi:P.ins[m.place]?=some i) (hu:m.qak=false) (hd:doM P i { m with place:=m.place+1 }=(0,m')) (hf:m'.fin=0):qa7 P 1 m=some m':=by
 refine qes ?_;unfold qbo;rw[qtc hi hu,hd];simp only[hf];rfl
theorem qvd {P:Pg} {m m':Ms} {i:Ins} (hi:P.ins[m.place]?=some i) (hu:m.qak=false) (hd:doM P i { m with place:=m.place+1 }=(1,m')) (hf:m'.fin=0):qa7 P 1 m=some { m' with place:=m.place,qak:=true }:=by
 refine qes ?_;unfold qbo;rw[qtc hi hu,hd];simp only[hf];rfl
theorem qeo (iv:ByteArray→Nat) (x:Ex):(mkE iv x).length=coE x:=by
 match x with
 | ⟨op,n,word,pl,own,none,_⟩=>rw[mkE,coE];split<;>rfl
 | ⟨op,n,word,pl,own,some l,none⟩=>rw[mkE,coE,List.length_append,qeo iv l];rfl
 | ⟨op,n,word,pl,own,some l,some r⟩=>rw[mkE,coE,List.length_append,List.length_append,qeo iv l,qeo iv r];rfl
structure TyH (V:Vs) (held:List Int):Prop where
 len:held.length=V.length
 tr:∀ i,i < V.length→qcn V i=98→held.getD i 0=0∨held.getD i 0=1
theorem qzc (b:Bool):truth b=0∨truth b=1:=by cases b<;>simp[truth]
theorem op2_M {op:Nat} (h:op=42∨op=43∨op=45∨op=60∨op=61∨op=35) (a b:Int):op2 op a b=some (op2M (qdb op) a b)∧qdb op≤10∧qdb op≠7∧4≤qdb op:=by
 rcases h with rfl | rfl | rfl | rfl | rfl | rfl<;>simp[op2,op2M,qdb]
theorem zul {P:Pg} {k x y:Nat} (h1:4≤k) (h2:k≤10) (h3:k≠7) {m:Ms} {a b:Int} {r:List Int} (hs:m.st=b::a::r):doM P ⟨k,x,y⟩ m=(0,{ m with st:=op2M k a b::r }):=by
 unfold doM;rw[if_neg (by dsimp only;omega),if_neg (by dsimp only;omega),if_neg (by dsimp only;omega),if_neg (by dsimp only;omega),if_neg (by dsimp only;omega),if_pos (by dsimp only;omega),hs]
 rfl
theorem qof (P:Pg) (V:Vs) (iv:ByteArray→Nat) (hiv:∀ w i,qa3 V w=some i→iv w=i) (x:Ex):∀ (k:Nat) (m:Ms),okE V x k→TyH V m.vars→m.qak=false→m.fin=0→CodeAt P m.place (mkE iv x) →
  (∀ v,evE V m.vars x=some v→qa7 P (coE x) m=some { m with st:=v::m.st,place:=m.place+coE x }∧(k=98→v=0∨v=1)) ∧
  (evE V m.vars x=none→∃ n t q,n≤coE x∧qa7 P n m=some { m with st:=t++m.st,place:=q,qak:=true }):=by
 match x with
 | ⟨op,n,word,pl,own,none,r⟩ =>
  intro k m hk hty hu hf hc;rw[mkE] at hc;rw[evE,coE];rw[okE] at hk;by_cases h1:op=110
  ·rw[if_pos h1] at hk;rw[if_neg (by omega)] at hc ⊢
   refine ⟨fun v hv=>?_,fun h=>(by cases h)⟩
   cases hv;refine ⟨step_ok hc.one hu rfl hf,fun h=>by omega⟩
  ·rw[if_neg h1] at hk;by_cases h2:op=116
   ·rw[if_pos h2] at hk;rw[if_neg (by omega)] at hc ⊢
    refine ⟨fun v hv=>?_,fun h=>(by cases h)⟩
    cases hv;exact ⟨step_ok hc.one hu rfl hf,fun h=>by have:=hk.2;omega⟩
   ·rw[if_neg h2] at hk;obtain ⟨h3,i,hi,hki⟩:=hk;rw[if_pos h3] at hc ⊢;refine ⟨fun v hv=>?_,fun h=>(by cases h)⟩
    cases hv;have hlt:=qds hi;refine ⟨?_,fun h=>?_⟩
    ·have e:qv9 V m.vars word=m.vars.getD (iv word) 0:=by unfold qv9;rw[hi,hiv _ _ hi]
     rw[e];exact step_ok hc.one hu rfl hf
    ·unfold qv9;rw[hi];exact hty.tr i hlt (by omega)
 | ⟨op,n,word,pl,own,some l,none⟩ =>
  intro k m hk hty hu hf hc;rw[mkE] at hc;rw[evE,coE];rw[okE] at hk;obtain ⟨i1,i2⟩:=qof P V iv hiv l 98 m hk.2.2 hty hu hf hc.left;constructor
  ·intro v hv;cases he:evE V m.vars l with
   | none=>rw[he] at hv;cases hv
   | some a =>
    rw[he] at hv;cases hv;dsimp only;obtain ⟨j1,j2⟩:=i1 a he;have hr:=hc.right;rw[qeo] at hr;have e1:truth (decide (a=0))=wrap64 (1 - a):=by
     rcases j2 rfl with rfl | rfl<;>simp[truth,wrap64]
    refine ⟨qaz j1 (step_ok (m':={ m with st:=wrap64 (1 - a)::m.st,place:=m.place+(coE l+1) }) hr.one hu ?_ hf),fun _=>?_⟩
    ·rw[← e1];rfl
    ·rw[← e1];exact qzc _
  ·intro hv;cases he:evE V m.vars l with
   | some a=>rw[he] at hv;cases hv
   | none =>
    obtain ⟨n',t,q,h1,h2⟩:=i2 he;exact ⟨n',t,q,by omega,h2⟩
 | ⟨op,n,word,pl,own,some l,some r⟩ =>
  intro k m hk hty hu hf hc;rw[mkE] at hc;rw[evE,coE];rw[okE] at hk;obtain ⟨kl,kr,hkl,hkr⟩:∃ kl kr,okE V l kl∧okE V r kr:=by
   split at hk
   ·obtain ⟨_,j,h1,h2⟩:=hk;exact ⟨j,j,h1,h2⟩
   ·exact ⟨105,105,hk.2.2.1,hk.2.2.2⟩
  obtain ⟨i1,i2⟩:=qof P V iv hiv l kl m hkl hty hu hf hc.left.left;cases hl:evE V m.vars l with
  | none =>
   refine ⟨fun v hv=>(by cases hv),fun _=>?_⟩
   obtain ⟨n',t,q,h1,h2⟩:=i2 hl;exact ⟨n',t,q,by omega,h2⟩
  | some a =>
   obtain ⟨a1,_⟩:=i1 a hl;have hcr:=hc.left.right;rw[qeo] at hcr;obtain ⟨j1,j2⟩:=qof P V iv hiv r kr { m with st:=a::m.st,place:=m.place+coE l } hkr hty hu hf hcr
   cases hr:evE V m.vars r with
   | none =>
    refine ⟨fun v hv=>(by cases hv),fun _=>?_⟩
    obtain ⟨n',t,q,h1,h2⟩:=j2 hr;refine ⟨coE l+n',t++[a],q,by omega,?_⟩
    have:=qaz a1 h2
    simpa using this
   | some b =>
    obtain ⟨b1,_⟩:=j1 b hr;have hco:=hc.right;rw[List.length_append,qeo,qeo] at hco;have ab:=qaz a1 b1;dsimp only at ab ⊢;by_cases hdv:op=47
    ·have hko:qdb op=7:=by rw[hdv];rfl
     rw[hko] at hco;have hop2:op2 op a b=if b=0 then none else some (wrap64 (a.tdiv b)):=by rw[hdv];rfl
     rw[hop2];by_cases hb:b=0
     ·rw[if_pos hb];refine ⟨fun v hv=>(by cases hv),fun _=>?_⟩
      refine ⟨coE l+coE r+1,[b,a],m.place+coE l+coE r,by omega,qaz ab ?_⟩
      have hd:doM P ⟨7,0,0⟩ { m with st:=b::a::m.st,place:=m.place+coE l+coE r+1 }=(1,{ m with st:=b::a::m.st,place:=m.place+coE l+coE r+1 }):=by
       unfold doM;simp[hb]
      exact qvd (m:={ m with st:=b::a::m.st,place:=m.place+coE l+coE r }) (by rw[← Nat.add_assoc] at hco;exact hco.one) hu hd hf
     ·rw[if_neg hb];refine ⟨fun v hv=>?_,fun h=>(by cases h)⟩
      cases hv;refine ⟨qaz ab ?_,fun h98=>?_⟩
      ·refine step_ok (m:={ m with st:=b::a::m.st,place:=m.place+coE l+coE r }) (by rw[← Nat.add_assoc] at hco;exact hco.one) hu ?_ hf
       unfold doM;simp[hb];omega
      ·rw[if_neg (by omega)] at hk
       have:=hk.2.1
       rw[if_neg (by omega)] at this
       omega
    ·have hops:op=42∨op=43∨op=45∨op=60∨op=61∨op=35:=by
      split at hk
      ·omega
      ·have:=hk.1;omega
     obtain ⟨o1,o2,o3,o4⟩:=op2_M hops a b;rw[o1];refine ⟨fun v hv=>?_,fun h=>(by cases h)⟩
     cases hv;refine ⟨qaz ab ?_,fun h98=>?_⟩
     ·refine step_ok (m:={ m with st:=b::a::m.st,place:=m.place+coE l+coE r }) (by rw[← Nat.add_assoc] at hco;exact hco.one) hu ?_ hf
      rw[zul o4 o2 o3 rfl];simp;omega
     ·have h3:op=60∨op=61∨op=35:=by
       split at hk
       ·omega
       ·have h4:=hk.2.1;split at h4<;>omega
      rcases h3 with rfl | rfl | rfl<;>simp only[qdb,op2M]<;>exact qzc _
open Go.RowKit
theorem qoy (w:ByteArray) (v:Int) (u:Bool) (k:Nat):∀ t s,∃ a l q,(tries w v u k t s).2={ s with asks:=a,left:=l,stop:=q }∧((tries w v u k t s).1≠none→q=s.stop)∧((tries w v u k t s).1=none→q=true):=by
 induction k with
 | zero=>intro t s;exact ⟨s.asks,s.left,s.stop,rfl,fun _=>rfl,fun h=>by cases h⟩
 | succ k ih =>
  intro t s;unfold tries ask;cases hl:s.left with
  | nil=>exact ⟨s.asks++[⟨w,v,t,u⟩],[],true,rfl,fun h=>absurd rfl h,fun _=>rfl⟩
  | cons x r =>
   simp only;split
   ·exact ⟨_,r,s.stop,rfl,fun _=>rfl,fun h=>by cases h⟩
   ·obtain ⟨a,l,q,h1,h2,h3⟩:=ih (t+1) { s with asks:=s.asks++[⟨w,v,t,u⟩],left:=r }
    exact ⟨a,l,q,h1,h2,h3⟩
def EndsM (P:Pg) (m:Ms) (n f:Nat) (asks:List Ask) (vars:List Int):Prop:=∃ k m1 m2,qa7 P k m=some m1∧qbo P m1=(true,m2)∧m2.fin=f∧m2.asks=asks∧m2.vars=vars∧k+1≤n
theorem EndsM.after {P:Pg} {m m1:Ms} {k n N f:Nat} {asks:List Ask} {vars:List Int} (hk:qa7 P k m=some m1) (h:EndsM P m1 n f asks vars) (hn:k+n≤N):EndsM P m N f asks vars:=by
 obtain ⟨j,a,b,h1,h2,h3,h4,h6,h5⟩:=h;exact ⟨k+j,a,b,qaz hk h1,h2,h3,h4,h6,by omega⟩
theorem EndsM.mono {P:Pg} {m:Ms} {n N f:Nat} {asks:List Ask} {vars:List Int} (h:EndsM P m n f asks vars) (hn:n≤N):EndsM P m N f asks vars:=by
 obtain ⟨j,a,b,h1,h2,h3,h4,h6,h5⟩:=h;exact ⟨j,a,b,h1,h2,h3,h4,h6,by omega⟩
theorem quk {P:Pg} {i:Nat} {arg:Int} {most:Nat} {und:Bool} {m:Ms} (h:m.left=[]):askM P i arg most und m=(2,0,{ m with asks:=m.asks++[⟨P.words.getD i nowt,arg,m.tried+1,und⟩] }):=by
 unfold askM;rw[h]
theorem zbl {P:Pg} {i:Nat} {arg:Int} {most:Nat} {und:Bool} {m:Ms} {v:Int} {r:List Int} (h:m.left=v::r) (hv:0≤v):askM P i arg most und m=(0,v,{ m with asks:=m.asks++[⟨P.words.getD i nowt,arg,m.tried+1,und⟩],left:=r,tried:=0 }):=by
 unfold askM;rw[h];simp only;rw[if_neg (by omega),if_neg (by omega)]
theorem qr1 {P:Pg} {i:Nat} {arg:Int} {most:Nat} {und:Bool} {m:Ms} {v:Int} {r:List Int} (h:m.left=v::r) (hv:v < 0) (ht:m.tried+1 < most):askM P i arg most und m=(3,0,{ m with asks:=m.asks++[⟨P.words.getD i nowt,arg,m.tried+1,und⟩],left:=r,tried:=m.tried+1 }):=by
 unfold askM;rw[h];simp only;rw[if_pos ⟨hv,ht⟩]
theorem zj2 {P:Pg} {i:Nat} {arg:Int} {most:Nat} {und:Bool} {m:Ms} {v:Int} {r:List Int} (h:m.left=v::r) (hv:v < 0) (ht:¬ m.tried+1 < most):askM P i arg most und m=(1,0,{ m with asks:=m.asks++[⟨P.words.getD i nowt,arg,m.tried+1,und⟩],left:=r,tried:=0 }):=by
 unfold askM;rw[h];simp only;rw[if_neg (by omega),if_pos hv]
theorem qp8 (P:Pg) (i n:Nat) (m:Ms):doM P ⟨18,i,n⟩ m=match askM P i (m.st.headD 0) n false m with
  | (0,v,m')=>(0,{ m' with st:=v::m'.st.tail })
  | (e,_,m')=>(e,m'):=rfl
theorem zvd (P:Pg) (i N:Nat) (word:ByteArray) (arg:Int) (hw:P.words.getD i nowt=word) (k:Nat):∀ (m:Ms) (s:Rs),P.ins[m.place]?=some ⟨18,i,N⟩→m.qak=false→m.fin=0→m.st.headD 0=arg→m.left=s.left→m.asks=s.asks→N=m.tried+k→0 < k →
  ((tries word arg false k (m.tried+1) s).1=none→EndsM P m k 0 (tries word arg false k (m.tried+1) s).2.asks m.vars) ∧
  ((tries word arg false k (m.tried+1) s).1=some none→∃ j,j≤k∧qa7 P j m=some { m with asks:=(tries word arg false k (m.tried+1) s).2.asks,left:=(tries word arg false k (m.tried+1) s).2.left,tried:=0,qak:=true }) ∧
  (∀ v,(tries word arg false k (m.tried+1) s).1=some (some v)→∃ j,j≤k∧qa7 P j m=some { m with asks:=(tries word arg false k (m.tried+1) s).2.asks,left:=(tries word arg false k (m.tried+1) s).2.left,tried:=0,st:=v::m.st.tail,place:=m.place+1 }):=by
 induction k with
 | zero=>intro m s _ _ _ _ _ _ _ h;omega
 | succ k ih =>
  intro m s hi hu hf hst hl ha hN _;have hs:=qtc hi hu;rw[qp8] at hs;unfold tries ask;cases hsl:s.left with
  | nil =>
   rw[hsl] at hl;rw[quk (m:={ m with place:=m.place+1 }) hl] at hs
   refine ⟨fun _=>⟨0,m,{ m with asks:=m.asks++[⟨word,arg,m.tried+1,false⟩] },rfl,?_,hf,?_,rfl,by omega⟩,fun h=>(by cases h),fun v h=>(by cases h)⟩
   ·unfold qbo;rw[hs,hw];simp only[hst]
   ·rw[ha]
  | cons x r =>
   rw[hsl] at hl;simp only;by_cases hx:0≤x
   ·rw[if_pos hx];rw[zbl (m:={ m with place:=m.place+1 }) hl hx] at hs
    refine ⟨fun h=>(by cases h),fun h=>(by cases h),fun v h=>?_⟩
    cases h;refine ⟨1,by omega,qes ?_⟩
    unfold qbo;rw[hs,hw];simp only[hst,hf,ha];rfl
   ·rw[if_neg hx];by_cases hk:k=0
    ·subst hk;rw[zj2 (m:={ m with place:=m.place+1 }) hl (by omega) (by dsimp only;omega)] at hs
     unfold tries;refine ⟨fun h=>(by cases h),fun _=>⟨1,by omega,qes ?_⟩,fun v h=>(by cases h)⟩
     unfold qbo;rw[hs,hw];simp only[hst,hf,ha];rfl
    ·rw[qr1 (m:={ m with place:=m.place+1 }) hl (by omega) (by dsimp only;omega)] at hs
     have h1:qa7 P 1 m=some { m with asks:=s.asks++[⟨word,arg,m.tried+1,false⟩],left:=r,tried:=m.tried+1 }:=by
      refine qes ?_;unfold qbo;rw[hs,hw];simp only[hst,hf,ha];rfl
     obtain ⟨g1,g2,g3⟩:=ih { m with asks:=s.asks++[⟨word,arg,m.tried+1,false⟩],left:=r,tried:=m.tried+1 } { s with asks:=s.asks++[⟨word,arg,m.tried+1,false⟩],left:=r } hi hu hf hst rfl rfl (by dsimp only;omega) (by omega)
     dsimp only at g1 g2 g3;refine ⟨fun h=>(g1 h).after h1 (by omega),fun h=>?_,fun v h=>?_⟩
     ·obtain ⟨j,hj,hh⟩:=g2 h;exact ⟨1+j,by omega,qaz h1 hh⟩
     ·obtain ⟨j,hj,hh⟩:=g3 v h;exact ⟨1+j,by omega,qaz h1 hh⟩
theorem qo8 {P:Pg} {m:Ms} {u:Nat×Int} {r:List (Nat×Int)} (hu:m.qak=true) (hm:m.undos=u::r) (hfl:qbw m < m.undos.length):qa1 P m=match askM P u.1 u.2 3 true m with
   | (0,_,m')=>(0,{ m' with undos:=r })
   | (1,_,m')=>(4,m')
   | (e,_,m')=>(e,m'):=by
 unfold qa1 qa2;rw[if_pos hu];split
 ·rename_i h;rw[hm] at h;cases h
 ·rename_i u' r' h;rw[hm] at h;cases h;rw[if_neg (by omega)]
  all_goals rfl
theorem zks (P:Pg) (word:ByteArray) (u:Nat×Int) (r:List (Nat×Int)) (hw:P.words.getD u.1 nowt=word) (k:Nat):∀ (m:Ms) (s:Rs),m.qak=true→m.undos=u::r→qbw m < m.undos.length→m.fin=0→m.left=s.left→m.asks=s.asks→3=m.tried+k→0 < k →
  ((tries word u.2 true k (m.tried+1) s).1=none→EndsM P m k 0 (tries word u.2 true k (m.tried+1) s).2.asks m.vars) ∧
  ((tries word u.2 true k (m.tried+1) s).1=some none→EndsM P m k 3 (tries word u.2 true k (m.tried+1) s).2.asks m.vars) ∧
  (∀ v,(tries word u.2 true k (m.tried+1) s).1=some (some v)→∃ j,j≤k∧qa7 P j m=some { m with asks:=(tries word u.2 true k (m.tried+1) s).2.asks,left:=(tries word u.2 true k (m.tried+1) s).2.left,tried:=0,undos:=r }):=by
 induction k with
 | zero=>intro m s _ _ _ _ _ _ _ h;omega
 | succ k ih =>
  intro m s hu hm hfl hf hl ha hN _;have hs:=qo8 (P:=P) hu hm hfl;unfold tries ask;cases hsl:s.left with
  | nil =>
   rw[hsl] at hl;rw[quk hl] at hs;refine ⟨fun _=>⟨0,m,{ m with asks:=m.asks++[⟨word,u.2,m.tried+1,true⟩] },rfl,?_,hf,?_,rfl,by omega⟩,fun h=>(by cases h),fun v h=>(by cases h)⟩
   ·unfold qbo;rw[hs,hw];rfl
   ·rw[ha]
  | cons x q =>
   rw[hsl] at hl;simp only;by_cases hx:0≤x
   ·rw[if_pos hx];rw[zbl hl hx] at hs;refine ⟨fun h=>(by cases h),fun h=>(by cases h),fun v h=>⟨1,by omega,qes ?_⟩⟩
    unfold qbo;rw[hs,hw];simp only[hf,ha];rfl
   ·rw[if_neg hx];by_cases hk:k=0
    ·subst hk;rw[zj2 hl (by omega) (by omega)] at hs
     unfold tries;refine ⟨fun h=>(by cases h),fun _=>⟨0,m,{ m with asks:=m.asks++[⟨word,u.2,m.tried+1,true⟩],left:=q,tried:=0,fin:=3 },rfl,?_,rfl,?_,rfl,by omega⟩,fun v h=>(by cases h)⟩
     ·unfold qbo;rw[hs,hw];rfl
     ·rw[ha]
    ·rw[qr1 hl (by omega) (by omega)] at hs
     have h1:qa7 P 1 m=some { m with asks:=s.asks++[⟨word,u.2,m.tried+1,true⟩],left:=q,tried:=m.tried+1 }:=by
      refine qes ?_;unfold qbo;rw[hs,hw];simp only[hf,ha];rfl
     obtain ⟨g1,g2,g3⟩:=ih { m with asks:=s.asks++[⟨word,u.2,m.tried+1,true⟩],left:=q,tried:=m.tried+1 } { s with asks:=s.asks++[⟨word,u.2,m.tried+1,true⟩],left:=q } hu hm hfl hf rfl rfl (by dsimp only;omega) (by omega)
     dsimp only at g1 g2 g3;refine ⟨fun h=>(g1 h).after h1 (by omega),fun h=>(g2 h).after h1 (by omega),fun v h=>?_⟩
     obtain ⟨j,hj,hh⟩:=g3 v h;exact ⟨1+j,by omega,qaz h1 hh⟩
def undW (P:Pg) (u:Nat×Int):ByteArray×Int:=(P.words.getD u.1 nowt,u.2)
theorem qu1 (P:Pg) (L:List (Nat×Int)):∀ (r:List (Nat×Int)) (m:Ms) (s:Rs),m.qak=true→m.undos=L++r→qbw m=r.length→m.fin=0→m.left=s.left→m.asks=s.asks→m.tried=0→s.over=0→s.stop=false →
  ((qch (L.map (undW P)) s).over≠0∨(qch (L.map (undW P)) s).stop=true→EndsM P m (3 * L.length) (qch (L.map (undW P)) s).over (qch (L.map (undW P)) s).asks m.vars) ∧
  ((qch (L.map (undW P)) s).over=0→(qch (L.map (undW P)) s).stop=false→∃ j,j≤3 * L.length∧qa7 P j m=some { m with asks:=(qch (L.map (undW P)) s).asks,left:=(qch (L.map (undW P)) s).left,undos:=r }) ∧
  (∃ a l o q,qch (L.map (undW P)) s={ s with asks:=a,left:=l,over:=o,stop:=q }):=by
 induction L with
 | nil =>
  intro r m s hu hm hfl hf hl ha ht ho hs;rw[List.map_nil,qch];refine ⟨fun h=>?_,fun _ _=>⟨0,by simp,?_⟩,s.asks,s.left,s.over,s.stop,rfl⟩
  ·rw[ho,hs] at h;simp at h
  ·rw[qa7,← hl,← ha];simp only[List.nil_append] at hm;rw[← hm]
 | cons u L ih =>
  intro r m s hu hm hfl hf hl ha ht ho hs;rw[List.map_cons];have hm':m.undos=u::(L++r):=hm;have hlt:qbw m < m.undos.length:=by rw[hfl,hm'];simp;omega
  obtain ⟨g1,g2,g3⟩:=zks P (P.words.getD u.1 nowt) u (L++r) rfl 3 m s hu hm' hlt hf hl ha (by omega) (by omega)
  rw[ht] at g1 g2 g3;obtain ⟨a,l,q,f1,f2,f3⟩:=qoy (P.words.getD u.1 nowt) u.2 true 3 1 s;rw[undW,qch];cases htr:tries (P.words.getD u.1 nowt) u.2 true 3 1 s with
  | mk o s1 =>
   rw[htr] at f1 f2 f3 g1 g2 g3;dsimp only at f1 f2 f3 g1 g2 g3;subst f1;match o with
   | none =>
    simp only;rw[f3 rfl] at g1 ⊢;refine ⟨fun _=>?_,fun _ h=>(by cases h),a,l,s.over,true,rfl⟩
    have:=(g1 rfl).mono (N:=3 * (u::L).length) (by simp;omega)
    rw[ho];exact this
   | some none =>
    simp only;rw[f2 (by simp)] at g2 ⊢
    refine ⟨fun _=>(g2 rfl).mono (by simp;omega),fun h=>(by cases h),a,l,3,s.stop,rfl⟩
   | some (some v) =>
    simp only;rw[f2 (by simp)] at g3 ⊢
    obtain ⟨j,hj,hh⟩:=g3 v rfl;dsimp only at hh;obtain ⟨e1,e2,a',l',o',q',e3⟩:=ih r { m with asks:=a,left:=l,tried:=0,undos:=L++r } { s with asks:=a,left:=l } hu rfl hfl hf rfl rfl rfl ho hs
    refine ⟨fun h=>(e1 h).after hh (by simp;omega),fun h h'=>?_,a',l',o',q',e3⟩
    obtain ⟨j',hj',hh'⟩:=e2 h h';refine ⟨j+j',by simp;omega,?_⟩
    have:=qaz hh hh'
    rw[this];dsimp only;rw[ht]
theorem qdt {P:Pg} {m:Ms} (h:m.undos.length=qbw m):qa2 P m=qa2.behind m:=by
 unfold qa2;split
 ·rfl
 ·rw[if_pos h]
theorem qxd {P:Pg} {m:Ms} {f h s:Nat} {r:List (Nat×Nat×Nat)} (hu:m.qak=true) (hb:m.begun=(f,h,s)::r) (hfl:m.undos.length=f) (hf:m.fin=0):qa7 P 1 m=some { m with qak:=false,begun:=r,st:=m.st.drop (m.st.length - h),place:=s }:=by
 refine qes ?_;have hfm:qbw m=f:=by unfold qbw;rw[hb]
 have hb':qa2.behind m=(0,{ m with qak:=false,begun:=r,st:=m.st.drop (m.st.length - h),place:=s }):=by
  unfold qa2.behind;rw[hb]
 unfold qbo qa1;rw[if_pos hu,qdt (by omega),hb']
 simp only[hf];rfl
theorem qyb {P:Pg} {m:Ms} (hu:m.qak=true) (hb:m.begun=[]) (hfl:m.undos=[]):qbo P m=(true,{ m with qak:=false,fin:=2 }):=by
 have hfm:qbw m=0:=by unfold qbw;rw[hb]
 have hb':qa2.behind m=(0,{ m with qak:=false,fin:=2 }):=by
  unfold qa2.behind;rw[hb]
 unfold qbo qa1;rw[if_pos hu,qdt (by rw[hfl,hfm];rfl),hb']
 rfl
open Go.RowKit
def frames:List (List (ByteArray×Int))→List (Nat×Nat)→List (Nat×Nat×Nat)
 | _,[]=>[]
 | ps,g::G=>(ps.dropLast.flatten.length,g.1,g.2)::frames ps.dropLast G
theorem qpv {ps qs:List (List (ByteArray×Int))} (h:ps.dropLast=qs.dropLast) (G:List (Nat×Nat)):frames ps G=frames qs G:=by
 cases G with
 | nil=>rfl
 | cons g G=>rw[frames,frames,h]
theorem qv4 (ps:List (List (ByteArray×Int))) (x:List (ByteArray×Int)):(layP ps x).dropLast=ps.dropLast:=by
 unfold layP;rw[List.dropLast_concat]
theorem qhw {ps:List (List (ByteArray×Int))} (h:ps≠[]):ps.flatten=ps.dropLast.flatten++ps.getLastD []:=by
 obtain ⟨qs,q,e⟩:∃ qs q,ps=qs++[q]:=⟨_,_,(List.dropLast_concat_getLast h).symm⟩;subst e;simp[List.getLastD_eq_getLast?]
theorem qlo {ps:List (List (ByteArray×Int))} (h:ps≠[]) (x:List (ByteArray×Int)):(layP ps x).flatten=ps.flatten++x:=by
 unfold layP;rw[qhw h];simp
theorem zai {ps:List (List (ByteArray×Int))} (h:ps≠[]) (x:List (ByteArray×Int)):(layP ps x).length=ps.length:=by
 unfold layP
 have:=List.length_pos_iff.2 h
 simp;omega
structure Rel (P:Pg) (V:Vs) (s:Rs) (m:Ms) (S:List Int) (G:List (Nat×Nat)):Prop where
 held:m.vars=s.held
 left:m.left=s.left
 asks:m.asks=s.asks
 st:m.st=S
 und:(m.undos.map (undW P)).reverse=s.piles.flatten
 begun:m.begun=frames s.piles G
 len:s.piles.length=G.length+1
 tried:m.tried=0
 fin:m.fin=0
 ty:TyH V s.held
theorem Rel.ne {P:Pg} {V:Vs} {s:Rs} {m:Ms} {S:List Int} {G:List (Nat×Nat)} (h:Rel P V s m S G):s.piles≠[]:=fun e=>by
 have:=h.len;rw[e] at this;simp at this
theorem Rel.nund {P:Pg} {V:Vs} {s:Rs} {m:Ms} {S:List Int} {G:List (Nat×Nat)} (h:Rel P V s m S G):m.undos.length=s.piles.flatten.length:=by
 rw[← h.und];simp
def Uq (s:Rs):Nat:=3 * s.piles.flatten.length
def Post (P:Pg) (V:Vs) (S:List Int) (G:List (Nat×Nat)) (p n:Nat) (m:Ms) (s:Rs):Prop :=
 (s.over=0∧s.stop=false∧s.failed=false∧∃ k m',qa7 P k m=some m'∧Rel P V s m' S G∧m'.place=p∧m'.qak=false∧k+Uq s≤n) ∨
 (s.over=0∧s.stop=false∧s.failed=true∧∃ k m' t,qa7 P k m=some m'∧Rel P V s m' (t++S) G∧m'.qak=true∧k+Uq s≤n) ∨
 ((s.over≠0∨s.stop=true)∧EndsM P m n s.over s.asks s.held)
theorem qeg {s:Rs}:s.going=true↔s.over=0∧s.stop=false∧s.failed=false:=by
 unfold Rs.going;rw[Bool.and_eq_true,Bool.and_eq_true,beq_iff_eq,Bool.not_eq_true',Bool.not_eq_true'];exact and_assoc
theorem Post.mono {P:Pg} {V:Vs} {S:List Int} {G:List (Nat×Nat)} {p n N:Nat} {m:Ms} {s:Rs} (h:Post P V S G p n m s) (hn:n≤N):Post P V S G p N m s:=by
 rcases h with ⟨h1,h2,h3,k,m',h4,h5,h6,h7,h8⟩ | ⟨h1,h2,h3,k,m',t,h4,h5,h6,h8⟩ | ⟨h1,h2⟩
 ·exact Or.inl ⟨h1,h2,h3,k,m',h4,h5,h6,h7,by omega⟩
 ·exact Or.inr (Or.inl ⟨h1,h2,h3,k,m',t,h4,h5,h6,by omega⟩)
 ·exact Or.inr (Or.inr ⟨h1,h2.mono hn⟩)
theorem Post.after {P:Pg} {V:Vs} {S:List Int} {G:List (Nat×Nat)} {p n N k:Nat} {m m1:Ms} {s:Rs} (hk:qa7 P k m=some m1) (h:Post P V S G p n m1 s) (hn:k+n≤N):Post P V S G p N m s:=by
 rcases h with ⟨h1,h2,h3,j,m',h4,h5,h6,h7,h8⟩ | ⟨h1,h2,h3,j,m',t,h4,h5,h6,h8⟩ | ⟨h1,h2⟩
 ·exact Or.inl ⟨h1,h2,h3,k+j,m',qaz hk h4,h5,h6,h7,by omega⟩
 ·exact Or.inr (Or.inl ⟨h1,h2,h3,k+j,m',t,qaz hk h4,h5,h6,by omega⟩)
 ·exact Or.inr (Or.inr ⟨h1,h2.after hk hn⟩)
theorem Post.seq {P:Pg} {V:Vs} {S S':List Int} {G:List (Nat×Nat)} {p q n N:Nat} {m:Ms} {s:Rs} {f:Rs→Rs} (h:Post P V (S'++S) G p n m s) (hi:s.going=false→f s=s) (hn:n≤N)
  (hf:∀ k m',qa7 P k m=some m'→Rel P V s m' (S'++S) G→m'.place=p→m'.qak=false→k+Uq s≤n→s.going=true→Post P V S G q (N - k) m' (f s)):Post P V S G q N m (f s):=by
 rcases h with ⟨h1,h2,h3,k,m',h4,h5,h6,h7,h8⟩ | ⟨h1,h2,h3,k,m',t,h4,h5,h6,h8⟩ | ⟨h1,h2⟩
 ·exact Post.after h4 (hf k m' h4 h5 h6 h7 h8 (qeg.2 ⟨h1,h2,h3⟩)) (by omega)
 ·rw[hi (by unfold Rs.going;rw[h3];simp)]
  refine Or.inr (Or.inl ⟨h1,h2,h3,k,m',t++S',h4,?_,h6,by omega⟩)
  rw[List.append_assoc];exact h5
 ·rw[hi (by
   unfold Rs.going;rcases h1 with h1 | h1
   ·rw[(beq_eq_false_iff_ne).2 h1];simp
   ·rw[h1];simp)]
  exact Or.inr (Or.inr ⟨h1,h2.mono hn⟩)
theorem qfl (iv:ByteArray→Nat) (x:Option Ex):(mkO iv x).length=coO x:=by
 cases x with
 | none=>rfl
 | some e=>exact qeo iv e
theorem qxz (P:Pg) (V:Vs) (iv:ByteArray→Nat) (hiv:∀ w i,qa3 V w=some i→iv w=i) (x:Option Ex) (k:Nat) (m:Ms) (hk:okO V x k) (hty:TyH V m.vars) (hu:m.qak=false) (hf:m.fin=0) (hc:CodeAt P m.place (mkO iv x)) :
  (∀ v,evO V m.vars x=some v→qa7 P (coO x) m=some { m with st:=v::m.st,place:=m.place+coO x }∧(k=98→v=0∨v=1)) ∧
  (evO V m.vars x=none→∃ n t q,n≤coO x∧qa7 P n m=some { m with st:=t++m.st,place:=q,qak:=true }):=by
 cases x with
 | none =>
  refine ⟨fun v hv=>?_,fun h=>(by cases h)⟩
  cases hv;exact ⟨step_ok hc.one hu rfl hf,fun _=>Or.inl rfl⟩
 | some e=>exact qof P V iv hiv e k m (hk e rfl) hty hu hf hc
def UsS (P:Pg) (iw:ByteArray→Nat):List Sm→Prop
 | []=>True
 | ⟨op,word,_,_,_,_,undo,_,_,one,two⟩::rest=>(op=99→P.words.getD (iw word) nowt=word∧(undo.size≠0→P.words.getD (iw undo) nowt=undo))∧(op=105∨op=116∨op=114→UsS P iw one)∧(op=105∨op=116→UsS P iw two)∧UsS P iw rest
theorem zbo {P:Pg} {iw:ByteArray→Nat} {x:Sm} {l:List Sm}:UsS P iw (x::l)↔(x.op=99→P.words.getD (iw x.word) nowt=x.word∧(x.undo.size≠0→P.words.getD (iw x.undo) nowt=x.undo))∧(x.op=105∨x.op=116∨x.op=114→UsS P iw x.one)∧(x.op=105∨x.op=116→UsS P iw x.two)∧UsS P iw l:=by
 obtain ⟨op,word,pl,ex,asw,asPl,undo,n,nPl,one,two⟩:=x;rw[UsS]
def SimS (P:Pg) (V:Vs) (iw iv:ByteArray→Nat) (l:List Sm):Prop:=∀ (s:Rs) (m:Ms) (S:List Int) (G:List (Nat×Nat)),okS V l→UsS P iw l→Rel P V s m S G→s.going=true→m.qak=false→CodeAt P m.place (mkS iw iv l m.place)→Post P V S G (m.place+(mkS iw iv l m.place).length) (coS l+Uq s) m (runS V l s)
def SimX (P:Pg) (V:Vs) (iw iv:ByteArray→Nat) (x:Sm):Prop:=∀ (s:Rs) (m:Ms) (S:List Int) (G:List (Nat×Nat)),Rel P V s m S G→s.going=true→m.qak=false→CodeAt P m.place (mkX iw iv x m.place)→Post P V S G (m.place+(mkX iw iv x m.place).length) (coX x+Uq s) m (runX V x s)
theorem qif {P:Pg} {V:Vs} {S t:List Int} {G:List (Nat×Nat)} {p n k q:Nat} {m:Ms} {s:Rs} (hr:Rel P V s m S G) (hg:s.going=true) (h:qa7 P k m=some { m with st:=t++m.st,place:=q,qak:=true }) (hk:k+Uq s≤n):Post P V S G p n m { s with failed:=true }:=by
 obtain ⟨g1,g2,g3⟩:=qeg.1 hg;refine Or.inr (Or.inl ⟨g1,g2,rfl,k,_,t,h,⟨hr.held,hr.left,hr.asks,?_,hr.und,hr.begun,hr.len,hr.tried,hr.fin,hr.ty⟩,rfl,hk⟩);dsimp only;rw[hr.st]
theorem TyH.set {V:Vs} {held:List Int} (h:TyH V held) {i k:Nat} {v:Int} (_hi:i < V.length) (hk:qcn V i=k) (hv:k=98→v=0∨v=1):TyH V (held.set i v):=by
 refine ⟨by rw[List.length_set];exact h.len,fun j hj hkj=>?_⟩
 rw[List.getD_eq_getElem?_getD,List.getElem?_set];split
 ·rename_i e;subst e;split
  ·simp only[Option.getD_some];exact hv (by omega)
  ·exact Or.inl rfl
 ·rw[← List.getD_eq_getElem?_getD];exact h.tr j hj hkj
theorem qk8 {V:Vs} {w:ByteArray} {i:Nat} (h:qa3 V w=some i) (held:List Int) (v:Int):setV V held w v=held.set i v:=by unfold setV;rw[h]
theorem zth (P:Pg) (V:Vs) (iw iv:ByteArray→Nat) (hiv:∀ w i,qa3 V w=some i→iv w=i) (x:Sm) (hop:x.op=108) (hk:okH V x.op x.word x.ex x.asw x.n):SimX P V iw iv x:=by
 intro s m S G hr hg hu hc;obtain ⟨e,k,he,hke,⟨i,hi,hki⟩,_⟩:∃ e k,x.ex=some e∧okE V e k∧okV V x.word k∧(k=105∨k=98):=by
  rcases hk with h | h | h | h | h | h
  ·exact h.2
  all_goals omega
 have hmk:mkX iw iv x m.place=mkO iv x.ex++[⟨2,iv x.word,0⟩]:=by unfold mkX;rw[if_pos hop]
 have hco:coX x=coO x.ex+1:=by unfold coX;rw[if_pos hop]
 have hrun:runX V x s=match evO V s.held x.ex with
  | none=>{ s with failed:=true }
  | some v=>{ s with held:=setV V s.held x.word v }:=by unfold runX;rw[if_pos hop];rfl
 rw[hmk] at hc ⊢;rw[hco,hrun];obtain ⟨o1,o2⟩:=qxz P V iv hiv x.ex k m (fun e' h'=>by rw[he] at h';cases h';exact hke) (by rw[hr.held];exact hr.ty) hu hr.fin hc.left
 rw[hr.held] at o1 o2;obtain ⟨g1,g2,g3⟩:=qeg.1 hg;cases hev:evO V s.held x.ex with
 | none =>
  obtain ⟨n',t,q,h1,h2⟩:=o2 hev;rw[← hr.held] at h2;exact qif hr hg h2 (by omega)
 | some v =>
  obtain ⟨h1,h2⟩:=o1 v hev;have hcr:=hc.right;rw[qfl] at hcr;have hst:qa7 P 1 { m with st:=v::m.st,place:=m.place+coO x.ex }=some { m with vars:=m.vars.set (iv x.word) v,st:=m.st,place:=m.place+coO x.ex+1 }:=step_ok hcr.one hu rfl hr.fin
  have h1':qa7 P (coO x.ex) m=some { m with st:=v::m.st,place:=m.place+coO x.ex }:=by
   rw[hr.held];exact h1
  refine Or.inl ⟨g1,g2,g3,coO x.ex+1,_,qaz h1' hst,⟨?_,hr.left,hr.asks,hr.st,hr.und,hr.begun,hr.len,hr.tried,hr.fin,?_⟩,?_,hu,Nat.le_refl _⟩
  ·dsimp only;rw[qk8 hi,hiv _ _ hi,hr.held]
  ·dsimp only;rw[qk8 hi];exact hr.ty.set (qds hi) hki h2
  ·dsimp only;rw[List.length_append,qfl];simp;omega
theorem zow (P:Pg) (V:Vs) (iw iv:ByteArray→Nat) (hiv:∀ w i,qa3 V w=some i→iv w=i) (x:Sm) (hop:x.op=99) (hk:okH V x.op x.word x.ex x.asw x.n) (hw:P.words.getD (iw x.word) nowt=x.word∧(x.undo.size≠0→P.words.getD (iw x.undo) nowt=x.undo)):SimX P V iw iv x:=by
 intro s m S G hr hg hu hc;obtain ⟨hke,hka,hn1,hn5⟩:okO V x.ex 105∧(x.asw.size=0∨okV V x.asw 105)∧1≤x.n∧x.n≤5:=by
  rcases hk with h | h | h | h | h | h
  ·omega
  ·exact h.2
  all_goals omega
 have hmk:mkX iw iv x m.place=mkO iv x.ex++([⟨18,iw x.word,x.n⟩]++((if x.undo.size=0 then [] else [⟨19,iw x.undo,0⟩])++[if x.asw.size=0 then ⟨3,0,0⟩ else ⟨2,iv x.asw,0⟩])):=by unfold mkX;rw[if_neg (by omega),if_pos hop];rfl
 have hco:coX x=coO x.ex+x.n+(if x.undo.size=0 then 0 else 4)+1:=by unfold coX;rw[if_neg (by omega),if_pos hop]
 have hrun:runX V x s=qei V x.word x.ex x.asw x.undo x.n s:=by unfold runX;rw[if_neg (by omega),if_pos hop]
 rw[hmk] at hc ⊢;rw[hco,hrun];obtain ⟨o1,o2⟩:=qxz P V iv hiv x.ex 105 m hke (by rw[hr.held];exact hr.ty) hu hr.fin hc.left
 rw[hr.held] at o1 o2;obtain ⟨g1,g2,g3⟩:=qeg.1 hg;unfold qei;cases hev:evO V s.held x.ex with
 | none =>
  obtain ⟨n',t,q,h1,h2⟩:=o2 hev;rw[← hr.held] at h2;exact qif hr hg h2 (by omega)
 | some arg =>
  obtain ⟨h1,_⟩:=o1 arg hev;rw[← hr.held] at h1;have hcr:=hc.right;rw[qfl] at hcr;obtain ⟨a1,a2,a3⟩:=zvd P (iw x.word) x.n x.word arg hw.1 x.n { m with st:=arg::m.st,place:=m.place+coO x.ex } s hcr.left.one hu hr.fin rfl hr.left hr.asks (by dsimp only;rw[hr.tried];omega) (by omega)
  dsimp only at a1 a2 a3;have ht1:m.tried+1=1:=by rw[hr.tried]
  rw[ht1] at a1 a2 a3;obtain ⟨A,L,Q,f1,f2,f3⟩:=qoy x.word arg false x.n 1 s;dsimp only;cases htr:tries x.word arg false x.n 1 s with
  | mk o s1 =>
   rw[htr] at f1 f2 f3 a1 a2 a3;dsimp only at f1 f2 f3 a1 a2 a3;subst f1;match o with
   | none =>
    simp only;refine Or.inr (Or.inr ⟨Or.inr (f3 rfl),?_⟩)
    have:=(a1 rfl).after h1 (N:=coO x.ex+x.n+(if x.undo.size=0 then 0 else 4)+1+Uq s) (by omega)
    dsimp only;rw[g1,← hr.held];exact this
   | some none =>
    simp only;obtain ⟨j,hj,hh⟩:=a2 rfl;rw[f2 (by simp)]
    refine Or.inr (Or.inl ⟨g1,g2,rfl,coO x.ex+j,_,[arg],qaz h1 hh,⟨hr.held,rfl,rfl,?_,hr.und,hr.begun,hr.len,rfl,hr.fin,hr.ty⟩,rfl,?_⟩)
    ·dsimp only;rw[hr.st];rfl
    ·have:Uq { s with asks:=A,left:=L,failed:=true }=Uq s:=rfl
     show coO x.ex+j+Uq s≤_
     omega
   | some (some v) =>
    simp only;obtain ⟨j,hj,hh⟩:=a3 v rfl;rw[f2 (by simp)]
    have hA:=qaz h1 hh;dsimp only at hA;have hcu:=hcr.right;simp only[List.length_singleton] at hcu;obtain ⟨ju,mu,hju,hsu,hru,hpu,huu,hstu⟩:∃ ju mu,ju+3 * (if x.undo.size=0 then s.piles else layP s.piles [(x.undo,v)]).flatten.length≤(if x.undo.size=0 then 0 else 4)+Uq s∧qa7 P ju { m with asks:=A,left:=L,tried:=0,st:=v::m.st,place:=m.place+coO x.ex+1 }=some mu ∧
      Rel P V { s with asks:=A,left:=L,piles:=if x.undo.size=0 then s.piles else layP s.piles [(x.undo,v)] } mu (v::S) G∧mu.place=m.place+coO x.ex+1+(if x.undo.size=0 then [] else [(⟨19,iw x.undo,0⟩:Ins)]).length∧mu.qak=false∧mu.st=v::S:=by
     by_cases hz:x.undo.size=0
     ·rw[if_pos hz,if_pos hz,if_pos hz];refine ⟨0,_,?_,rfl,⟨hr.held,rfl,rfl,?_,hr.und,hr.begun,hr.len,rfl,hr.fin,hr.ty⟩,by simp,hu,?_⟩
      ·show 0+3 * s.piles.flatten.length≤0+Uq s;unfold Uq;omega
      ·dsimp only;rw[hr.st]
      ·dsimp only;rw[hr.st]
     ·rw[if_neg hz,if_neg hz,if_neg hz];rw[if_neg hz] at hcu;have hs1:qa7 P 1 { m with asks:=A,left:=L,tried:=0,st:=v::m.st,place:=m.place+coO x.ex+1 }=some { m with asks:=A,left:=L,tried:=0,st:=v::m.st,place:=m.place+coO x.ex+1+1,undos:=(iw x.undo,v)::m.undos }:=step_ok hcu.left.one hu rfl hr.fin
      refine ⟨1,_,?_,hs1,⟨hr.held,rfl,rfl,?_,?_,?_,?_,rfl,hr.fin,hr.ty⟩,by simp,hu,?_⟩
      ·rw[qlo hr.ne];unfold Uq;simp;omega
      ·dsimp only;rw[hr.st]
      ·dsimp only;rw[qlo hr.ne,List.map_cons,List.reverse_cons,hr.und];unfold undW;rw[hw.2 hz]
      ·dsimp only;rw[hr.begun];exact qpv (qv4 _ _).symm G
      ·dsimp only;rw[zai hr.ne];exact hr.len
      ·dsimp only;rw[hr.st]
    have hB:=qaz hA hsu;have hcl:=hcu.right;rw[← hpu] at hcl;by_cases hz:x.asw.size=0
    ·simp only[if_pos hz] at hcl ⊢;have hs2:qa7 P 1 mu=some { mu with st:=S,place:=mu.place+1 }:=by
      refine step_ok hcl.one huu ?_ hru.fin;show (0,{ mu with st:=mu.st.tail,place:=mu.place+1 })=_
      rw[hstu];rfl
     refine Or.inl ⟨g1,g2,g3,_,_,qaz hB hs2,⟨hru.held,hru.left,hru.asks,rfl,hru.und,hru.begun,hru.len,hru.tried,hru.fin,hru.ty⟩,?_,huu,?_⟩
     ·dsimp only;rw[hpu];simp only[List.length_append,qfl,List.length_singleton];omega
     ·show coO x.ex+j+ju+1+3 * (if x.undo.size=0 then s.piles else layP s.piles [(x.undo,v)]).flatten.length≤_
      omega
    ·simp only[if_neg hz] at hcl ⊢;obtain ⟨i,hi,hki⟩:=hka.resolve_left hz;have hs2:qa7 P 1 mu=some { mu with vars:=mu.vars.set (iv x.asw) v,st:=S,place:=mu.place+1 }:=by
      refine step_ok hcl.one huu ?_ hru.fin;show (0,{ mu with vars:=mu.vars.set (iv x.asw) (mu.st.headD 0),st:=mu.st.tail,place:=mu.place+1 })=_
      rw[hstu];rfl
     refine Or.inl ⟨g1,g2,g3,_,_,qaz hB hs2,⟨?_,hru.left,hru.asks,rfl,hru.und,hru.begun,hru.len,hru.tried,hru.fin,?_⟩,?_,huu,?_⟩
     ·dsimp only;rw[qk8 hi,hiv _ _ hi,hru.held]
     ·dsimp only;rw[qk8 hi];exact hr.ty.set (qds hi) hki (fun h=>by omega)
     ·dsimp only;rw[hpu];simp only[List.length_append,qfl,List.length_singleton];omega
     ·show coO x.ex+j+ju+1+3 * (if x.undo.size=0 then s.piles else layP s.piles [(x.undo,v)]).flatten.length≤_
      omega
open Go.RowKit
theorem zxf (P:Pg) (V:Vs) (iw iv:ByteArray→Nat) (hiv:∀ w i,qa3 V w=some i→iv w=i) (x:Sm) (hop:x.op=105) (hk:okH V x.op x.word x.ex x.asw x.n) (h1:SimS P V iw iv x.one) (h2:SimS P V iw iv x.two) (k1:okS V x.one) (k2:okS V x.two) (u1:UsS P iw x.one) (u2:UsS P iw x.two):SimX P V iw iv x:=by
 intro s m S G hr hg hu hc;obtain ⟨e,he,hke⟩:∃ e,x.ex=some e∧okE V e 98:=by
  rcases hk with h | h | h | h | h | h
  ·omega
  ·omega
  ·exact h.2
  all_goals omega
 have hco:coX x=coO x.ex+2+coS x.one+coS x.two:=by unfold coX;rw[if_neg (by omega),if_neg (by omega),if_pos hop]
 have hrun:runX V x s=match evO V s.held x.ex with
  | none=>{ s with failed:=true }
  | some v=>if v=1 then runS V x.one s else runS V x.two s:=by unfold runX;rw[if_neg (by omega),if_neg (by omega),if_pos hop];rfl
 have hX:CodeAt P m.place (mkO iv x.ex):=by
  unfold mkX at hc;rw[if_neg (by omega),if_neg (by omega),if_pos hop] at hc
  dsimp only at hc;split at hc
  ·exact hc.left
  ·exact hc.left
 rw[hco,hrun];obtain ⟨o1,o2⟩:=qxz P V iv hiv x.ex 98 m (fun e' h'=>by rw[he] at h';cases h';exact hke) (by rw[hr.held];exact hr.ty) hu hr.fin hX
 rw[hr.held] at o1 o2;cases hev:evO V s.held x.ex with
 | none =>
  obtain ⟨n',t,q,g1,g2⟩:=o2 hev;rw[← hr.held] at g2;exact qif hr hg g2 (by omega)
 | some v =>
  obtain ⟨g1,g2⟩:=o1 v hev;rw[← hr.held] at g1;dsimp only;by_cases htwo:x.two.isEmpty
  ·have hmk:mkX iw iv x m.place=mkO iv x.ex++([⟨13,m.place+coO x.ex+1+(mkS iw iv x.one (m.place+coO x.ex+1)).length,0⟩]++mkS iw iv x.one (m.place+coO x.ex+1)):=by
    unfold mkX;rw[if_neg (by omega),if_neg (by omega),if_pos hop];dsimp only;rw[if_pos htwo,qfl]
   rw[hmk] at hc ⊢;have hcr:=hc.right;rw[qfl] at hcr;have hca:=hcr.right;simp only[List.length_singleton] at hca;rcases g2 rfl with rfl | rfl
   ·rw[if_neg (by decide)]
    have e2:x.two=[]:=List.isEmpty_iff.1 htwo;rw[e2,qdy];have hs:qa7 P 1 { m with st:=0::m.st,place:=m.place+coO x.ex }=some { m with st:=m.st,place:=m.place+coO x.ex+1+(mkS iw iv x.one (m.place+coO x.ex+1)).length }:=step_ok hcr.left.one hu rfl hr.fin
    obtain ⟨q1,q2,q3⟩:=qeg.1 hg;refine Or.inl ⟨q1,q2,q3,_,_,qaz g1 hs,⟨hr.held,hr.left,hr.asks,hr.st,hr.und,hr.begun,hr.len,hr.tried,hr.fin,hr.ty⟩,?_,hu,by omega⟩
    dsimp only;simp only[List.length_append,qfl,List.length_singleton];omega
   ·rw[if_pos rfl];have hs:qa7 P 1 { m with st:=1::m.st,place:=m.place+coO x.ex }=some { m with st:=m.st,place:=m.place+coO x.ex+1 }:=step_ok hcr.left.one hu rfl hr.fin
    have hp:=h1 s { m with st:=m.st,place:=m.place+coO x.ex+1 } S G k1 u1 ⟨hr.held,hr.left,hr.asks,hr.st,hr.und,hr.begun,hr.len,hr.tried,hr.fin,hr.ty⟩ hg hu hca
    have:=Post.after (qaz g1 hs) hp (N:=coO x.ex+2+coS x.one+coS x.two+Uq s) (by omega)
    dsimp only at this;have el:m.place+(mkO iv x.ex++([(⟨13,m.place+coO x.ex+1+(mkS iw iv x.one (m.place+coO x.ex+1)).length,0⟩:Ins)]++mkS iw iv x.one (m.place+coO x.ex+1))).length=m.place+coO x.ex+1+(mkS iw iv x.one (m.place+coO x.ex+1)).length:=by
     simp only[List.length_append,qfl,List.length_singleton];omega
    rw[el];exact this
  ·generalize hA:mkS iw iv x.one (m.place+coO x.ex+1)=A;generalize hB:mkS iw iv x.two (m.place+coO x.ex+1+A.length+1)=B;have hmk:mkX iw iv x m.place=mkO iv x.ex++([⟨13,m.place+coO x.ex+1+A.length+1,0⟩]++(A++([⟨12,m.place+coO x.ex+1+A.length+1+B.length,0⟩]++B))):=by
    unfold mkX;rw[if_neg (by omega),if_neg (by omega),if_pos hop];dsimp only;rw[if_neg htwo,qfl,hA,hB]
   rw[hmk] at hc ⊢;have hcr:=hc.right;rw[qfl] at hcr;have hca:=hcr.right;simp only[List.length_singleton] at hca;have el:m.place+(mkO iv x.ex++([(⟨13,m.place+coO x.ex+1+A.length+1,0⟩:Ins)]++(A++([(⟨12,m.place+coO x.ex+1+A.length+1+B.length,0⟩:Ins)]++B)))).length=m.place+coO x.ex+1+A.length+1+B.length:=by
    simp only[List.length_append,qfl,List.length_singleton];omega
   rw[el];rcases g2 rfl with rfl | rfl
   ·rw[if_neg (by decide)]
    have hs:qa7 P 1 { m with st:=0::m.st,place:=m.place+coO x.ex }=some { m with st:=m.st,place:=m.place+coO x.ex+1+A.length+1 }:=step_ok hcr.left.one hu rfl hr.fin
    have hcb:=hca.right.right;simp only[List.length_singleton] at hcb;have hp:=h2 s { m with st:=m.st,place:=m.place+coO x.ex+1+A.length+1 } S G k2 u2 ⟨hr.held,hr.left,hr.asks,hr.st,hr.und,hr.begun,hr.len,hr.tried,hr.fin,hr.ty⟩ hg hu (by dsimp only;rw[hB];exact hcb)
    dsimp only at hp;rw[hB] at hp;exact Post.after (qaz g1 hs) hp (by omega)
   ·rw[if_pos rfl];have hs:qa7 P 1 { m with st:=1::m.st,place:=m.place+coO x.ex }=some { m with st:=m.st,place:=m.place+coO x.ex+1 }:=step_ok hcr.left.one hu rfl hr.fin
    have hp:=h1 s { m with st:=m.st,place:=m.place+coO x.ex+1 } S G k1 u1 ⟨hr.held,hr.left,hr.asks,hr.st,hr.und,hr.begun,hr.len,hr.tried,hr.fin,hr.ty⟩ hg hu (by dsimp only;rw[hA];exact hca.left)
    dsimp only at hp;rw[hA] at hp;refine Post.after (qaz g1 hs) (n:=coS x.one+Uq s+1) ?_ (by omega)
    refine Post.seq (S':=[]) (f:=fun s=>s) hp (fun _=>rfl) (by omega) ?_
    intro k m' hk' hr' hp' hu' hb' hg';have hs2:qa7 P 1 m'=some { m' with place:=m.place+coO x.ex+1+A.length+1+B.length }:=by
     refine step_ok (i:=⟨12,m.place+coO x.ex+1+A.length+1+B.length,0⟩) ?_ hu' rfl hr'.fin;rw[hp'];exact hca.right.left.one
    obtain ⟨q1,q2,q3⟩:=qeg.1 hg';exact Or.inl ⟨q1,q2,q3,1,_,hs2,⟨hr'.held,hr'.left,hr'.asks,hr'.st,hr'.und,hr'.begun,hr'.len,hr'.tried,hr'.fin,hr'.ty⟩,rfl,hu',by omega⟩
theorem zsb (P:Pg) (V:Vs) (iw iv:ByteArray→Nat) (one:List Sm) (h1:SimS P V iw iv one) (k1:okS V one) (u1:UsS P iw one) (p:Nat) (hc:CodeAt P p ([⟨14,p+1+(mkS iw iv one (p+1)).length+1,0⟩]++(mkS iw iv one (p+1)++[⟨12,p,0⟩]))) (n:Nat):n≤9→∀ (s:Rs) (m:Ms) (S:List Int) (G:List (Nat×Nat)),Rel P V s m ((n:Int)::S) G→s.going=true→m.qak=false→m.place=p →
  Post P V S G (p+1+(mkS iw iv one (p+1)).length+1) (n * (coS one+2)+1+Uq s) m (iter (runS V one) n s):=by
 induction n with
 | zero =>
  intro _ s m S G hr hg hu hp;subst hp;have hs:qa7 P 1 m=some { m with st:=S,place:=m.place+1+(mkS iw iv one (m.place+1)).length+1 }:=by
   refine step_ok hc.left.one hu ?_ hr.fin;unfold doM;simp[hr.st]
  obtain ⟨q1,q2,q3⟩:=qeg.1 hg;exact Or.inl ⟨q1,q2,q3,1,_,hs,⟨hr.held,hr.left,hr.asks,rfl,hr.und,hr.begun,hr.len,hr.tried,hr.fin,hr.ty⟩,rfl,hu,by rw[iter];omega⟩
 | succ n ih =>
  intro hn s m S G hr hg hu hp;subst hp;have hs:qa7 P 1 m=some { m with st:=(n:Int)::S,place:=m.place+1 }:=by
   refine step_ok hc.left.one hu ?_ hr.fin;have e1:wrap64 ((n:Int)+1 - 1)=n:=by rw[show (n:Int)+1 - 1=n by omega];unfold wrap64;omega
   have e2:(0:Int) < (n:Int)+1:=by omega
   show (if 0 < m.st.headD 0 then ((0:Nat),{ m with st:=wrap64 (m.st.headD 0 - 1)::m.st.tail,place:=m.place+1 }) else (0,{ m with st:=m.st.tail,place:=m.place+1+(mkS iw iv one (m.place+1)).length+1 }))=_
   rw[hr.st];have e3:(((n+1:Nat):Int)::S).headD 0=(n:Int)+1:=by simp
   rw[e3,if_pos e2,e1];rfl
  have hca:=hc.right;simp only[List.length_singleton] at hca;have hb:=h1 s { m with st:=(n:Int)::S,place:=m.place+1 } ((n:Int)::S) G k1 u1 ⟨hr.held,hr.left,hr.asks,rfl,hr.und,hr.begun,hr.len,hr.tried,hr.fin,hr.ty⟩ hg hu hca.left
  dsimp only at hb;rw[iter];have en:(n+1) * (coS one+2)=n * (coS one+2)+coS one+2:=by rw[Nat.add_mul];omega
  rw[en];refine Post.after hs (n:=n * (coS one+2)+coS one+2+Uq s) ?_ (by omega)
  refine Post.seq (S':=[(n:Int)]) (f:=iter (runS V one) n) hb (fun h=>qjn (qez V one h) n) (by omega) ?_
  intro k m' hk' hr' hp' hu' hb' hg';have hs2:qa7 P 1 m'=some { m' with place:=m.place }:=by
   refine step_ok (i:=⟨12,m.place,0⟩) ?_ hu' rfl hr'.fin;rw[hp'];exact hca.right.one
  have:=ih (by omega) (runS V one s) { m' with place:=m.place } S G ⟨hr'.held,hr'.left,hr'.asks,hr'.st,hr'.und,hr'.begun,hr'.len,hr'.tried,hr'.fin,hr'.ty⟩ hg' hu' rfl
  exact Post.after hs2 this (by omega)
theorem zcl (P:Pg) (V:Vs) (iw iv:ByteArray→Nat) (x:Sm) (hop:x.op=114) (hn:x.n≤9) (h1:SimS P V iw iv x.one) (k1:okS V x.one) (u1:UsS P iw x.one):SimX P V iw iv x:=by
 intro s m S G hr hg hu hc;have hmk:mkX iw iv x m.place=[⟨0,x.n,0⟩]++([⟨14,m.place+1+1+(mkS iw iv x.one (m.place+1+1)).length+1,0⟩]++(mkS iw iv x.one (m.place+1+1)++[⟨12,m.place+1,0⟩])):=by
  unfold mkX;rw[if_neg (by omega),if_neg (by omega),if_neg (by omega),if_neg (by omega),if_pos hop]
 have hco:coX x=2+x.n * (coS x.one+2):=by unfold coX;rw[if_neg (by omega),if_neg (by omega),if_neg (by omega),if_neg (by omega),if_pos hop]
 have hrun:runX V x s=iter (runS V x.one) x.n s:=by unfold runX;rw[if_neg (by omega),if_neg (by omega),if_neg (by omega),if_neg (by omega),if_pos hop]
 rw[hmk] at hc ⊢;rw[hco,hrun];have hs:qa7 P 1 m=some { m with st:=(x.n:Int)::m.st,place:=m.place+1 }:=step_ok hc.left.one hu rfl hr.fin
 have hcr:=hc.right;simp only[List.length_singleton] at hcr
 have:=zsb P V iw iv x.one h1 k1 u1 (m.place+1) hcr x.n hn s { m with st:=(x.n:Int)::m.st,place:=m.place+1 } S G ⟨hr.held,hr.left,hr.asks,by dsimp only;rw[hr.st],hr.und,hr.begun,hr.len,hr.tried,hr.fin,hr.ty⟩ hg hu rfl
 have el:m.place+([(⟨0,x.n,0⟩:Ins)]++([(⟨14,m.place+1+1+(mkS iw iv x.one (m.place+1+1)).length+1,0⟩:Ins)]++(mkS iw iv x.one (m.place+1+1)++[(⟨12,m.place+1,0⟩:Ins)]))).length=m.place+1+1+(mkS iw iv x.one (m.place+1+1)).length+1:=by
  simp only[List.length_append,List.length_singleton];omega
 rw[el];exact Post.after hs this (by omega)
theorem zom (P:Pg) (V:Vs) (iw iv:ByteArray→Nat) (x:Sm) (hop:x.op=102):SimX P V iw iv x:=by
 intro s m S G hr hg hu hc;have hmk:mkX iw iv x m.place=[⟨17,0,0⟩]:=by
  unfold mkX;rw[if_neg (by omega),if_neg (by omega),if_neg (by omega),if_neg (by omega),if_neg (by omega)]
 have hco:coX x=1:=by unfold coX;rw[if_neg (by omega),if_neg (by omega),if_neg (by omega),if_neg (by omega),if_neg (by omega)]
 have hrun:runX V x s={ s with failed:=true }:=by unfold runX;rw[if_neg (by omega),if_neg (by omega),if_neg (by omega),if_neg (by omega),if_neg (by omega)]
 rw[hmk] at hc ⊢;rw[hco,hrun];have hs:qa7 P 1 m=some { m with st:=[]++m.st,place:=m.place,qak:=true }:=qvd (m':={ m with place:=m.place+1 }) hc.one hu rfl hr.fin
 exact qif hr hg hs (by omega)
theorem Rel.split {P:Pg} {V:Vs} {s:Rs} {m:Ms} {S:List Int} {G:List (Nat×Nat)} (hr:Rel P V s m S G):∃ L r,m.undos=L++r∧L.map (undW P)=(s.piles.getLastD []).reverse∧(r.map (undW P)).reverse=s.piles.dropLast.flatten∧L.length=(s.piles.getLastD []).length∧r.length=s.piles.dropLast.flatten.length:=by
 have h:=hr.und;rw[qhw hr.ne] at h;have h2:m.undos.map (undW P)=(s.piles.getLastD []).reverse++s.piles.dropLast.flatten.reverse:=by
  rw[← List.reverse_append,← h,List.reverse_reverse]
 obtain ⟨L,r,e1,e2,e3⟩:=List.map_eq_append_iff.1 h2;refine ⟨L,r,e1,e2,by rw[e3,List.reverse_reverse],?_,?_⟩
 ·have:=congrArg List.length e2;simpa using this
 ·have:=congrArg List.length e3;simpa using this
theorem zrc (P:Pg) (V:Vs) (iw iv:ByteArray→Nat) (x:Sm) (hop:x.op=116) (h1:SimS P V iw iv x.one) (h2:SimS P V iw iv x.two) (k1:okS V x.one) (k2:okS V x.two) (u1:UsS P iw x.one) (u2:UsS P iw x.two):SimX P V iw iv x:=by
 intro s m S G hr hg hu hc;generalize hA:mkS iw iv x.one (m.place+1)=A;generalize hB:mkS iw iv x.two (m.place+1+A.length+1)=B;have hmk:mkX iw iv x m.place=[⟨15,m.place+1+A.length+1,0⟩]++(A++([⟨16,m.place+1+A.length+1+B.length,0⟩]++B)):=by
  unfold mkX;rw[if_neg (by omega),if_neg (by omega),if_neg (by omega),if_pos hop];dsimp only;rw[hA,hB]
 have hco:coX x=3+coS x.one+coS x.two:=by unfold coX;rw[if_neg (by omega),if_neg (by omega),if_neg (by omega),if_pos hop]
 have hrun:runX V x s=(let s1:=runS V x.one { s with piles:=s.piles++[[]] }
   if s1.over≠0∨s1.stop=true then s1
   else if s1.failed then (let s2:=qb5 { s1 with failed:=false };if s2.going then runS V x.two s2 else s2)
   else { s1 with piles:=layP s1.piles.dropLast (s1.piles.getLastD []) }):=by unfold runX;rw[if_neg (by omega),if_neg (by omega),if_neg (by omega),if_pos hop]
 rw[hmk] at hc ⊢;rw[hco,hrun];have el:m.place+([(⟨15,m.place+1+A.length+1,0⟩:Ins)]++(A++([(⟨16,m.place+1+A.length+1+B.length,0⟩:Ins)]++B))).length=m.place+1+A.length+1+B.length:=by
  simp only[List.length_append,List.length_singleton];omega
 rw[el];have hca:=hc.right;simp only[List.length_singleton] at hca;have hcb:=hca.right.right;simp only[List.length_singleton] at hcb;have hs:qa7 P 1 m=some { m with begun:=(m.undos.length,m.st.length,m.place+1+A.length+1)::m.begun,place:=m.place+1 }:=step_ok hc.left.one hu rfl hr.fin
 have hr0:Rel P V { s with piles:=s.piles++[[]] } { m with begun:=(m.undos.length,m.st.length,m.place+1+A.length+1)::m.begun,place:=m.place+1 } S ((S.length,m.place+1+A.length+1)::G):=by
  refine ⟨hr.held,hr.left,hr.asks,hr.st,?_,?_,?_,hr.tried,hr.fin,hr.ty⟩
  ·dsimp only;rw[hr.und];simp
  ·dsimp only;rw[frames,List.dropLast_concat,hr.begun,hr.nund,hr.st]
  ·dsimp only;rw[List.length_append,List.length_cons,hr.len];rfl
 have hU0:Uq { s with piles:=s.piles++[[]] }=Uq s:=by unfold Uq;simp
 have hb:=h1 { s with piles:=s.piles++[[]] } _ S ((S.length,m.place+1+A.length+1)::G) k1 u1 hr0 hg hu (by dsimp only;rw[hA];exact hca.left)
 dsimp only at hb;rw[hA,hU0] at hb;dsimp only;generalize runS V x.one { s with piles:=s.piles++[[]] }=s1 at hb
 refine Post.after hs (n:=2+coS x.one+coS x.two+Uq s) ?_ (by omega)
 rcases hb with ⟨b1,b2,b3,k,m1,b4,b5,b6,b7,b8⟩ | ⟨b1,b2,b3,k,m1,t,b4,b5,b6,b8⟩ | ⟨b1,b2⟩
 ·rw[if_neg (by rw[b1,b2];simp),if_neg (by rw[b3];simp)]
  have hs2:qa7 P 1 m1=some { m1 with begun:=m1.begun.tail,place:=m.place+1+A.length+1+B.length }:=by
   refine step_ok (i:=⟨16,m.place+1+A.length+1+B.length,0⟩) ?_ b7 rfl b5.fin;rw[b6];exact hca.right.left.one
  have hne:s1.piles.dropLast≠[]:=by
   intro e;have h3:=b5.len;have h4:s1.piles.dropLast.length=0:=by rw[e];rfl
   rw[List.length_dropLast] at h4;simp at h3;omega
  refine Or.inl ⟨b1,b2,b3,k+1,_,qaz b4 hs2,⟨b5.held,b5.left,b5.asks,b5.st,?_,?_,?_,b5.tried,b5.fin,b5.ty⟩,rfl,b7,?_⟩
  ·dsimp only;rw[qlo hne,b5.und,qhw b5.ne]
  ·dsimp only;rw[b5.begun,frames,List.tail_cons];exact qpv (qv4 _ _).symm G
  ·dsimp only;rw[zai hne,List.length_dropLast,b5.len];simp
  ·have hu1:Uq { s1 with piles:=layP s1.piles.dropLast (s1.piles.getLastD []) }=Uq s1:=by
    unfold Uq;dsimp only;rw[qlo hne,← qhw b5.ne]
   rw[hu1];omega
 ·rw[if_neg (by rw[b1,b2];simp),if_pos b3]
  obtain ⟨L,r,e1,e2,e3,e4,e5⟩:=b5.split;have hfl:qbw m1=r.length:=by
   unfold qbw;rw[b5.begun,frames,e5]
  obtain ⟨c1,c2,a,l,o,q,c3⟩:=qu1 P L r m1 { s1 with failed:=false,piles:=s1.piles.dropLast } b6 e1 hfl b5.fin b5.left b5.asks b5.tried b1 b2
  have hund:qb5 { s1 with failed:=false }=qch (L.map (undW P)) { s1 with failed:=false,piles:=s1.piles.dropLast }:=by
   unfold qb5;dsimp only;rw[e2]
  rw[hund];have hUq:Uq s1=3 * L.length+3 * s1.piles.dropLast.flatten.length:=by
   unfold Uq;rw[qhw b5.ne,List.length_append,e4];omega
  generalize qch (L.map (undW P)) { s1 with failed:=false,piles:=s1.piles.dropLast }=s2 at c1 c2 c3
  by_cases hg2:s2.going=true
  ·rw[if_pos hg2];obtain ⟨q1,q2,q3⟩:=qeg.1 hg2;obtain ⟨j,hj,hst⟩:=c2 q1 q2;have hbg:m1.begun=(r.length,S.length,m.place+1+A.length+1)::frames s1.piles.dropLast G:=by rw[b5.begun,frames,e5]
   have hsb:qa7 P 1 { m1 with asks:=s2.asks,left:=s2.left,undos:=r }=some { m1 with asks:=s2.asks,left:=s2.left,undos:=r,qak:=false,begun:=frames s1.piles.dropLast G,st:=S,place:=m.place+1+A.length+1 }:=by
    have h3:=qxd (P:=P) (m:={ m1 with asks:=s2.asks,left:=s2.left,undos:=r }) b6 hbg rfl b5.fin
    rw[h3];dsimp only;congr 2;rw[b5.st,List.length_append,Nat.add_sub_cancel,List.drop_left]
   have hr2:Rel P V s2 { m1 with asks:=s2.asks,left:=s2.left,undos:=r,qak:=false,begun:=frames s1.piles.dropLast G,st:=S,place:=m.place+1+A.length+1 } S G:=by
    refine ⟨?_,rfl,rfl,rfl,?_,?_,?_,b5.tried,b5.fin,?_⟩
    ·rw[c3];exact b5.held
    ·rw[c3];exact e3
    ·rw[c3]
    ·rw[c3];dsimp only;rw[List.length_dropLast,b5.len];simp
    ·rw[c3];exact b5.ty
   have hp:=h2 s2 _ S G k2 u2 hr2 hg2 rfl (by dsimp only;rw[hB];exact hcb)
   dsimp only at hp;rw[hB] at hp;have hU2:Uq s2=3 * s1.piles.dropLast.flatten.length:=by unfold Uq;rw[c3]
   rw[hU2] at hp;exact Post.after (qaz b4 (qaz hst hsb)) hp (by omega)
  ·rw[if_neg hg2];have hnot:s2.over≠0∨s2.stop=true:=by
    by_cases ho:s2.over=0
    ·refine Or.inr ?_;by_cases hs3:s2.stop=true
     ·exact hs3
     ·exact absurd (qeg.2 ⟨ho,by simpa using hs3,by rw[c3]⟩) hg2
    ·exact Or.inl ho
   refine Or.inr (Or.inr ⟨hnot,?_⟩);rw[show s2.held=m1.vars by rw[c3];exact b5.held.symm]
   exact (c1 hnot).after b4 (by omega)
 ·rw[if_pos b1];exact Or.inr (Or.inr ⟨b1,b2.mono (by omega)⟩)
theorem qgq (P:Pg) (V:Vs) (iw iv:ByteArray→Nat) (hiv:∀ w i,qa3 V w=some i→iv w=i) (l:List Sm):SimS P V iw iv l:=by
 match l with
 | [] =>
  intro s m S G _ _ hr hg hu _;rw[qdy,qms,qyi];obtain ⟨q1,q2,q3⟩:=qeg.1 hg;exact Or.inl ⟨q1,q2,q3,0,m,rfl,hr,rfl,hu,by omega⟩
 | ⟨op,word,pl,ex,asw,asPl,undo,n,nPl,one,two⟩::rest =>
  intro s m S G hk hus hr hg hu hc;rw[qh7] at hc;rw[qh7,qci,if_pos hg,zbe];obtain ⟨k1,k2,k3,k4⟩:=qgd.1 hk;obtain ⟨u1,u2,u3,u4⟩:=zbo.1 hus;have hx:SimX P V iw iv ⟨op,word,pl,ex,asw,asPl,undo,n,nPl,one,two⟩:=by
   dsimp only at k1 k2 k3 u1 u2 u3;have k1':=k1;rcases k1 with h | h | h | h | h | h
   ·exact zth P V iw iv hiv _ h.1 k1'
   ·exact zow P V iw iv hiv _ h.1 k1' (u1 h.1)
   ·exact zxf P V iw iv hiv _ h.1 k1' (qgq P V iw iv hiv one) (qgq P V iw iv hiv two) (k2 (Or.inl h.1)) (k3 (Or.inl h.1)) (u2 (Or.inl h.1)) (u3 (Or.inl h.1))
   ·exact zrc P V iw iv _ h (qgq P V iw iv hiv one) (qgq P V iw iv hiv two) (k2 (Or.inr (Or.inl h))) (k3 (Or.inr h)) (u2 (Or.inr (Or.inl h))) (u3 (Or.inr h))
   ·exact zcl P V iw iv _ h.1 h.2 (qgq P V iw iv hiv one) (k2 (Or.inr (Or.inr h.1))) (u2 (Or.inr (Or.inr h.1)))
   ·exact zom P V iw iv _ h
  generalize (⟨op,word,pl,ex,asw,asPl,undo,n,nPl,one,two⟩:Sm)=x at *;have hp:=hx s m S G hr hg hu hc.left;refine Post.seq (S':=[]) (f:=runS V rest) hp (fun h=>qez V rest h) (N:=coX x+coS rest+Uq s) (by omega) ?_
  intro k m' hk' hr' hp' hu' hb' hg';have hc2:=hc.right;rw[← hp'] at hc2
  have:=qgq P V iw iv hiv rest (runX V x s) m' S G k4 u4 hr' hg' hu' (by rw[hp'] at hc2 ⊢;exact hc2)
  rw[hp'] at this;rw[List.length_append,← Nat.add_assoc];exact this.mono (by omega)
theorem zl2 (P:Pg) (V:Vs) (iw iv:ByteArray→Nat) (hiv:∀ w i,qa3 V w=some i→iv w=i) (l:List Sm) (hk:okS V l) (hus:UsS P iw l) (hins:P.ins=mkS iw iv l 0) (hnv:P.nv=V.length) (answers:List Int) (N:Nat) (hN:coS l+2≤N) :
  ∃ m,runM P N ⟨[],List.replicate P.nv 0,[],[],[],answers,0,0,false,0⟩=((play V l answers).over,m)∧m.asks=(play V l answers).asks∧m.vars=(play V l answers).held∧m.fin=(play V l answers).over:=by
 have hr:Rel P V ⟨List.replicate V.length 0,answers,[],[[]],0,false,false⟩ ⟨[],List.replicate P.nv 0,[],[],[],answers,0,0,false,0⟩ [] []:=by
  refine ⟨by rw[hnv],rfl,rfl,rfl,rfl,rfl,rfl,rfl,rfl,⟨by simp,fun i hi _=>Or.inl ?_⟩⟩
  dsimp only;rw[List.getD_eq_getElem?_getD,List.getElem?_replicate];split<;>rfl
 have hc:CodeAt P 0 (mkS iw iv l 0):=fun j _=>by rw[hins,Nat.zero_add]
 have hp:=qgq P V iw iv hiv l _ _ [] [] hk hus hr rfl rfl hc;have hU:Uq ⟨List.replicate V.length 0,answers,[],[[]],0,false,false⟩=0:=rfl;rw[hU] at hp;dsimp only at hp;have ends:∀ {f:Nat} {asks:List Ask} {vars:List Int},EndsM P ⟨[],List.replicate P.nv 0,[],[],[],answers,0,0,false,0⟩ N f asks vars→∃ m,runM P N ⟨[],List.replicate P.nv 0,[],[],[],answers,0,0,false,0⟩=(f,m)∧m.asks=asks∧m.vars=vars∧m.fin=f:=by
  rintro f asks vars ⟨k,m1,m2,e1,e2,e3,e4,e6,e5⟩;refine ⟨m2,?_,e4,e6,e3⟩;rw[qq9 e1 (by omega),zfl e2 (by omega),e3]
 unfold play;generalize runS V l ⟨List.replicate V.length 0,answers,[],[[]],0,false,false⟩=s1 at hp;refine ends ?_;unfold ended;rcases hp with ⟨b1,b2,b3,k,m1,b4,b5,b6,b7,b8⟩ | ⟨b1,b2,b3,k,m1,t,b4,b5,b6,b8⟩ | ⟨b1,b2⟩
 ·rw[if_neg (by rw[b1,b2];simp),if_neg (by rw[b3];simp)]
  refine ⟨k,m1,{ m1 with fin:=1 },b4,?_,rfl,b5.asks,b5.held,by omega⟩
  unfold qbo qa1;have hno:P.ins[m1.place]?=none:=by rw[b6,hins];simp
  rw[if_neg (by simp[b7]),hno]
  rfl
 ·rw[if_neg (by rw[b1,b2];simp),if_pos b3]
  obtain ⟨L,r,e1,e2,e3,e4,e5⟩:=b5.split;have hlen:=b5.len;simp only[List.length_nil,Nat.zero_add] at hlen;have hdrop:s1.piles.dropLast=[]:=List.length_eq_zero_iff.1 (by rw[List.length_dropLast,hlen])
  have hr0:r=[]:=List.length_eq_zero_iff.1 (by rw[e5,hdrop];rfl)
  subst hr0;have hfl:qbw m1=([]:List (Nat×Int)).length:=by
   unfold qbw;rw[b5.begun];rfl
  obtain ⟨c1,c2,a,l',o,q,c3⟩:=qu1 P L [] m1 { s1 with piles:=s1.piles.dropLast } b6 e1 hfl b5.fin b5.left b5.asks b5.tried b1 b2
  have hund:qb5 s1=qch (L.map (undW P)) { s1 with piles:=s1.piles.dropLast }:=by
   unfold qb5;rw[e2]
  rw[hund];have hUq:Uq s1=3 * L.length:=by
   unfold Uq;rw[qhw b5.ne,hdrop,e4];simp
  generalize qch (L.map (undW P)) { s1 with piles:=s1.piles.dropLast }=s2 at c1 c2 c3
  dsimp only;by_cases hg2:s2.over=0∧s2.stop=false
  ·rw[if_pos hg2];obtain ⟨j,hj,hst⟩:=c2 hg2.1 hg2.2;refine EndsM.after (qaz b4 hst) ⟨0,_,_,rfl,qyb b6 ?_ rfl,rfl,rfl,?_,Nat.le_refl _⟩ (by omega)
   ·dsimp only;rw[b5.begun];rfl
   ·dsimp only;rw[c3];exact b5.held
  ·rw[if_neg hg2];have hnot:s2.over≠0∨s2.stop=true:=by
    by_cases ho:s2.over=0
    ·refine Or.inr ?_;by_cases hs3:s2.stop=true
     ·exact hs3
     ·exact absurd ⟨ho,by simpa using hs3⟩ hg2
    ·exact Or.inl ho
   rw[show s2.held=m1.vars by rw[c3];exact b5.held.symm]
   exact (c1 hnot).after b4 (by omega)
 ·rw[if_pos b1];exact b2.mono (by omega)
def CoE (s:ByteArray) (g:Ps→Except Nat (Ex×Ps)):Prop:=∀ st x st',Tk s st.t→g st=.ok (x,st')→TrE x∧coE x+st.t.a≤st'.t.a∧(0≤st.deep→0≤st'.deep)
theorem qwm (x:Ex) (a:Nat):coE { x with pl:=a }=coE x:=by
 match x with
 | ⟨_,_,_,_,_,none,_⟩=>rfl
 | ⟨_,_,_,_,_,some _,none⟩=>rfl
 | ⟨_,_,_,_,_,some _,some _⟩=>rfl
theorem TrE.place {x:Ex} (h:TrE x) (a:Nat):TrE { x with pl:=a }:=by
 match x with
 | ⟨_,_,_,_,_,none,_⟩=>exact h
 | ⟨_,_,_,_,_,some _,none⟩=>exact h
 | ⟨_,_,_,_,_,some _,some _⟩=>exact h
theorem zi8 {st:Ps} (h:0≤st.deep):0≤(dn st).deep:=by
 show 0≤qdg st.nest st.deep st.t.a
 unfold qdg;split<;>omega
theorem zov {s:ByteArray} {g:Ps→Except Nat (Ex×Ps)} (hg:Goes s g) (hs:CoE s g) (a b:UInt8) (n:Nat):∀ (pl lo:Nat) (e:Ex) (st:Ps) (x:Ex) (st':Ps),Tk s st.t→TrE e→coE e+lo≤st.t.a→chain s g a b n pl e st=.ok (x,st')→TrE x∧coE x+lo≤st'.t.a∧(0≤st.deep→0≤st'.deep):=by
 induction n with
 | zero=>intro pl lo e st x st' _ _ _ h;simp[chain] at h
 | succ n ih =>
  intro pl lo e st x st' ht he hle h;rw[chain] at h;split at h
  ·rename_i ho;have g0:=qaf ht ho;have l0:=g0.lt;cases hp:g (nx s st) with
   | error p=>rw[hp] at h;cases h
   | ok r =>
    obtain ⟨k,st1⟩:=r;rw[hp] at h;have g1:=hg _ _ _ g0.tk hp;obtain ⟨k1,k2,k3⟩:=hs _ _ _ g0.tk hp;obtain ⟨i1,i2,i3⟩:=ih pl lo ⟨a.toNat,0,nowt,pl,st.t.a,some e,some k⟩ _ _ _ g1.tk ⟨he,k1⟩ (by simp only[coE];omega) h
    exact ⟨i1,i2,fun hd=>i3 (k3 hd)⟩
  ·split at h
   ·rename_i ho;have g0:=qaf ht ho;have l0:=g0.lt;cases hp:g (nx s st) with
    | error p=>rw[hp] at h;cases h
    | ok r =>
     obtain ⟨k,st1⟩:=r;rw[hp] at h;have g1:=hg _ _ _ g0.tk hp;obtain ⟨k1,k2,k3⟩:=hs _ _ _ g0.tk hp;obtain ⟨i1,i2,i3⟩:=ih pl lo ⟨b.toNat,0,nowt,pl,st.t.a,some e,some k⟩ _ _ _ g1.tk ⟨he,k1⟩ (by simp only[coE];omega) h
     exact ⟨i1,i2,fun hd=>i3 (k3 hd)⟩
   ·cases h;exact ⟨he,hle,id⟩
theorem zp9 {s:ByteArray} {g:Ps→Except Nat (Ex×Ps)} (hg:Goes s g) (hs:CoE s g) (a b:UInt8):CoE s (row s g a b):=by
 intro st x st' ht h;unfold row at h;cases hp:g st with
 | error p=>rw[hp] at h;cases h
 | ok r =>
  obtain ⟨e,st1⟩:=r;rw[hp] at h;have g1:=hg _ _ _ ht hp;obtain ⟨k1,k2,k3⟩:=hs _ _ _ ht hp;obtain ⟨i1,i2,i3⟩:=zov hg hs _ _ _ _ _ _ _ _ _ g1.tk k1 k2 h;exact ⟨i1,i2,fun hd=>i3 (k3 hd)⟩
theorem zp1 {s:ByteArray} {g:Ps→Except Nat (Ex×Ps)} (hg:Goes s g) (hs:CoE s g):CoE s (sum s g):=zp9 (qgp hg) (zp9 hg hs _ _) _ _
theorem ziw {s:ByteArray} {g:Ps→Except Nat (Ex×Ps)} (hg:Goes s g) (hs:CoE s g):CoE s (expr s g):=by
 intro st x st' ht h;unfold expr at h;cases hp:sum s g st with
 | error p=>rw[hp] at h;cases h
 | ok r =>
  obtain ⟨e,st1⟩:=r;rw[hp] at h;simp only at h;have g1:=qgb hg _ _ _ ht hp;obtain ⟨j1,j2,j3⟩:=zp1 hg hs _ _ _ ht hp;cases hc:qec s st1.t with
  | none=>rw[hc] at h;cases h;exact ⟨j1,j2,j3⟩
  | some o =>
   rw[hc] at h;simp only at h;have hk:=qm5 hc;have g0:Good s st1 (nx s st1):=qe5 g1.tk (by rw[hk];decide) (by rw[hk];decide)
   have l0:=g0.lt;cases hq:sum s g (nx s st1) with
   | error p=>rw[hq] at h;cases h
   | ok r2 =>
    obtain ⟨k,st2⟩:=r2;rw[hq] at h;obtain ⟨i1,i2,i3⟩:=zp1 hg hs _ _ _ g0.tk hq;cases h;exact ⟨⟨j1,i1⟩,by simp only[coE];omega,fun hd=>i3 (j3 hd)⟩
theorem zvc (s:ByteArray) (n:Nat):CoE s (atom s n):=by
 induction n with
 | zero=>intro st x st' _ h;simp[atom] at h
 | succ n ih =>
  intro st x st' ht h;have hgo:=qbj s (n+1) _ _ _ ht h;have hlt:=hgo.lt;rw[atom] at h;split at h
  ·cases h;exact ⟨fun h=>absurd h (by decide),by simp only[leaf,coE];omega,id⟩
  ·split at h
   ·cases h;exact ⟨fun h=>absurd h (by decide),by simp only[leaf,coE];omega,id⟩
   ·split at h
    ·cases h;exact ⟨fun _=>Nat.le_refl _,by simp only[leaf,coE];omega,id⟩
    ·split at h
     ·cases h;exact ⟨fun _=>Nat.zero_le _,by simp only[leaf,coE];omega,id⟩
     ·split at h
      ·rename_i ho;have g0:=qaf ht ho;have l0:=g0.lt;cases hp:atom s n (nx s st) with
       | error p=>rw[hp] at h;cases h
       | ok r =>
        obtain ⟨k,st1⟩:=r;rw[hp] at h;obtain ⟨k1,k2,k3⟩:=ih _ _ _ g0.tk hp;cases h;exact ⟨k1,by simp only[coE];omega,k3⟩
      ·split at h
       ·rename_i ho;have g0:=qaf (st:=dn st) ht ho;have l0:st.t.a < (nx s (dn st)).t.a:=g0.lt;cases hp:expr s (atom s n) (nx s (dn st)) with
        | error p=>rw[hp] at h;cases h
        | ok r =>
         obtain ⟨k,st1⟩:=r;have g1:=qf3 (qbj s n) _ _ _ g0.tk hp;obtain ⟨k1,k2,k3⟩:=ziw (qbj s n) ih _ _ _ g0.tk hp;rw[hp] at h;simp only at h;split at h
         ·rename_i ho2;have g2:=qaf g1.tk ho2;have l3:st1.t.a < (upp (nx s st1)).t.a:=g2.lt;cases h;exact ⟨k1.place _,by rw[qwm];omega,fun hd=>k3 (zi8 hd)⟩
         ·cases h
       ·cases h
theorem qp5 (s:ByteArray):CoE s (qa4 s):=ziw (qbj s _) (zvc s _)
theorem zhs {s:ByteArray} {k:Nat} {st st':Ps} (h:kind s k st=.ok st'):st.t.k=k∧st'=nx s st:=by
 unfold kind at h;split at h
 ·rename_i hk;cases h;exact ⟨hk,rfl⟩
 ·cases h
def kD (d:Nat):Nat:=2 * 9 ^ (4 - d)
theorem qrl {d:Nat} (h:d≤4):(d=0∧kD d=13122∧kD (d+1)=1458)∨(d=1∧kD d=1458∧kD (d+1)=162)∨(d=2∧kD d=162∧kD (d+1)=18)∨(d=3∧kD d=18∧kD (d+1)=2)∨(d=4∧kD d=2):=by
 have:d=0∨d=1∨d=2∨d=3∨d=4:=by omega
 rcases this with rfl | rfl | rfl | rfl | rfl<;>simp[kD]
def TrX (x:Sm):Prop:=(∀ e,x.ex=some e→TrE e)∧TrS x.one∧TrS x.two
def CoS (s:ByteArray) (V:Vs) (g:Ps→Except Nat (Sm×Ps)):Prop:=∀ st x st',Tk s st.t→g st=.ok (x,st')→TrX x∧(0≤st.deep→0≤st'.deep)∧∀ d:Nat,st.nest=d→d≤4→st'.deep < 0→okS V [x]→coX x+kD d * st.t.a≤kD d * st'.t.a
theorem qsj {s:ByteArray} {V:Vs} {g:Ps→Except Nat (Sm×Ps)} (hg:Goes s g) (hs:CoS s V g) (stop:Ps→Bool) (n:Nat):∀ (l:List Sm) (st:Ps) (x:List Sm) (st':Ps),Tk s st.t→stmts s g stop n l st=.ok (x,st')→∃ y,x=l++y∧TrS y∧(0≤st.deep→0≤st'.deep)∧∀ d:Nat,st.nest=d→d≤4→st'.deep < 0→okS V y→coS y+kD d * st.t.a≤kD d * st'.t.a:=by
 induction n with
 | zero=>intro l st x st' _ h;simp[stmts] at h
 | succ n ih =>
  intro l st x st' ht h;rw[stmts] at h;split at h
  ·cases h;exact ⟨[],by simp,qim,id,fun d _ _ _ _=>by rw[qyi];omega⟩
  ·cases hp:g st with
   | error p=>rw[hp] at h;cases h
   | ok r =>
    obtain ⟨y,st1⟩:=r;rw[hp] at h;have g1:=hg _ _ _ ht hp;obtain ⟨m1,m2,m3⟩:=hs _ _ _ ht hp;obtain ⟨z,i1,i2,i3,i4⟩:=ih _ _ _ _ g1.tk h;refine ⟨y::z,by rw[i1,List.append_assoc];rfl,zbp.2 ⟨m1.1,m1.2.1,m1.2.2,i2⟩,fun hd=>i3 (m2 hd),fun d hn hd hdp hok=>?_⟩
    obtain ⟨o1,o2,o3,o4⟩:=qgd.1 hok;have hd1:st1.deep < 0:=by
     rcases Int.lt_or_le st1.deep 0 with h | h
     ·exact h
     ·have:=i3 h;omega
    have a1:=m3 d hn hd hd1 (qgd.2 ⟨o1,o2,o3,zgx V⟩);have a2:=i4 d (by rw[g1.nest];exact hn) hd hdp o4
    rw[zbe];omega
theorem ql9 {s:ByteArray} {V:Vs} {g:Ps→Except Nat (Sm×Ps)} (hg:Goes s g) (hs:CoS s V g) {st:Ps} {x:List Sm} {st':Ps} (ht:Tk s st.t) (h:block s g st=.ok (x,st')):TrS x∧(0≤st.deep→0≤st'.deep)∧∀ d:Nat,st.nest=d→d≤4→st'.deep < 0→okS V x→d < 4∧coS x+kD (d+1) * (st.t.a+2)≤kD (d+1) * st'.t.a:=by
 unfold block at h;split at h
 ·rename_i ho;have g0:=qaf (st:=dn st) ht ho;have l0:st.t.a < (nx s (dn st)).t.a:=g0.lt;cases hp:stmts s g (fun st=>onB s st.t ⟨#[125]⟩) (s.size+1) [] (nx s (dn st)) with
  | error p=>rw[hp] at h;cases h
  | ok r =>
   obtain ⟨l,st1⟩:=r;rw[hp] at h;obtain ⟨y,i1,i2,i3,i4⟩:=qsj hg hs _ _ _ _ _ _ g0.tk hp;obtain ⟨g1,g2⟩:=qcs hg _ _ _ _ _ _ g0.tk hp;have g3:=qaf g1.tk g2;have l3:st1.t.a < (upp (nx s st1)).t.a:=g3.lt;simp only[List.nil_append] at i1;cases h;subst i1;refine ⟨i2,fun hd=>i3 (zi8 hd),fun d hn hd hdp hok=>?_⟩
   have hd1:st1.deep < 0:=hdp;have hd0:(dn st).deep < 0:=by
    rcases Int.lt_or_le (dn st).deep 0 with h | h
    ·exact h
    ·have:0≤st1.deep:=i3 h;omega
   have hlt:d < 4:=by
    have e:(dn st).deep=qdg st.nest st.deep st.t.a:=rfl;rw[e] at hd0;unfold qdg at hd0;split at hd0
    ·omega
    ·rename_i hc;omega
   have a:=i4 (d+1) (by show st.nest+1=((d+1:Nat):Int);omega) (by omega) hd1 hok
   refine ⟨hlt,?_⟩;rcases qrl hd with ⟨_,_,e⟩ | ⟨_,_,e⟩ | ⟨_,_,e⟩ | ⟨_,_,e⟩ | ⟨_,_⟩
   ·rw[e] at a ⊢;omega
   ·rw[e] at a ⊢;omega
   ·rw[e] at a ⊢;omega
   ·rw[e] at a ⊢;omega
   ·omega
 ·cases h
theorem zi7 {st st':Ps} (h:0≤st.deep→0≤st'.deep) (h':st'.deep < 0):st.deep < 0:=by
 rcases Int.lt_or_le st.deep 0 with g | g
 ·exact g
 ·have:=h g;omega
theorem zh0 {d:Nat} (h:d≤4):kD d=13122∨kD d=1458∨kD d=162∨kD d=18∨kD d=2:=by
 rcases qrl h with h | h | h | h | h<;>omega
theorem qnz:∀ e,(none:Option Ex)=some e→TrE e:=fun e h=>by cases h
theorem qny {e:Ex} (h:TrE e):∀ e',some e=some e'→TrE e':=fun e' h'=>by cases h';exact h
theorem ztn (s:ByteArray) (V:Vs):CoS s V (letS s):=by
 intro st x st' ht h;unfold letS at h;cases h1:kind s 119 st with
 | error p=>rw[h1] at h;cases h
 | ok st1 =>
  rw[h1] at h;simp only at h;have g1:=qa6 ht (by decide) (by decide) h1
  have d1:st1.deep=st.deep:=by rw[(zhs h1).2];rfl
  cases h2:need s ⟨#[61]⟩ st1 with
  | error p=>rw[h2] at h;cases h
  | ok st2 =>
   rw[h2] at h;simp only at h;have g2:=qav g1.tk h2;have d2:st2.deep=st1.deep:=by unfold need at h2;split at h2<;>cases h2;rfl
   cases h3:qa4 s st2 with
   | error p=>rw[h3] at h;cases h
   | ok r =>
    obtain ⟨e,st3⟩:=r;rw[h3] at h;simp only at h;have g3:=qbb s _ _ _ g2.tk h3;obtain ⟨e1,e2,e3⟩:=qp5 s _ _ _ g2.tk h3;cases h4:need s ⟨#[59]⟩ st3 with
    | error p=>rw[h4] at h;cases h
    | ok st4 =>
     have g4:=qav g3.tk h4;have d4:st4.deep=st3.deep:=by unfold need at h4;split at h4<;>cases h4;rfl
     rw[h4] at h;cases h;have l1:=g1.lt;have l2:=g2.lt;have l4:=g4.lt;refine ⟨⟨qny e1,qim,qim⟩,fun hd=>by rw[d4];exact e3 (by rw[d2,d1];exact hd),fun d _ hd _ _=>?_⟩
     have hc:coX { qa8 with op:=108,word:=txt s st.t,pl:=st.t.a,ex:=some e }=coE e+1:=rfl
     rw[hc];rcases zh0 hd with k | k | k | k | k<;>rw[k]<;>omega
theorem qht {s x:ByteArray} {st st':Ps} (h:need s x st=.ok st'):st'.deep=st.deep:=by
 unfold need at h;split at h
 ·cases h;rfl
 ·cases h
theorem qjm {s:ByteArray} {k:Nat} {st st':Ps} (h:kind s k st=.ok st'):st'.deep=st.deep:=by rw[(zhs h).2];rfl
theorem zu0 (s:ByteArray) (V:Vs):CoS s V (call s):=by
 intro st x st' ht h;unfold call at h;cases h1:kind s 119 st with
 | error p=>rw[h1] at h;cases h
 | ok st1 =>
  rw[h1] at h;simp only at h;have g1:=qa6 ht (by decide) (by decide) h1
  have d1:=qjm h1;cases h2:need s ⟨#[40]⟩ st1 with
  | error p=>rw[h2] at h;cases h
  | ok st2 =>
   rw[h2] at h;simp only at h;have g2:=qav g1.tk h2;have d2:=qht h2;generalize hz:({ qa8 with op:=99,word:=txt s st.t,pl:=st.t.a,n:=1 }:Sm)=x2 at h
   have z0:x2.op=99∧x2.n=1∧x2.undo.size=0∧x2.ex=none∧x2.one=[]∧x2.two=[]:=by rw[← hz];exact ⟨rfl,rfl,rfl,rfl,rfl,rfl⟩
   cases h3:qaw s x2 st2 with
   | error p=>rw[h3] at h;cases h
   | ok r =>
    obtain ⟨x3,st3⟩:=r;rw[h3] at h;simp only at h;have g3:=qet g2.tk h3;have z3:x3.op=99∧x3.n=1∧x3.undo.size=0∧x3.one=[]∧x3.two=[]∧(∀ e,x3.ex=some e→TrE e)∧coO x3.ex+st2.t.a≤st3.t.a+1∧(0≤st2.deep→0≤st3.deep):=by
     unfold qaw at h3;split at h3
     ·cases h3;exact ⟨z0.1,z0.2.1,z0.2.2.1,z0.2.2.2.2.1,z0.2.2.2.2.2,by rw[z0.2.2.2.1];exact qnz,by rw[z0.2.2.2.1];simp only[coO];omega,id⟩
     ·cases hp:qa4 s st2 with
      | error p=>rw[hp] at h3;cases h3
      | ok r =>
       obtain ⟨e,st3'⟩:=r;rw[hp] at h3;obtain ⟨e1,e2,e3⟩:=qp5 s _ _ _ g2.tk hp;cases h3;exact ⟨z0.1,z0.2.1,z0.2.2.1,z0.2.2.2.2.1,z0.2.2.2.2.2,qny e1,by simp only[coO];omega,e3⟩
    cases h4:need s ⟨#[41]⟩ st3 with
    | error p=>rw[h4] at h;cases h
    | ok st4 =>
     rw[h4] at h;simp only at h;have g4:=qav g3.tk h4;have d4:=qht h4;cases h5:qa9 s x3 st4 with
     | error p=>rw[h5] at h;cases h
     | ok r5 =>
      obtain ⟨x5,st5⟩:=r5;rw[h5] at h;simp only at h;have g5:=qfo g4.tk h5;have z5:x5.op=99∧x5.n=1∧x5.undo.size=0∧x5.one=[]∧x5.two=[]∧x5.ex=x3.ex∧st5.deep=st4.deep:=by
       unfold qa9 at h5;split at h5
       ·cases hp:kind s 119 (nx s st4) with
        | error p=>rw[hp] at h5;cases h5
        | ok st' =>
         rw[hp] at h5
         have:=qjm hp
         cases h5;exact ⟨z3.1,z3.2.1,z3.2.2.1,z3.2.2.2.1,z3.2.2.2.2.1,rfl,this⟩
       ·cases h5;exact ⟨z3.1,z3.2.1,z3.2.2.1,z3.2.2.2.1,z3.2.2.2.2.1,rfl,rfl⟩
      cases h6:qat s x5 st5 with
      | error p=>rw[h6] at h;cases h
      | ok r6 =>
       obtain ⟨x6,st6⟩:=r6;rw[h6] at h;simp only at h;have g6:=qe6 g5.tk h6;have z6:x6.op=99∧x6.n=1∧x6.one=[]∧x6.two=[]∧x6.ex=x5.ex∧st6.deep=st5.deep∧(if x6.undo.size=0 then 0 else 4)+2 * st5.t.a≤2 * st6.t.a:=by
        unfold qat at h6;split at h6
        ·rename_i ho;have g0:=qaf g5.tk ho;have l0:=g0.lt;cases hp:kind s 119 (nx s st5) with
         | error p=>rw[hp] at h6;cases h6
         | ok st' =>
          rw[hp] at h6
          have:=qjm hp
          have l1:=(qa6 g0.tk (by decide) (by decide) hp).lt
          cases h6;exact ⟨z5.1,z5.2.1,z5.2.2.2.1,z5.2.2.2.2.1,rfl,this,by split<;>omega⟩
        ·cases h6;exact ⟨z5.1,z5.2.1,z5.2.2.2.1,z5.2.2.2.2.1,rfl,rfl,by rw[if_pos z5.2.2.1];omega⟩
       cases h7:qas s x6 st6 with
       | error p=>rw[h7] at h;cases h
       | ok r7 =>
        obtain ⟨x7,st7⟩:=r7;rw[h7] at h;simp only at h;have g7:=qeh g6.tk h7;have z7:x7.op=99∧x7.one=[]∧x7.two=[]∧x7.ex=x6.ex∧x7.undo=x6.undo∧st7.deep=st6.deep∧(x7.n≤5→x7.n+2 * st6.t.a≤2 * st7.t.a+1):=by
         unfold qas at h7;split at h7
         ·rename_i ho;have g0:=qaf g6.tk ho;have l0:=g0.lt;cases hp:kind s 110 (nx s st6) with
          | error p=>rw[hp] at h7;cases h7
          | ok st' =>
           rw[hp] at h7
           have:=qjm hp
           have l8:=(qa6 g0.tk (by decide) (by decide) hp).lt
           cases h7;exact ⟨z6.1,z6.2.2.1,z6.2.2.2.1,rfl,rfl,this,fun _=>by simp only at *;omega⟩
         ·cases h7;exact ⟨z6.1,z6.2.2.1,z6.2.2.2.1,rfl,rfl,rfl,fun _=>by rw[z6.2.1];omega⟩
        cases h8:need s ⟨#[59]⟩ st7 with
        | error p=>rw[h8] at h;cases h
        | ok st8 =>
         have g8:=qav g7.tk h8;have d8:=qht h8;rw[h8] at h;cases h;have l1:=g1.lt;have l2:=g2.lt;have l4:=g4.lt;have l8:=g8.lt;have l3:=g3.le;have l5:=g5.le;have l6:=g6.le;have l7:=g7.le;have he:x.ex=x3.ex:=by rw[z7.2.2.2.1,z6.2.2.2.2.1,z5.2.2.2.2.2.1]
         refine ⟨⟨by rw[he];exact z3.2.2.2.2.2.1,by rw[z7.2.1];exact qim,by rw[z7.2.2.1];exact qim⟩,fun hd=>?_,fun d _ hd _ hok=>?_⟩
         ·have:=z3.2.2.2.2.2.2.2 (by rw[d2,d1];exact hd)
          rw[d8,z7.2.2.2.2.2.1,z6.2.2.2.2.2.1,z5.2.2.2.2.2.2,d4];exact this
         ·have hn:x.n≤5:=by
           have:=(qgd.1 hok).1
           have h9:=z7.1;rcases this with h | h | h | h | h | h
           ·omega
           ·exact h.2.2.2.2
           ·omega
           ·omega
           ·omega
           ·omega
          have hco:coX x=coO x.ex+x.n+(if x.undo.size=0 then 0 else 4)+1:=by unfold coX;rw[if_neg (by have:=z7.1;omega),if_pos z7.1]
          rw[hco,he,z7.2.2.2.2.1];have q3:=z3.2.2.2.2.2.2.1;have q6:=z6.2.2.2.2.2.2;have q7:=z7.2.2.2.2.2.2 hn;generalize (if x6.undo.size=0 then 0 else 4)=u at *
          rcases zh0 hd with k | k | k | k | k<;>rw[k]<;>omega
theorem qs7 {V:Vs} {x:Sm} (h:okS V [x]) (ho:x.op=105∨x.op=116∨x.op=114):okS V x.one:=(qgd.1 h).2.1 ho
theorem zgw {V:Vs} {x:Sm} (h:okS V [x]) (ho:x.op=105∨x.op=116):okS V x.two:=(qgd.1 h).2.2.1 ho
theorem zxk {s:ByteArray} {V:Vs} {g:Ps→Except Nat (Sm×Ps)} (hg:Goes s g) (hs:CoS s V g):CoS s V (ifS s g):=by
 intro st x st' ht h;unfold ifS at h;cases h1:qa4 s st with
 | error p=>rw[h1] at h;cases h
 | ok r =>
  obtain ⟨e,st1⟩:=r;rw[h1] at h;simp only at h;have g1:=qbb s _ _ _ ht h1;obtain ⟨e1,e2,e3⟩:=qp5 s _ _ _ ht h1;cases h2:block s g st1 with
  | error p=>rw[h2] at h;cases h
  | ok r =>
   obtain ⟨l,st2⟩:=r;rw[h2] at h;simp only at h;have g2:=qa0 hg _ _ _ g1.tk h2;obtain ⟨m1,m2,m3⟩:=ql9 hg hs g1.tk h2;split at h
   ·rename_i ho;have g3:=qaf g2.tk ho;have l3:=g3.lt;cases h4:block s g (nx s st2) with
    | error p=>rw[h4] at h;cases h
    | ok r =>
     obtain ⟨m,st3⟩:=r;obtain ⟨n1,n2,n3⟩:=ql9 hg hs g3.tk h4;rw[h4] at h;cases h;refine ⟨⟨qny e1,m1,n1⟩,fun hd=>n2 (m2 (e3 hd)),fun d hn hd hdp hok=>?_⟩
     have d2:st2.deep < 0:=zi7 (st:=st2) n2 hdp;have a1:=m3 d (by rw[g1.nest];exact hn) hd d2 (qs7 hok (Or.inl rfl))
     have a2:=n3 d (by show st2.nest=_;rw[g2.nest,g1.nest];exact hn) hd hdp (zgw hok (Or.inl rfl))
     have hc:coX { qa8 with op:=105,ex:=some e,one:=l,two:=m }=coE e+2+coS l+coS m:=rfl
     rw[hc];rcases qrl hd with ⟨_,k,k'⟩ | ⟨_,k,k'⟩ | ⟨_,k,k'⟩ | ⟨_,k,k'⟩ | ⟨_,k⟩
     ·rw[k'] at a1 a2;rw[k];omega
     ·rw[k'] at a1 a2;rw[k];omega
     ·rw[k'] at a1 a2;rw[k];omega
     ·rw[k'] at a1 a2;rw[k];omega
     ·omega
   ·cases h;refine ⟨⟨qny e1,m1,qim⟩,fun hd=>m2 (e3 hd),fun d hn hd hdp hok=>?_⟩
    have a1:=m3 d (by rw[g1.nest];exact hn) hd hdp (qs7 hok (Or.inl rfl))
    have hc:coX { qa8 with op:=105,ex:=some e,one:=l }=coE e+2+coS l+coS []:=rfl
    rw[hc,qyi];rcases qrl hd with ⟨_,k,k'⟩ | ⟨_,k,k'⟩ | ⟨_,k,k'⟩ | ⟨_,k,k'⟩ | ⟨_,k⟩
    ·rw[k'] at a1;rw[k];omega
    ·rw[k'] at a1;rw[k];omega
    ·rw[k'] at a1;rw[k];omega
    ·rw[k'] at a1;rw[k];omega
    ·omega
theorem zri {s:ByteArray} {V:Vs} {g:Ps→Except Nat (Sm×Ps)} (hg:Goes s g) (hs:CoS s V g):CoS s V (tryS s g):=by
 intro st x st' ht h;unfold tryS at h;cases h1:block s g st with
 | error p=>rw[h1] at h;cases h
 | ok r =>
  obtain ⟨l,st1⟩:=r;rw[h1] at h;simp only at h;have g1:=qa0 hg _ _ _ ht h1;obtain ⟨m1,m2,m3⟩:=ql9 hg hs ht h1;cases h2:need s ⟨#[101,108,115,101]⟩ st1 with
  | error p=>rw[h2] at h;cases h
  | ok st2 =>
   rw[h2] at h;simp only at h;have g2:=qav g1.tk h2;have d2:=qht h2;have l2:=g2.lt;cases h3:block s g st2 with
   | error p=>rw[h3] at h;cases h
   | ok r =>
    obtain ⟨m,st3⟩:=r;obtain ⟨n1,n2,n3⟩:=ql9 hg hs g2.tk h3;rw[h3] at h;cases h;refine ⟨⟨qnz,m1,n1⟩,fun hd=>n2 (by rw[d2];exact m2 hd),fun d hn hd hdp hok=>?_⟩
    have dd:st2.deep < 0:=zi7 n2 hdp;have a1:=m3 d hn hd (by rw[← d2];exact dd) (qs7 hok (Or.inr (Or.inl rfl)))
    have a2:=n3 d (by rw[g2.nest,g1.nest];exact hn) hd hdp (zgw hok (Or.inr rfl))
    have hc:coX { qa8 with op:=116,one:=l,two:=m }=3+coS l+coS m:=rfl
    rw[hc];rcases qrl hd with ⟨_,k,k'⟩ | ⟨_,k,k'⟩ | ⟨_,k,k'⟩ | ⟨_,k,k'⟩ | ⟨_,k⟩
    ·rw[k'] at a1 a2;rw[k];omega
    ·rw[k'] at a1 a2;rw[k];omega
    ·rw[k'] at a1 a2;rw[k];omega
    ·rw[k'] at a1 a2;rw[k];omega
    ·omega
theorem zcq {s:ByteArray} {V:Vs} {g:Ps→Except Nat (Sm×Ps)} (hg:Goes s g) (hs:CoS s V g):CoS s V (qbu s g):=by
 intro st x st' ht h;unfold qbu at h;cases h1:kind s 110 st with
 | error p=>rw[h1] at h;cases h
 | ok st1 =>
  rw[h1] at h;simp only at h;have g1:=qa6 ht (by decide) (by decide) h1
  have l1:=g1.lt;have d1:=qjm h1;cases h2:block s g st1 with
  | error p=>rw[h2] at h;cases h
  | ok r =>
   obtain ⟨m,st3⟩:=r;obtain ⟨m1,m2,m3⟩:=ql9 hg hs g1.tk h2;rw[h2] at h;cases h;refine ⟨⟨qnz,m1,qim⟩,fun hd=>m2 (by rw[d1];exact hd),fun d hn hd hdp hok=>?_⟩
   have a1:=m3 d (by rw[g1.nest];exact hn) hd hdp (qs7 hok (Or.inr (Or.inr rfl)))
   have hn9:valOf (txt s st.t).toList≤9:=by
    have h0:=(qgd.1 hok).1;dsimp only at h0;rcases h0 with h | h | h | h | h | h
    ·omega
    ·omega
    ·omega
    ·omega
    ·exact h.2
    ·omega
   have hc:coX { qa8 with op:=114,n:=valOf (txt s st.t).toList,nPl:=st.t.a,one:=m }=2+valOf (txt s st.t).toList * (coS m+2):=rfl
   have hm:valOf (txt s st.t).toList * (coS m+2)≤9 * (coS m+2):=Nat.mul_le_mul_right _ hn9;rw[hc];rcases qrl hd with ⟨_,k,k'⟩ | ⟨_,k,k'⟩ | ⟨_,k,k'⟩ | ⟨_,k,k'⟩ | ⟨_,k⟩
   ·rw[k'] at a1;rw[k];omega
   ·rw[k'] at a1;rw[k];omega
   ·rw[k'] at a1;rw[k];omega
   ·rw[k'] at a1;rw[k];omega
   ·omega
theorem CoS.behind {s:ByteArray} {V:Vs} {st:Ps} {x:Sm} {st':Ps} {g:Ps→Except Nat (Sm×Ps)} (hs:CoS s V g) {w:ByteArray} (ht:Tk s st.t) (ho:onB s st.t w=true) (h:g (nx s st)=.ok (x,st')):TrX x∧(0≤st.deep→0≤st'.deep)∧∀ d:Nat,st.nest=d→d≤4→st'.deep < 0→okS V [x]→coX x+kD d * st.t.a≤kD d * st'.t.a:=by
 have g1:=qaf ht ho;have l1:=g1.lt;obtain ⟨m1,m2,m3⟩:=hs _ _ _ g1.tk h;refine ⟨m1,m2,fun d hn hd hdp hok=>?_⟩
 have:=m3 d hn hd hdp hok
 have h2:kD d * st.t.a≤kD d * (nx s st).t.a:=Nat.mul_le_mul_left _ (Nat.le_of_lt l1);omega
theorem ze3 (s:ByteArray) (V:Vs) (n:Nat):CoS s V (stmt s n):=by
 induction n with
 | zero=>intro st x st' _ h;simp[stmt] at h
 | succ n ih =>
  intro st x st' ht h;have hgo:=qam s (n+1) _ _ _ ht h;have hlt:=hgo.lt;rw[stmt] at h;split at h
  ·rename_i ho;exact (ztn s V).behind ht ho h
  ·split at h
   ·rename_i ho;exact (zu0 s V).behind ht ho h
   ·split at h
    ·rename_i ho;exact (zxk (qam s n) ih).behind ht ho h
    ·split at h
     ·rename_i ho;exact (zri (qam s n) ih).behind ht ho h
     ·split at h
      ·rename_i ho;exact (zcq (qam s n) ih).behind ht ho h
      ·have ho:x={ qa8 with op:=102 }∧st'.deep=st.deep:=by
        unfold qig at h;cases h1:need s ⟨#[102,97,105,108]⟩ st with
        | error p=>rw[h1] at h;cases h
        | ok st1 =>
         rw[h1] at h;simp only at h;have d1:=qht h1;cases h2:need s ⟨#[59]⟩ st1 with
         | error p=>rw[h2] at h;cases h
         | ok st2 =>
          have d2:=qht h2;rw[h2] at h;cases h;exact ⟨rfl,by rw[d2,d1]⟩
       obtain ⟨rfl,hdd⟩:=ho;refine ⟨⟨qnz,qim,qim⟩,fun hd=>by rw[hdd];exact hd,fun d hn hd hdp hok=>?_⟩
       have hc:coX { qa8 with op:=102 }=1:=rfl
       rw[hc];rcases zh0 hd with k | k | k | k | k<;>rw[k]<;>omega
theorem qxq {s:ByteArray} {l:List Sm} (h:read s=.ok l):TrS l∧∀ V,okS V l→coS l≤3936600:=by
 unfold read at h;split at h
 ·cases h
 ·rename_i hz;cases hp:stmts s (stmt s (s.size+1)) (fun st=>st.t.k == 0) (s.size+1) [] ⟨tok s 0,0,-1⟩ with
  | error p=>rw[hp] at h;cases h
  | ok r =>
   obtain ⟨l',st⟩:=r;rw[hp] at h;simp only at h;split at h
   ·cases h
   ·rename_i hdp;cases h;have ht:=(qfv s 0 (Nat.zero_le _)).1;obtain ⟨g2,_⟩:=qcs (qam s _) _ _ _ _ _ _ ht hp;have h1:=g2.tk.ab;have h2:=g2.tk.le;refine ⟨?_,fun V hok=>?_⟩
    ·obtain ⟨y,i1,i2,_⟩:=qsj (V:=[]) (qam s _) (ze3 s [] _) _ _ _ _ _ _ ht hp;rw[i1];exact i2
    ·obtain ⟨y,i1,i2,i3,i4⟩:=qsj (V:=V) (qam s _) (ze3 s V _) _ _ _ _ _ _ ht hp;simp only[List.nil_append] at i1;subst i1
     have:=i4 0 rfl (by omega) (by omega) hok
     have k0:kD 0=13122:=rfl;rw[k0] at this;omega
end Px
end Go.Proofs.YthanmfbakpcigaaGreatDoor
