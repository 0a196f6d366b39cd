import Derived.Test.YtnhkpbmplefnaaaGreatDoorB03
import Derived.Test.YtnhkpbmplefnaaaGreatDoorB01
import Derived.Test.YtnhkpbmplefnaaaGreatDoorB02
set_option maxRecDepth 100000
namespace Go.Proofs.YtnhkpbmplefnaaaGreatDoor
namespace Px
theorem qls (x:Ex):∀ (N:Nat) (c:Lk),PrE x N→((qao x c).2.e=0∨(qao (erE x) c).2.e=0)→qao (erE x) c=qao x c:=by
 match x with
 | ⟨op,n,word,pl,own,none,o⟩ =>
  intro N c hp h;rw[PrE] at hp;rw[erE,qao,qao] at *;rcases hp with ⟨rfl,_⟩ | ⟨rfl,_⟩ | ⟨rfl,_⟩
  ·rfl
  ·rfl
  ·rw[if_pos rfl] at *;unfold qpq at *;rw[if_neg (by decide),if_neg (by decide),if_neg (by decide),if_neg (by decide)] at *
   cases hf:qa3 c.vars word with
   | some i=>rfl
   | none =>
    rw[hf] at h;rcases h with h | h
    ·exact absurd h (qca (by decide) _)
    ·exact absurd h (qca (by decide) _)
 | ⟨op,n,word,pl,own,some l,none⟩ =>
  intro N c hp h;rw[PrE] at hp;rw[erE,qao,qao] at *;obtain ⟨M,hM⟩:∃ M,PrE l M:=by
   have:=hp.2
   split at this
   ·exact ⟨_,this.2⟩
   ·exact ⟨_,this⟩
  have nk:∀ (own:Nat) (r:Nat×Lk),(notK own r).2.e=0→isK r.1 98=true∧r.2.e=0:=fun own r h=>by
   unfold notK at h;cases hk:isK r.1 98
   ·rw[hk] at h;exact absurd h (qca (by decide) _)
   ·rw[hk] at h;exact ⟨rfl,h⟩
  have hl:qao (erE l) c=qao l c:=qls l M c hM (by rcases h with h | h;exact Or.inl (nk _ _ h).2;exact Or.inr (nk _ _ h).2)
  rw[hl] at h ⊢;have hk:isK (qao l c).1 98=true:=by rcases h with h | h;exact (nk _ _ h).1;exact (nk _ _ h).1
  unfold notK;rw[hk]
  all_goals rfl
 | ⟨op,n,word,pl,own,some l,some r⟩ =>
  intro N c hp h;rw[PrE] at hp;rw[erE,qao,qao] at *;have pr:∀ {k:Nat} {y:Ex},(if lvl y.op < k then N < 4∧PrE y (N+1) else PrE y N)→∃ M,PrE y M:=fun h=>by
   split at h
   ·exact ⟨_,h.2⟩
   ·exact ⟨_,h⟩
  obtain ⟨M,hM⟩:=pr hp.2.1;obtain ⟨M',hM'⟩:=pr hp.2.2;have bk:∀ (own a:Nat) (q:Nat×Lk),(binK op own a q).2.e=0→q.2.e=0∧∀ own',binK op own' a q=binK op own a q:=fun own a q h=>by
   unfold binK at h ⊢;by_cases ho:op=61∨op=35
   ·simp only[if_pos ho] at h ⊢;cases hu:qft a q.1
    ·rw[hu] at h;exact ⟨h,fun _=>rfl⟩
    ·rw[hu] at h;exact absurd h (qca (by decide) _)
   ·simp only[if_neg ho] at h ⊢;cases hu:(isK a 105 && isK q.1 105)
    ·rw[hu] at h;exact absurd h (qca (by decide) _)
    ·rw[hu] at h;exact ⟨h,fun _=>rfl⟩
  have nb:∀ (y:Ex) (d:Lk),(qao y d).2.e=0→d.e=0:=fun y d h=>Classical.byContradiction fun hd=>qfz y d hd h
  have hl:qao (erE l) c=qao l c:=qls l M c hM (by
   rcases h with h | h
   ·exact Or.inl (nb _ _ (bk _ _ _ h).1)
   ·exact Or.inr (nb _ _ (bk _ _ _ h).1))
  rw[hl] at h ⊢;have hr:qao (erE r) (qao l c).2=qao r (qao l c).2:=qls r M' _ hM' (by
   rcases h with h | h
   ·exact Or.inl (bk _ _ _ h).1
   ·exact Or.inr (bk _ _ _ h).1)
  rw[hr] at h ⊢;rcases h with h | h
  ·exact (bk _ _ _ h).2 _
  ·exact ((bk _ _ _ h).2 _).symm
theorem qte {x:Option Ex} {N k:Nat} {c:Lk} (hp:PrO x N) (h:(qbq x k c).e=0∨(qbq (erO x) k c).e=0):qbq (erO x) k c=qbq x k c:=by
 cases x with
 | none=>rfl
 | some e =>
  have he:=hp e rfl;unfold erO qbq at *;simp only at *;have q:∀ (r:Nat×Lk) (p:Nat),(if isK r.1 k then r.2 else say 6 p r.2).e=0→isK r.1 k=true∧r.2.e=0:=fun r p h=>by
   cases hk:isK r.1 k
   ·rw[hk] at h;exact absurd h (qca (by decide) _)
   ·rw[hk] at h;exact ⟨rfl,h⟩
  have hl:qao (erE e) c=qao e c:=qls e N c he (by rcases h with h | h;exact Or.inl (q _ _ h).2;exact Or.inr (q _ _ h).2)
  rw[hl] at h ⊢;have hk:isK (qao e c).1 k=true:=by rcases h with h | h;exact (q _ _ h).1;exact (q _ _ h).1
  rw[hk]
  all_goals rfl
theorem za4 {w:ByteArray} {p p' k:Nat} {c:Lk} (h:(qc7 w p k c).e=0∨(qc7 w p' k c).e=0):qc7 w p' k c=qc7 w p k c:=by
 unfold qc7 at *;cases hf:qa3 c.vars w with
 | none=>rfl
 | some i =>
  rw[hf] at h;simp only at h ⊢;cases hu:qft (qcn c.vars i) k
  ·rfl
  ·rw[hu] at h;rcases h with h | h
   ·exact absurd h (qca (by decide) _)
   ·exact absurd h (qca (by decide) _)
theorem qod {w:ByteArray} {p k:Nat} {c:Lk} (h:(qc7 w p k c).e=0):c.e=0:=Classical.byContradiction fun hd=>qf2 hd w p k h
theorem zne {x:Sm} {N:Nat} (hp:PrX x N) (h1:∀ c,((qap x.one c).e=0∨(qap (erS x.one) c).e=0)→qap (erS x.one) c=qap x.one c) (h2:∀ c,((qap x.two c).e=0∨(qap (erS x.two) c).e=0)→qap (erS x.two) c=qap x.two c) (c:Lk) (h:(qcc x c).e=0∨(qcc (erX x) c).e=0):qcc (erX x) c=qcc x c:=by
 have nb:∀ (l:List Sm) (d:Lk),(qap l d).e=0→d.e=0:=fun l d h=>Classical.byContradiction fun hd=>qb7 l d hd h
 obtain ⟨⟨pO,hc⟩,_,_⟩:=hp;rcases hc with ⟨ho,hw,hne⟩ | ⟨ho,hw,ha,hu,h9⟩ | ⟨ho,hne,h4⟩ | ⟨ho,h4⟩ | ⟨ho,h4,h9⟩ | ho
 ·cases he:x.ex with
  | none=>exact absurd he hne
  | some e =>
   have e1:qcc x c=qc7 x.word x.pl (qao e c).1 (qao e c).2:=by unfold qcc;rw[if_pos ho,he]
   have e2:qcc (erX x) c=qc7 x.word 0 (qao (erE e) c).1 (qao (erE e) c).2:=by
    have:erX x=⟨108,x.word,0,some (erE e),nowt,0,nowt,0,0,[],[]⟩:=by unfold erX;rw[if_pos ho,he]<;>rfl
    rw[this]<;>rfl
   rw[e1,e2] at h ⊢;have hk:qao (erE e) c=qao e c:=qls e N c (pO e he) (by rcases h with h | h;exact Or.inl (qod h);exact Or.inr (qod h))
   rw[hk] at h ⊢;exact za4 h
 ·have e1:qcc x c=(let c2:=if x.asw.toList.isEmpty then qbq x.ex 105 c else qc7 x.asw x.asPl 105 (qbq x.ex 105 c);if x.n < 1∨5 < x.n then say 4 x.nPl c2 else c2):=by unfold qcc;rw[if_neg (by rw[ho];decide),if_pos ho]
  have e2:qcc (erX x) c=(let c2:=if x.asw.toList.isEmpty then qbq (erO x.ex) 105 c else qc7 x.asw 0 105 (qbq (erO x.ex) 105 c);if x.n < 1∨5 < x.n then say 4 0 c2 else c2):=by
   have:erX x=⟨99,x.word,0,erO x.ex,x.asw,0,x.undo,x.n,0,[],[]⟩:=by unfold erX;rw[if_neg (by rw[ho];decide),if_pos ho]
   rw[this]<;>rfl
  rw[e1,e2] at h ⊢;simp only at h ⊢;by_cases hn:x.n < 1∨5 < x.n
  ·rw[if_pos hn,if_pos hn] at h;rcases h with h | h
   ·exact absurd h (qca (by decide) _)
   ·exact absurd h (qca (by decide) _)
  ·rw[if_neg hn,if_neg hn] at h ⊢;cases hz:x.asw.toList.isEmpty
   ·rw[hz] at h;simp only[Bool.false_eq_true,if_false] at h ⊢;have hm:qbq (erO x.ex) 105 c=qbq x.ex 105 c:=qte pO (by rcases h with h | h;exact Or.inl (qod h);exact Or.inr (qod h))
    rw[hm] at h ⊢;exact za4 h
   ·rw[hz] at h;simp only[if_true] at h ⊢;exact qte pO h
 ·have e1:qcc x c=qap x.two (qap x.one (qbq x.ex 98 c)):=by unfold qcc;rw[if_neg (by rw[ho];decide),if_neg (by rw[ho];decide),if_pos ho]
  have e2:qcc (erX x) c=qap (erS x.two) (qap (erS x.one) (qbq (erO x.ex) 98 c)):=by
   have:erX x=⟨105,nowt,0,erO x.ex,nowt,0,nowt,0,0,erS x.one,erS x.two⟩:=by unfold erX;rw[if_neg (by rw[ho];decide),if_neg (by rw[ho];decide),if_pos ho]
   rw[this]<;>rfl
  rw[e1,e2] at h ⊢;have hm:qbq (erO x.ex) 98 c=qbq x.ex 98 c:=qte pO (by rcases h with h | h;exact Or.inl (nb _ _ (nb _ _ h));exact Or.inr (nb _ _ (nb _ _ h)))
  rw[hm] at h ⊢;have hq:=h1 (qbq x.ex 98 c) (by rcases h with h | h;exact Or.inl (nb _ _ h);exact Or.inr (nb _ _ h))
  rw[hq] at h ⊢;exact h2 _ h
 ·have e1:qcc x c=qap x.two (qap x.one c):=by unfold qcc;rw[if_neg (by rw[ho];decide),if_neg (by rw[ho];decide),if_neg (by rw[ho];decide),if_pos ho]
  have e2:qcc (erX x) c=qap (erS x.two) (qap (erS x.one) c):=by
   have:erX x=⟨116,nowt,0,none,nowt,0,nowt,0,0,erS x.one,erS x.two⟩:=by unfold erX;rw[if_neg (by rw[ho];decide),if_neg (by rw[ho];decide),if_neg (by rw[ho];decide),if_pos ho]
   rw[this]<;>rfl
  rw[e1,e2] at h ⊢;have hq:=h1 c (by rcases h with h | h;exact Or.inl (nb _ _ h);exact Or.inr (nb _ _ h))
  rw[hq] at h ⊢;exact h2 _ h
 ·have e1:qcc x c=qap x.one (if 9 < x.n then say 4 x.nPl c else c):=by unfold qcc;rw[if_neg (by rw[ho];decide),if_neg (by rw[ho];decide),if_neg (by rw[ho];decide),if_neg (by rw[ho];decide),if_pos ho]
  have e2:qcc (erX x) c=qap (erS x.one) (if 9 < x.n then say 4 0 c else c):=by
   have:erX x=⟨114,nowt,0,none,nowt,0,nowt,x.n,0,erS x.one,[]⟩:=by unfold erX;rw[if_neg (by rw[ho];decide),if_neg (by rw[ho];decide),if_neg (by rw[ho];decide),if_neg (by rw[ho];decide),if_pos ho]
   rw[this]<;>rfl
  rw[e1,e2] at h ⊢;by_cases hn:9 < x.n
  ·rw[if_pos hn,if_pos hn] at h;rcases h with h | h
   ·exact absurd (nb _ _ h) (qca (by decide) _)
   ·exact absurd (nb _ _ h) (qca (by decide) _)
  ·rw[if_neg hn,if_neg hn] at h ⊢;exact h1 _ h
 ·have:erX x=⟨102,nowt,0,none,nowt,0,nowt,0,0,[],[]⟩:=by unfold erX;rw[ho]<;>rfl
  rw[this];unfold qcc;rw[ho]
  all_goals rfl
theorem qgf (l:List Sm):∀ (N:Nat) (c:Lk),PrS l N→((qap l c).e=0∨(qap (erS l) c).e=0)→qap (erS l) c=qap l c:=by
 match l with
 | []=>intro N c _ _;rw[qm2]
 | ⟨op,word,pl,ex,asw,asPl,undo,m,nPl,one,two⟩::rest =>
  intro N c hp h;have nb:∀ (l:List Sm) (d:Lk),(qap l d).e=0→d.e=0:=fun l d h=>Classical.byContradiction fun hd=>qb7 l d hd h
  obtain ⟨p1,p2⟩:=qen.1 hp;rw[qgi,qdi,qdi] at *;have hx:=zne p1 (fun c=>qgf one (N+1) c p1.2.1) (fun c=>qgf two (N+1) c p1.2.2) c (by rcases h with h | h;exact Or.inl (nb _ _ h);exact Or.inr (nb _ _ h))
  rw[hx] at h ⊢;exact qgf rest N _ p2 h
theorem qp6 (V:Vs) (H:List Int) (x:Ex):∀ N,PrE x N→evE V H (erE x)=evE V H x:=by
 match x with
 | ⟨op,n,word,pl,own,none,o⟩ =>
  intro N hp;rw[PrE] at hp;rw[erE,evE,evE];rcases hp with ⟨rfl,_⟩ | ⟨rfl,_⟩ | ⟨rfl,_⟩<;>rfl
 | ⟨op,n,word,pl,own,some l,none⟩ =>
  intro N hp;rw[PrE] at hp;rw[erE,evE,evE]
  have:=hp.2
  split at this
  ·rw[qp6 V H l _ this.2]
  ·rw[qp6 V H l _ this]
 | ⟨op,n,word,pl,own,some l,some r⟩ =>
  intro N hp;rw[PrE] at hp;rw[erE,evE,evE];have hl:evE V H (erE l)=evE V H l:=by
   have:=hp.2.1
   split at this
   ·exact qp6 V H l _ this.2
   ·exact qp6 V H l _ this
  have hr:evE V H (erE r)=evE V H r:=by
   have:=hp.2.2
   split at this
   ·exact qp6 V H r _ this.2
   ·exact qp6 V H r _ this
  rw[hl,hr]
theorem ziy (V:Vs) (H:List Int) {x:Option Ex} {N:Nat} (hp:PrO x N):evO V H (erO x)=evO V H x:=by
 cases x with
 | none=>rfl
 | some e=>exact qp6 V H e N (hp e rfl)
theorem zsa (V:Vs) {x:Sm} {N:Nat} (hp:PrX x N) (h1:∀ s,runS V (erS x.one) s=runS V x.one s) (h2:∀ s,runS V (erS x.two) s=runS V x.two s) (s:Rs):runX V (erX x) s=runX V x s:=by
 obtain ⟨⟨pO,hc⟩,_,_⟩:=hp;rcases hc with ⟨ho,hw,hne⟩ | ⟨ho,hw,ha,hu,h9⟩ | ⟨ho,hne,h4⟩ | ⟨ho,h4⟩ | ⟨ho,h4,h9⟩ | ho
 ·have:erX x=⟨108,x.word,0,erO x.ex,nowt,0,nowt,0,0,[],[]⟩:=by unfold erX;rw[if_pos ho]
  rw[this];unfold runX;rw[if_pos rfl,if_pos ho];simp only;rw[ziy V s.held pO]
 ·have:erX x=⟨99,x.word,0,erO x.ex,x.asw,0,x.undo,x.n,0,[],[]⟩:=by unfold erX;rw[if_neg (by rw[ho];decide),if_pos ho]
  rw[this];unfold runX;rw[if_neg (by show ¬ (99:Nat)=108;decide),if_pos rfl,if_neg (by rw[ho];decide),if_pos ho]
  unfold qei;simp only;rw[ziy V s.held pO]
 ·have:erX x=⟨105,nowt,0,erO x.ex,nowt,0,nowt,0,0,erS x.one,erS x.two⟩:=by unfold erX;rw[if_neg (by rw[ho];decide),if_neg (by rw[ho];decide),if_pos ho]
  rw[this];unfold runX;rw[if_neg (by show ¬ (105:Nat)=108;decide),if_neg (by show ¬ (105:Nat)=99;decide),if_pos rfl,if_neg (by rw[ho];decide),if_neg (by rw[ho];decide),if_pos ho]
  simp only;rw[ziy V s.held pO,show runS V (erS x.one)=runS V x.one from funext h1,show runS V (erS x.two)=runS V x.two from funext h2]
 ·have:erX x=⟨116,nowt,0,none,nowt,0,nowt,0,0,erS x.one,erS x.two⟩:=by unfold erX;rw[if_neg (by rw[ho];decide),if_neg (by rw[ho];decide),if_neg (by rw[ho];decide),if_pos ho]
  have e1:∀ (o t:List Sm),runX V ⟨116,nowt,0,none,nowt,0,nowt,0,0,o,t⟩ s=(let s1:=runS V o { s with piles:=s.piles++[[]] }
   if s1.over≠0∨s1.stop=true then s1
   else if s1.failed then (let s2:=qb5 { s1 with failed:=false };if s2.going then runS V t s2 else s2)
   else { s1 with piles:=layP s1.piles.dropLast (s1.piles.getLastD []) }):=fun o t=>rfl
  have e2:runX V x s=runX V ⟨116,nowt,0,none,nowt,0,nowt,0,0,x.one,x.two⟩ s:=by
   unfold runX;rw[ho]
   all_goals rfl
  rw[this,e2,e1,e1,show runS V (erS x.one)=runS V x.one from funext h1,show runS V (erS x.two)=runS V x.two from funext h2]
 ·have:erX x=⟨114,nowt,0,none,nowt,0,nowt,x.n,0,erS x.one,[]⟩:=by unfold erX;rw[if_neg (by rw[ho];decide),if_neg (by rw[ho];decide),if_neg (by rw[ho];decide),if_neg (by rw[ho];decide),if_pos ho]
  rw[this];unfold runX;rw[if_neg (by show ¬ (114:Nat)=108;decide),if_neg (by show ¬ (114:Nat)=99;decide),if_neg (by show ¬ (114:Nat)=105;decide),if_neg (by show ¬ (114:Nat)=116;decide),if_pos rfl,if_neg (by rw[ho];decide),if_neg (by rw[ho];decide),if_neg (by rw[ho];decide),if_neg (by rw[ho];decide),if_pos ho]
  simp only;rw[show runS V (erS x.one)=runS V x.one from funext h1]
 ·have:erX x=⟨102,nowt,0,none,nowt,0,nowt,0,0,[],[]⟩:=by unfold erX;rw[ho]<;>rfl
  rw[this];unfold runX;rw[ho]
  all_goals rfl
theorem qmi (V:Vs) (l:List Sm):∀ (N:Nat) (s:Rs),PrS l N→runS V (erS l) s=runS V l s:=by
 match l with
 | []=>intro N s _;rw[qm2]
 | ⟨op,word,pl,ex,asw,asPl,undo,m,nPl,one,two⟩::rest =>
  intro N s hp;obtain ⟨p1,p2⟩:=qen.1 hp;rw[qgi,qci,qci,qmi V rest N _ p2,zsa V p1 (fun s=>qmi V one (N+1) s p1.2.1) (fun s=>qmi V two (N+1) s p1.2.2)]
theorem qyq {b:Bool} {l:List (List UInt8)} (h:∀ t∈l,OkT t):∀ t∈brkT b l,OkT t:=by
 unfold brkT;cases b
 ·exact h
 ·intro t ht;simp at ht;rcases ht with rfl | ht | rfl
  ·exact Or.inr (Or.inr ⟨40,rfl,by decide⟩)
  ·exact h t ht
  ·exact Or.inr (Or.inr ⟨41,rfl,by decide⟩)
theorem qha {t:List UInt8} (h:qcf t=true) (hn:t≠[]) (ha:∀ c∈t,qal c=true):OkT t:=Or.inl ⟨hn,ha,Or.inl h⟩
theorem qzg (x:Ex):∀ N,PrE x N→∀ t∈tkE x,OkT t:=by
 match x with
 | ⟨op,n,word,pl,own,none,o⟩ =>
  intro N hp t ht;rw[PrE] at hp;rw[tkE] at ht;simp at ht;subst ht;unfold qpp;rcases hp with ⟨rfl,h⟩ | ⟨rfl,_⟩ | ⟨rfl,h⟩
  ·rw[if_pos rfl];exact zur h
  ·rw[if_neg (by decide),if_pos rfl]
   split
   ·exact qha (by decide) (by decide) (by decide)
   ·exact qha (by decide) (by decide) (by decide)
  ·rw[if_neg (by decide),if_neg (by decide)];exact h.ok
 | ⟨op,n,word,pl,own,some l,none⟩ =>
  intro N hp t ht;rw[PrE] at hp;rw[tkE] at ht;have hl:∃ M,PrE l M:=by
   have:=hp.2
   split at this
   ·exact ⟨_,this.2⟩
   ·exact ⟨_,this⟩
  obtain ⟨M,hM⟩:=hl;rcases List.mem_cons.1 ht with rfl | ht
  ·exact qha (by decide) (by decide) (by decide)
  ·exact qyq (qzg l M hM) t ht
 | ⟨op,n,word,pl,own,some l,some r⟩ =>
  intro N hp t ht;rw[PrE] at hp;rw[tkE] at ht;have pr:∀ {k:Nat} {y:Ex},(if lvl y.op < k then N < 4∧PrE y (N+1) else PrE y N)→∃ M,PrE y M:=fun h=>by
   split at h
   ·exact ⟨_,h.2⟩
   ·exact ⟨_,h⟩
  obtain ⟨M,hM⟩:=pr hp.2.1;obtain ⟨M',hM'⟩:=pr hp.2.2;rcases List.mem_append.1 ht with ht | ht
  ·exact qyq (qzg l M hM) t ht
  ·rcases List.mem_cons.1 ht with rfl | ht
   ·exact hp.1.t.1
   ·exact qyq (qzg r M' hM') t ht
theorem zv9 {x:Option Ex} {N:Nat} (hp:PrO x N):∀ t∈tkO x,OkT t:=by
 cases x with
 | none=>intro t ht;cases ht
 | some e=>exact qzg e N (hp e rfl)
theorem qkg {c:UInt8} (h:qd9 c=true):OkT [c]:=Or.inr (Or.inr ⟨c,rfl,h⟩)
theorem qga {a b:List (List UInt8)} (ha:∀ t∈a,OkT t) (hb:∀ t∈b,OkT t):∀ t∈a++b,OkT t:=fun t ht=>(List.mem_append.1 ht).elim (ha t) (hb t)
theorem all_cons {a:List UInt8} {b:List (List UInt8)} (ha:OkT a) (hb:∀ t∈b,OkT t):∀ t∈a::b,OkT t:=fun t ht=>(List.mem_cons.1 ht).elim (fun e=>by rw[e];exact ha) (hb t)
theorem all_nil:∀ t∈([]:List (List UInt8)),OkT t:=fun t ht=>by cases ht
theorem zv7 {x:Sm} {N:Nat} (hp:PrX x N) (h1:∀ t∈tkS x.one,OkT t) (h2:∀ t∈tkS x.two,OkT t):∀ t∈tkX x,OkT t:=by
 obtain ⟨⟨pO,hc⟩,_,_⟩:=hp;have hO:=zv9 pO;unfold tkX;rcases hc with ⟨ho,hw,hne⟩ | ⟨ho,hw,ha,hu,h9⟩ | ⟨ho,hne,h4⟩ | ⟨ho,h4⟩ | ⟨ho,h4,h9⟩ | ho
 ·rw[if_pos ho];exact all_cons (qha (by decide) (by decide) (by decide)) (all_cons hw.ok (all_cons (qkg (by decide)) (qga hO (all_cons (qkg (by decide)) all_nil))))
 ·rw[if_neg (by rw[ho];decide),if_pos ho]
  have hA:∀ t∈tkAs x.asw,OkT t:=by
   unfold tkAs;split
   ·exact all_nil
   ·rename_i hz;exact all_cons (qha (by decide) (by decide) (by decide)) (all_cons (ha hz).ok all_nil)
  have hU:∀ t∈qip x.undo,OkT t:=by
   unfold qip;split
   ·exact all_nil
   ·rename_i hz;exact all_cons (qha (by decide) (by decide) (by decide)) (all_cons (hu hz).ok all_nil)
  have hT:∀ t∈qf8 x.n,OkT t:=by
   unfold qf8;split
   ·exact all_nil
   ·exact all_cons (qha (by decide) (by decide) (by decide)) (all_cons (zur h9) all_nil)
  exact all_cons (qha (by decide) (by decide) (by decide)) (all_cons hw.ok (all_cons (qkg (by decide)) (qga hO (all_cons (qkg (by decide)) (qga hA (qga hU (qga hT (all_cons (qkg (by decide)) all_nil))))))))
 ·rw[if_neg (by rw[ho];decide),if_neg (by rw[ho];decide),if_pos ho]
  have hE:∀ t∈(if x.two.isEmpty then [] else [101,108,115,101]::[123]::(tkS x.two++[[125]])),OkT t:=by
   split
   ·exact all_nil
   ·exact all_cons (qha (by decide) (by decide) (by decide)) (all_cons (qkg (by decide)) (qga h2 (all_cons (qkg (by decide)) all_nil)))
  exact all_cons (qha (by decide) (by decide) (by decide)) (qga hO (all_cons (qkg (by decide)) (qga h1 (all_cons (qkg (by decide)) hE))))
 ·rw[if_neg (by rw[ho];decide),if_neg (by rw[ho];decide),if_neg (by rw[ho];decide),if_pos ho]
  exact all_cons (qha (by decide) (by decide) (by decide)) (all_cons (qkg (by decide)) (qga h1 (all_cons (qkg (by decide)) (all_cons (qha (by decide) (by decide) (by decide)) (all_cons (qkg (by decide)) (qga h2 (all_cons (qkg (by decide)) all_nil)))))))
 ·rw[if_neg (by rw[ho];decide),if_neg (by rw[ho];decide),if_neg (by rw[ho];decide),if_neg (by rw[ho];decide),if_pos ho]
  exact all_cons (qha (by decide) (by decide) (by decide)) (all_cons (zur h9) (all_cons (qkg (by decide)) (qga h1 (all_cons (qkg (by decide)) all_nil))))
 ·rw[if_neg (by rw[ho];decide),if_neg (by rw[ho];decide),if_neg (by rw[ho];decide),if_neg (by rw[ho];decide),if_neg (by rw[ho];decide)]
  exact all_cons (qha (by decide) (by decide) (by decide)) (all_cons (qkg (by decide)) all_nil)
theorem qzf (l:List Sm):∀ N,PrS l N→∀ t∈tkS l,OkT t:=by
 match l with
 | []=>intro N _;rw[qiy];exact all_nil
 | ⟨op,word,pl,ex,asw,asPl,undo,m,nPl,one,two⟩::rest =>
  intro N hp;obtain ⟨p1,p2⟩:=qen.1 hp;rw[qej];exact qga (zv7 p1 (qzf one (N+1) p1.2.1) (qzf two (N+1) p1.2.2)) (qzf rest N p2)
theorem zxa (ts:List (List UInt8)):∀ o,(∀ t∈ts,t≠[])→ts.length≤(jn o ts).length:=by
 induction ts with
 | nil=>intro o _;simp
 | cons t r ih =>
  intro o h;rw[jn];have h1:=ih t (fun u hu=>h u (List.mem_cons_of_mem _ hu))
  have h2:0 < t.length:=List.length_pos_iff.2 (h t List.mem_cons_self);split<;>simp<;>omega
theorem qmk {l:List Sm} (hp:PrS l 0) {s:ByteArray} (hs:s.data.toList=wrS l []) (hz:s.size≤300):∃ l',read s=.ok l'∧erS l'=erS l:=by
 have hok:=qzf l 0 hp;rw[qkz] at hs;have hat:=zpd hs hok;have hlen:(tkS l).length≤s.size:=by
  have h1:=zxa (tkS l) [] (fun t ht=>(hok t ht).ne)
  have h2:=qyd (tkS l) [] (fun t ht=>(hok t ht).ne)
  rw[h2] at hs;have h3:s.data.toList.length=s.size:=by rw[Array.length_toList]<;>rfl
  rw[← h3,hs]
  simpa using h1
 have hsat:Sat s ⟨tok s 0,0,-1⟩ (tkS l++[]):=by rw[List.append_nil];exact zp4 hat hlen _ _
 obtain ⟨l',st',e1,e2,e3,e4,e5⟩:=qq6 (s:=s) (n0:=s.size+1) (g:=stmt s (s.size+1)) (stop:=fun st=>st.t.k == 0) (r:=[]) (fun st h=>by show (st.t.k == 0)=true;rw[show st.t.k=0 from h.hd]<;>rfl) (fun st t q h h1 _=>by show (st.t.k == 0)=false;rw[h.hd.1,h1]<;>rfl) (fun r e=>by cases e) 0 l (fun x hx q st h1 h2 h3 h4 h5=>qk4 s l (s.size+1) 0 x hx q st h1 h2 h3 h4 h5) hp (s.size+1) [] ⟨tok s 0,0,-1⟩ rfl hsat (by have:=hsat.len;omega) (by have:=hsat.len;omega)
 refine ⟨l',?_,e2⟩;unfold read;rw[if_neg (by omega),e1]
 simp only[List.nil_append];rw[if_neg (by rw[e5];show ¬ (0:Int)≤-1;decide)]
theorem qph (V:Vs) {l:List Sm} (hp:PrS l 0) (a:List Int):play V (erS l) a=play V l a:=by
 unfold play;rw[qmi V l 0 _ hp]
def bl (i:Nat):UInt8:=UInt8.ofNat (97+i)
def bW (i:Nat):ByteArray:=⟨#[bl i]⟩
def bU (i:Nat):ByteArray:=⟨#[120,bl i]⟩
def bC (i:Nat):Sm:={ qa8 with op:=99,word:=bW i,undo:=bU i,n:=1 }
def bF:Sm:={ qa8 with op:=102 }
def bCs:Nat→Nat→List Sm
 | _,0=>[]
 | k,n+1=>bC k::bCs (k+1) n
def bX (i:Nat):List UInt8:=[99,97,108,108,32,bl i,40,41,117,110,100,111,32,120,bl i,59]
def bT:Nat→List UInt8
 | 0=>[]
 | n+1=>bT n++bX n
theorem qji {i:Nat} (h:i < 9):qal (bl i)=true:=by
 unfold qal bl;rw[UInt8.toNat_ofNat'];simp;omega
theorem zx4 {i:Nat} (h:i < 9):WdT (bW i):=by
 refine ⟨by simp[bW],fun c hc=>?_,?_,by simp[bW]⟩
 ·simp[bW] at hc;subst hc;exact qji h
 ·simp[bW,qcf,qcx]
theorem bU_wd {i:Nat} (h:i < 9):WdT (bU i):=by
 refine ⟨by simp[bU],fun c hc=>?_,?_,by simp[bU]⟩
 ·simp[bU] at hc;rcases hc with rfl | rfl
  ·decide
  ·exact qji h
 ·simp[bU,qcf,qcx]
theorem bC_pr {i:Nat} (h:i < 9):PrX (bC i) 0:=by
 refine ⟨⟨qg6 0,Or.inr (Or.inl ⟨rfl,zx4 h,fun h=>absurd rfl h,fun _=>bU_wd h,by show 1≤9999;decide⟩)⟩,qc9 _,qc9 _⟩
theorem bF_pr:PrX bF 0:=⟨⟨qg6 0,Or.inr (Or.inr (Or.inr (Or.inr (Or.inr rfl))))⟩,qc9 _,qc9 _⟩
theorem zx6 (n:Nat):∀ k,k+n≤9→PrS (bCs k n++[bF]) 0:=by
 induction n with
 | zero=>intro k _;exact qen.2 ⟨bF_pr,qc9 _⟩
 | succ n ih=>intro k hk;exact qen.2 ⟨bC_pr (by omega),ih (k+1) (by omega)⟩
def Fin (o:List UInt8):Prop:=o=[]∨o.getLast?=some 59
theorem zin {o t:List UInt8} (h:Fin o):gap o t=false:=by
 unfold gap;rcases h with rfl | h
 ·rfl
 ·rw[h];cases t.head? with
  | none=>rfl
  | some b=>rfl
theorem qvh {o t:List UInt8} (h:gap o t=false):sgn o t=o++t:=by unfold sgn;rw[h]<;>rfl
theorem zt9 {o:List UInt8} (h:Fin o) {i:Nat} (hi:i < 9):(tkX (bC i)).foldl sgn o=o++bX i:=by
 have e:tkX (bC i)=[[99,97,108,108],[bl i],[40],[41],[117,110,100,111],[120,bl i],[59]]:=by
  unfold tkX;rw[if_neg (by show ¬ (99:Nat)=108;decide),if_pos (by rfl)]
  rfl
 have hs:=qji hi;have hok:∀ t∈tkX (bC i),t≠[]:=by
  rw[e];intro t ht;simp at ht;rcases ht with rfl | rfl | rfl | rfl | rfl | rfl | rfl<;>simp
 rw[qyd _ _ hok,e];congr 1;have g0:gap o [99,97,108,108]=false:=zin h;have hr:qfc (bl i)=true:=by unfold qfc;rw[hs]<;>rfl
 have g1:gap [99,97,108,108] [bl i]=true:=by
  unfold gap;simp[hr];exact (by decide:qfc 108=true)
 have g2:gap [bl i] [40]=false:=by
  unfold gap;simp;intro _;decide
 have g3:gap [40] [41]=false:=by decide
 have g4:gap [41] [117,110,100,111]=false:=by decide
 have g5:gap [117,110,100,111] [120,bl i]=true:=by
  unfold gap;simp;decide
 have g6:gap [120,bl i] [59]=false:=by
  unfold gap;simp;intro _;decide
 simp only[jn,g0,g1,g2,g3,g4,g5,g6,if_true,Bool.false_eq_true,if_false];rfl
theorem zxp {o:List UInt8} (i:Nat):Fin (o++bX i):=Or.inr (by unfold bX;simp[List.getLast?_append,List.getLast?_cons])
theorem zoi (n:Nat):∀ (k:Nat) (o:List UInt8),Fin o→k+n≤9→∃ u,(tkS (bCs k n)).foldl sgn o=u∧Fin u∧∀ j,o=bT j→j=k→u=bT (k+n):=by
 induction n with
 | zero=>intro k o h _;exact ⟨o,by simp[bCs,qiy],h,fun j e ej=>by rw[e,ej]<;>rfl⟩
 | succ n ih =>
  intro k o h hk;obtain ⟨u,h1,h2,h3⟩:=ih (k+1) (o++bX k) (zxp k) (by omega)
  refine ⟨u,?_,h2,fun j e ej=>?_⟩
  ·rw[bCs,qej,List.foldl_append,zt9 h (by omega)]
   exact h1
  ·rw[h3 (k+1) (by rw[e,ej]<;>rfl) rfl]
   congr 1;omega
theorem bText (n:Nat) (hn:n≤9):wrS (bCs 0 n++[bF]) []=bT n++[102,97,105,108,59]:=by
 rw[qkz];have e:tkS (bCs 0 n++[bF])=tkS (bCs 0 n)++[[102,97,105,108],[59]]:=by
  have:∀ (l:List Sm),tkS (l++[bF])=tkS l++[[102,97,105,108],[59]]:=fun l=>by
   induction l with
   | nil=>rw[List.nil_append,qej,qiy];rfl
   | cons x l ih=>rw[List.cons_append,qej,qej,ih,List.append_assoc]
  exact this _
 obtain ⟨u,h1,h2,h3⟩:=zoi n 0 [] (Or.inl rfl) (by omega)
 have hu:=h3 0 rfl rfl;rw[Nat.zero_add] at hu;rw[e,List.foldl_append,h1,← hu];have g:gap u [102,97,105,108]=false:=zin h2;simp only[List.foldl_cons,List.foldl_nil];rw[qvh g];have g2:gap (u++[102,97,105,108]) [59]=false:=by
  unfold gap;rw[List.getLast?_append]
  all_goals rfl
 rw[qvh g2];simp
theorem ztg (i:Nat) (c:Lk):qcc (bC i) c=c:=by
 unfold qcc;rw[if_neg (by show ¬ (99:Nat)=108;decide),if_pos (by rfl)]
 have e1:(bC i).asw.toList.isEmpty=true:=by show nowt.toList.isEmpty=true;rw[ByteArray.toList_eq]<;>rfl
 have e2:¬ ((bC i).n < 1∨5 < (bC i).n):=by show ¬ ((1:Nat) < 1∨5 < 1);decide
 dsimp only;rw[if_neg e2,if_pos e1]
 all_goals rfl
theorem zhh (n:Nat):∀ (k:Nat) (c:Lk),qap (bCs k n++[bF]) c=c:=by
 induction n with
 | zero=>intro k c;show qap [bF] c=c;rw[qdi,qhu]<;>rfl
 | succ n ih=>intro k c;show qap (bC k::(bCs (k+1) n++[bF])) c=c;rw[qdi,ztg,ih]
def bA:Nat→List Int→List Ask
 | _,[]=>[]
 | k,_::vs=>⟨bW k,0,1,false⟩::bA (k+1) vs
def bP:Nat→List Int→List (ByteArray×Int)
 | _,[]=>[]
 | k,v::vs=>(bU k,v)::bP (k+1) vs
theorem zjx (vs:List Int):∀ k,(bA k vs).length=vs.length:=by
 induction vs with
 | nil=>intro k;rfl
 | cons v vs ih=>intro k;simp[bA,ih]
theorem zx5 (vs:List Int):∀ k,(bP k vs).length=vs.length:=by
 induction vs with
 | nil=>intro k;rfl
 | cons v vs ih=>intro k;simp[bP,ih]
theorem zwi (i:Nat) (v:Int) (hv:0≤v) (r:List Int) (A:List Ask) (p:List (ByteArray×Int)):runX [] (bC i) ⟨[],v::r,A,[p],0,false,false⟩=⟨[],r,A++[⟨bW i,0,1,false⟩],[p++[(bU i,v)]],0,false,false⟩:=by
 have e:runX [] (bC i) ⟨[],v::r,A,[p],0,false,false⟩=qei [] (bW i) none nowt (bU i) 1 ⟨[],v::r,A,[p],0,false,false⟩:=rfl;rw[e];unfold qei;simp only[evO,tries,ask,if_pos hv];rfl
theorem zr6 (vs:List Int):∀ (k:Nat) (r:List Int) (A:List Ask) (p:List (ByteArray×Int)),(∀ v∈vs,0≤v)→runS [] (bCs k vs.length++[bF]) ⟨[],vs++r,A,[p],0,false,false⟩=⟨[],r,A++bA k vs,[p++bP k vs],0,false,true⟩:=by
 induction vs with
 | nil =>
  intro k r A p _;show runS [] [bF] ⟨[],r,A,[p],0,false,false⟩=_
  rw[qci,qdy];simp[bA,bP];rfl
 | cons v vs ih =>
  intro k r A p h;show runS [] (bC k::(bCs (k+1) vs.length++[bF])) ⟨[],v::(vs++r),A,[p],0,false,false⟩=_
  rw[qci];have g:(⟨[],v::(vs++r),A,[p],0,false,false⟩:Rs).going=true:=rfl;rw[g,if_pos rfl,zwi k v (h v List.mem_cons_self),ih (k+1) r _ _ (fun u hu=>h u (List.mem_cons_of_mem _ hu))]
  simp[bA,bP]
theorem zv3 (L:List (ByteArray×Int)):∀ (r:List Int) (A:List Ask) (P:List (List (ByteArray×Int))) (f:Bool),qch L ⟨[],List.replicate L.length 0++r,A,P,0,false,f⟩=⟨[],r,A++L.map (fun u=>⟨u.1,u.2,1,true⟩),P,0,false,f⟩:=by
 induction L with
 | nil=>intro r A P f;simp[qch]
 | cons u L ih =>
  intro r A P f;obtain ⟨w,v⟩:=u;rw[qch];have e:tries w v true 3 1 ⟨[],List.replicate ((w,v)::L).length 0++r,A,P,0,false,f⟩=(some (some 0),⟨[],List.replicate L.length 0++r,A++[⟨w,v,1,true⟩],P,0,false,f⟩):=by
   rw[tries,List.length_cons,List.replicate_succ,List.cons_append]
   all_goals rfl
  rw[e];dsimp only;rw[ih];simp
theorem zbh {s:ByteArray} {n:Nat} (hn:n≤8) (hs:s.data.toList=bT n++[102,97,105,108,59]) (vs:List Int) (hv:∀ v∈vs,0≤v) (hl:vs.length=n) :
  run s (vs++List.replicate n 0)=(bA 0 vs++(bP 0 vs).reverse.map (fun u=>⟨u.1,u.2,1,true⟩),2,0,0):=by
 have hp:=zx6 n 0 (by omega)
 have hz:s.size≤300:=by
  have h3:s.data.toList.length=s.size:=by rw[Array.length_toList]<;>rfl
  have h4:∀ n,(bT n).length=16 * n:=fun n=>by
   induction n with
   | zero=>rfl
   | succ n ih=>rw[bT,List.length_append,ih];simp[bX];omega
  rw[← h3,hs,List.length_append,h4];simp;omega
 obtain ⟨m,hm,he⟩:=qmk hp (by rw[bText n (by omega)];exact hs) hz
 have p2:=qpe hm;have e1:=qgf _ 0 ⟨[],0,0⟩ hp (Or.inl (by rw[zhh]))
 have e2:=qgf m 0 ⟨[],0,0⟩ p2 (Or.inr (by rw[he,e1,zhh]))
 have e3:qap m ⟨[],0,0⟩=⟨[],0,0⟩:=by rw[← e2,he,e1,zhh]
 have hcm:check s=(0,0):=by
  unfold check;rw[hm];simp only;rw[e3]
  all_goals rfl
 unfold run;rw[hm];simp only;rw[if_pos hcm,e3];have e4:play [] m (vs++List.replicate n 0)=play [] (bCs 0 n++[bF]) (vs++List.replicate n 0):=by rw[← qph [] p2,he,qph [] hp]
 rw[e4];unfold play;have e5:=zr6 vs 0 (List.replicate n 0) [] [] hv;rw[hl] at e5;simp only[List.nil_append,List.length_nil,List.replicate_zero] at e5 ⊢;rw[e5];have e6:qb5 ⟨[],List.replicate n 0,bA 0 vs,[bP 0 vs],0,false,true⟩=⟨[],[],bA 0 vs++(bP 0 vs).reverse.map (fun u=>⟨u.1,u.2,1,true⟩),[],0,false,true⟩:=by
  have:=zv3 (bP 0 vs).reverse [] (bA 0 vs) [] true
  rw[List.length_reverse,zx5,hl,List.append_nil] at this;exact this
 unfold ended;rw[if_neg (by simp),if_pos rfl,e6]
 all_goals rfl
def qf5 (e:Option Ex):Sm:={ qa8 with op:=99,word:=⟨#[97]⟩,ex:=e,n:=1 }
theorem zj6 {e:Option Ex} (h:PrO e 0):PrS [qf5 e] 0 :=
 qen.2 ⟨⟨⟨h,Or.inr (Or.inl ⟨rfl,zx4 (i:=0) (by decide),fun h=>absurd rfl h,fun h=>absurd rfl h,by show 1≤9999;decide⟩)⟩,qc9 _,qc9 _⟩,qc9 _⟩
def seven:Ex:=leaf 110 7 nowt 0
theorem qzq:PrO (some seven) 0:=qld (by unfold seven leaf;rw[PrE];exact Or.inl ⟨rfl,by decide⟩)
theorem qmu {e:Option Ex} (he:qbq e 105 ⟨[],0,0⟩=⟨[],0,0⟩):qap [qf5 e] ⟨[],0,0⟩=⟨[],0,0⟩:=by
 rw[qdi,qhu];unfold qcc;rw[if_neg (by show ¬ (99:Nat)=108;decide),if_pos (by rfl)]
 have e1:(qf5 e).asw.toList.isEmpty=true:=by show nowt.toList.isEmpty=true;rw[ByteArray.toList_eq]<;>rfl
 have e2:¬ ((qf5 e).n < 1∨5 < (qf5 e).n):=by show ¬ ((1:Nat) < 1∨5 < 1);decide
 dsimp only;rw[if_neg e2,if_pos e1];exact he
theorem qe7 {e:Option Ex} (hp:PrO e 0) (he:qbq e 105 ⟨[],0,0⟩=⟨[],0,0⟩) {s:ByteArray} (hs:s.data.toList=wrS [qf5 e] []) (hz:s.size≤300):∃ m,read s=.ok m∧check s=(0,0)∧∀ a,run s a=((play [] [qf5 e] a).asks,(play [] [qf5 e] a).over,0,0):=by
 have h1:=zj6 hp;obtain ⟨m,hm,her⟩:=qmk h1 hs hz;have p2:=qpe hm;have e1:=qgf _ 0 ⟨[],0,0⟩ h1 (Or.inl (by rw[qmu he]))
 have e2:=qgf m 0 ⟨[],0,0⟩ p2 (Or.inr (by rw[her,e1,qmu he]))
 have e3:qap m ⟨[],0,0⟩=⟨[],0,0⟩:=by rw[← e2,her,e1,qmu he]
 have hcm:check s=(0,0):=by
  unfold check;rw[hm];simp only;rw[e3]
  all_goals rfl
 refine ⟨m,hm,hcm,fun a=>?_⟩
 unfold run;rw[hm];simp only;rw[if_pos hcm,e3];have e4:play [] m a=play [] [qf5 e] a:=by rw[← qph [] p2,her,qph [] h1]
 rw[e4]
def qwy:ByteArray:=⟨#[99,97,108,108,32,97,40,55,41,59]⟩
theorem zbn:qwy.data.toList=wrS [qf5 (some seven)] []:=by
 rw[qkz];have e:tkS [qf5 (some seven)]=[[99,97,108,108],[97],[40],[55],[41],[59]]:=by
  rw[qej,qiy];unfold tkX;rw[if_neg (by show ¬ (99:Nat)=108;decide),if_pos (by rfl)]
  rfl
 rw[e]
 all_goals rfl
theorem qwx:run qwy [1]=([⟨⟨#[97]⟩,7,1,false⟩],1,0,0):=by
 obtain ⟨m,_,_,h⟩:=qe7 qzq (by rfl) zbn (by decide)
 have e:evO [] [] (some seven)=some 7:=by unfold evO seven leaf;simp only;rw[evE]<;>rfl
 have r:runX [] (qf5 (some seven)) ⟨[],[1],[],[[]],0,false,false⟩=⟨[],[],[⟨⟨#[97]⟩,7,1,false⟩],[[]],0,false,false⟩:=by
  have r1:runX [] (qf5 (some seven)) ⟨[],[1],[],[[]],0,false,false⟩=qei [] ⟨#[97]⟩ (some seven) nowt nowt 1 ⟨[],[1],[],[[]],0,false,false⟩:=rfl;rw[r1];unfold qei;rw[e]
  all_goals rfl
 rw[h];unfold play;rw[qci,qdy];have g:(⟨List.replicate ([]:Vs).length 0,[1],[],[[]],0,false,false⟩:Rs).going=true:=rfl;rw[g,if_pos rfl];have r':runX [] (qf5 (some seven)) ⟨List.replicate ([]:Vs).length 0,[1],[],[[]],0,false,false⟩=⟨[],[],[⟨⟨#[97]⟩,7,1,false⟩],[[]],0,false,false⟩:=r;rw[r']
 all_goals rfl
end Px
end Go.Proofs.YtnhkpbmplefnaaaGreatDoor
