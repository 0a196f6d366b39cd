import Derived.Test.YthanmfbakpcigaaGreatDoorT03
import Derived.Test.YthanmfbakpcigaaGreatDoorT01
import Derived.Test.YthanmfbakpcigaaGreatDoorT02
set_option maxRecDepth 100000
namespace Go.Proofs.YthanmfbakpcigaaGreatDoor
namespace Px
theorem qls (x:Ex):∀ (N:Nat) (c:Lk),PrE x N→((qao x c).2.e=0∨(qao (erE x) c).2.e=0)→qao (erE x) c=qao x c:=by
 match x with
 | ⟨op,n,word,pl,own,none,o⟩ =>
  intro N c hp h;rw[PrE] at hp;rw[erE,qao,qao] at *;rcases hp with ⟨rfl,_⟩ | ⟨rfl,_⟩ | ⟨rfl,_⟩
  ·rfl
  ·rfl
  ·rw[if_pos rfl] at *;unfold qpq at *;rw[if_neg (by decide),if_neg (by decide),if_neg (by decide),if_neg (by decide)] at *
   cases hf:qa3 c.vars word with
   | some i=>rfl
   | none =>
    rw[hf] at h;rcases h with h | h
    ·exact absurd h (qca (by decide) _)
    ·exact absurd h (qca (by decide) _)
 | ⟨op,n,word,pl,own,some l,none⟩ =>
  intro N c hp h;rw[PrE] at hp;rw[erE,qao,qao] at *;obtain ⟨M,hM⟩:∃ M,PrE l M:=by
   have:=hp.2
   split at this
   ·exact ⟨_,this.2⟩
   ·exact ⟨_,this⟩
  have nk:∀ (own:Nat) (r:Nat×Lk),(notK own r).2.e=0→isK r.1 98=true∧r.2.e=0:=fun own r h=>by
   unfold notK at h;cases hk:isK r.1 98
   ·rw[hk] at h;exact absurd h (qca (by decide) _)
   ·rw[hk] at h;exact ⟨rfl,h⟩
  have hl:qao (erE l) c=qao l c:=qls l M c hM (by rcases h with h | h;exact Or.inl (nk _ _ h).2;exact Or.inr (nk _ _ h).2)
  rw[hl] at h ⊢;have hk:isK (qao l c).1 98=true:=by rcases h with h | h;exact (nk _ _ h).1;exact (nk _ _ h).1
  unfold notK;rw[hk]
  all_goals rfl
 | ⟨op,n,word,pl,own,some l,some r⟩ =>
  intro N c hp h;rw[PrE] at hp;rw[erE,qao,qao] at *;have pr:∀ {k:Nat} {y:Ex},(if lvl y.op < k then N < 4∧PrE y (N+1) else PrE y N)→∃ M,PrE y M:=fun h=>by
   split at h
   ·exact ⟨_,h.2⟩
   ·exact ⟨_,h⟩
  obtain ⟨M,hM⟩:=pr hp.2.1;obtain ⟨M',hM'⟩:=pr hp.2.2;have bk:∀ (own a:Nat) (q:Nat×Lk),(binK op own a q).2.e=0→q.2.e=0∧∀ own',binK op own' a q=binK op own a q:=fun own a q h=>by
   unfold binK at h ⊢;by_cases ho:op=61∨op=35
   ·simp only[if_pos ho] at h ⊢;cases hu:qft a q.1
    ·rw[hu] at h;exact ⟨h,fun _=>rfl⟩
    ·rw[hu] at h;exact absurd h (qca (by decide) _)
   ·simp only[if_neg ho] at h ⊢;cases hu:(isK a 105 && isK q.1 105)
    ·rw[hu] at h;exact absurd h (qca (by decide) _)
    ·rw[hu] at h;exact ⟨h,fun _=>rfl⟩
  have nb:∀ (y:Ex) (d:Lk),(qao y d).2.e=0→d.e=0:=fun y d h=>Classical.byContradiction fun hd=>qfz y d hd h
  have hl:qao (erE l) c=qao l c:=qls l M c hM (by
   rcases h with h | h
   ·exact Or.inl (nb _ _ (bk _ _ _ h).1)
   ·exact Or.inr (nb _ _ (bk _ _ _ h).1))
  rw[hl] at h ⊢;have hr:qao (erE r) (qao l c).2=qao r (qao l c).2:=qls r M' _ hM' (by
   rcases h with h | h
   ·exact Or.inl (bk _ _ _ h).1
   ·exact Or.inr (bk _ _ _ h).1)
  rw[hr] at h ⊢;rcases h with h | h
  ·exact (bk _ _ _ h).2 _
  ·exact ((bk _ _ _ h).2 _).symm
theorem qte {x:Option Ex} {N k:Nat} {c:Lk} (hp:PrO x N) (h:(qbq x k c).e=0∨(qbq (erO x) k c).e=0):qbq (erO x) k c=qbq x k c:=by
 cases x with
 | none=>rfl
 | some e =>
  have he:=hp e rfl;unfold erO qbq at *;simp only at *;have q:∀ (r:Nat×Lk) (p:Nat),(if isK r.1 k then r.2 else say 6 p r.2).e=0→isK r.1 k=true∧r.2.e=0:=fun r p h=>by
   cases hk:isK r.1 k
   ·rw[hk] at h;exact absurd h (qca (by decide) _)
   ·rw[hk] at h;exact ⟨rfl,h⟩
  have hl:qao (erE e) c=qao e c:=qls e N c he (by rcases h with h | h;exact Or.inl (q _ _ h).2;exact Or.inr (q _ _ h).2)
  rw[hl] at h ⊢;have hk:isK (qao e c).1 k=true:=by rcases h with h | h;exact (q _ _ h).1;exact (q _ _ h).1
  rw[hk]
  all_goals rfl
theorem za4 {w:ByteArray} {p p' k:Nat} {c:Lk} (h:(qc7 w p k c).e=0∨(qc7 w p' k c).e=0):qc7 w p' k c=qc7 w p k c:=by
 unfold qc7 at *;cases hf:qa3 c.vars w with
 | none=>rfl
 | some i =>
  rw[hf] at h;simp only at h ⊢;cases hu:qft (qcn c.vars i) k
  ·rfl
  ·rw[hu] at h;rcases h with h | h
   ·exact absurd h (qca (by decide) _)
   ·exact absurd h (qca (by decide) _)
theorem qod {w:ByteArray} {p k:Nat} {c:Lk} (h:(qc7 w p k c).e=0):c.e=0:=Classical.byContradiction fun hd=>qf2 hd w p k h
theorem zne {x:Sm} {N:Nat} (hp:PrX x N) (h1:∀ c,((qap x.one c).e=0∨(qap (erS x.one) c).e=0)→qap (erS x.one) c=qap x.one c) (h2:∀ c,((qap x.two c).e=0∨(qap (erS x.two) c).e=0)→qap (erS x.two) c=qap x.two c) (c:Lk) (h:(qcc x c).e=0∨(qcc (erX x) c).e=0):qcc (erX x) c=qcc x c:=by
 have nb:∀ (l:List Sm) (d:Lk),(qap l d).e=0→d.e=0:=fun l d h=>Classical.byContradiction fun hd=>qb7 l d hd h
 obtain ⟨⟨pO,hc⟩,_,_⟩:=hp;rcases hc with ⟨ho,hw,hne⟩ | ⟨ho,hw,ha,hu,h9⟩ | ⟨ho,hne,h4⟩ | ⟨ho,h4⟩ | ⟨ho,h4,h9⟩ | ho
 ·cases he:x.ex with
  | none=>exact absurd he hne
  | some e =>
   have e1:qcc x c=qc7 x.word x.pl (qao e c).1 (qao e c).2:=by unfold qcc;rw[if_pos ho,he]
   have e2:qcc (erX x) c=qc7 x.word 0 (qao (erE e) c).1 (qao (erE e) c).2:=by
    have:erX x=⟨108,x.word,0,some (erE e),nowt,0,nowt,0,0,[],[]⟩:=by unfold erX;rw[if_pos ho,he]<;>rfl
    rw[this]<;>rfl
   rw[e1,e2] at h ⊢;have hk:qao (erE e) c=qao e c:=qls e N c (pO e he) (by rcases h with h | h;exact Or.inl (qod h);exact Or.inr (qod h))
   rw[hk] at h ⊢;exact za4 h
 ·have e1:qcc x c=(let c2:=if x.asw.toList.isEmpty then qbq x.ex 105 c else qc7 x.asw x.asPl 105 (qbq x.ex 105 c);if x.n < 1∨5 < x.n then say 4 x.nPl c2 else c2):=by unfold qcc;rw[if_neg (by rw[ho];decide),if_pos ho]
  have e2:qcc (erX x) c=(let c2:=if x.asw.toList.isEmpty then qbq (erO x.ex) 105 c else qc7 x.asw 0 105 (qbq (erO x.ex) 105 c);if x.n < 1∨5 < x.n then say 4 0 c2 else c2):=by
   have:erX x=⟨99,x.word,0,erO x.ex,x.asw,0,x.undo,x.n,0,[],[]⟩:=by unfold erX;rw[if_neg (by rw[ho];decide),if_pos ho]
   rw[this]<;>rfl
  rw[e1,e2] at h ⊢;simp only at h ⊢;by_cases hn:x.n < 1∨5 < x.n
  ·rw[if_pos hn,if_pos hn] at h;rcases h with h | h
   ·exact absurd h (qca (by decide) _)
   ·exact absurd h (qca (by decide) _)
  ·rw[if_neg hn,if_neg hn] at h ⊢;cases hz:x.asw.toList.isEmpty
   ·rw[hz] at h;simp only[Bool.false_eq_true,if_false] at h ⊢;have hm:qbq (erO x.ex) 105 c=qbq x.ex 105 c:=qte pO (by rcases h with h | h;exact Or.inl (qod h);exact Or.inr (qod h))
    rw[hm] at h ⊢;exact za4 h
   ·rw[hz] at h;simp only[if_true] at h ⊢;exact qte pO h
 ·have e1:qcc x c=qap x.two (qap x.one (qbq x.ex 98 c)):=by unfold qcc;rw[if_neg (by rw[ho];decide),if_neg (by rw[ho];decide),if_pos ho]
  have e2:qcc (erX x) c=qap (erS x.two) (qap (erS x.one) (qbq (erO x.ex) 98 c)):=by
   have:erX x=⟨105,nowt,0,erO x.ex,nowt,0,nowt,0,0,erS x.one,erS x.two⟩:=by unfold erX;rw[if_neg (by rw[ho];decide),if_neg (by rw[ho];decide),if_pos ho]
   rw[this]<;>rfl
  rw[e1,e2] at h ⊢;have hm:qbq (erO x.ex) 98 c=qbq x.ex 98 c:=qte pO (by rcases h with h | h;exact Or.inl (nb _ _ (nb _ _ h));exact Or.inr (nb _ _ (nb _ _ h)))
  rw[hm] at h ⊢;have hq:=h1 (qbq x.ex 98 c) (by rcases h with h | h;exact Or.inl (nb _ _ h);exact Or.inr (nb _ _ h))
  rw[hq] at h ⊢;exact h2 _ h
 ·have e1:qcc x c=qap x.two (qap x.one c):=by unfold qcc;rw[if_neg (by rw[ho];decide),if_neg (by rw[ho];decide),if_neg (by rw[ho];decide),if_pos ho]
  have e2:qcc (erX x) c=qap (erS x.two) (qap (erS x.one) c):=by
   have:erX x=⟨116,nowt,0,none,nowt,0,nowt,0,0,erS x.one,erS x.two⟩:=by unfold erX;rw[if_neg (by rw[ho];decide),if_neg (by rw[ho];decide),if_neg (by rw[ho];decide),if_pos ho]
   rw[this]<;>rfl
  rw[e1,e2] at h ⊢;have hq:=h1 c (by rcases h with h | h;exact Or.inl (nb _ _ h);exact Or.inr (nb _ _ h))
  rw[hq] at h ⊢;exact h2 _ h
 ·have e1:qcc x c=qap x.one (if 9 < x.n then say 4 x.nPl c else c):=by unfold qcc;rw[if_neg (by rw[ho];decide),if_neg (by rw[ho];decide),if_neg (by rw[ho];decide),if_neg (by rw[ho];decide),if_pos ho]
  have e2:qcc (erX x) c=qap (erS x.one) (if 9 < x.n then say 4 0 c else c):=by
   have:erX x=⟨114,nowt,0,none,nowt,0,nowt,x.n,0,erS x.one,[]⟩:=by unfold erX;rw[if_neg (by rw[ho];decide),if_neg (by rw[ho];decide),if_neg (by rw[ho];decide),if_neg (by rw[ho];decide),if_pos ho]
   rw[this]<;>rfl
  rw[e1,e2] at h ⊢;by_cases hn:9 < x.n
  ·rw[if_pos hn,if_pos hn] at h;rcases h with h | h
   ·exact absurd (nb _ _ h) (qca (by decide) _)
   ·exact absurd (nb _ _ h) (qca (by decide) _)
  ·rw[if_neg hn,if_neg hn] at h ⊢;exact h1 _ h
 ·have:erX x=⟨102,nowt,0,none,nowt,0,nowt,0,0,[],[]⟩:=by unfold erX;rw[ho]<;>rfl
  rw[this];unfold qcc;rw[ho]
  all_goals rfl
theorem qgf (l:List Sm):∀ (N:Nat) (c:Lk),PrS l N→((qap l c).e=0∨(qap (erS l) c).e=0)→qap (erS l) c=qap l c:=by
 match l with
 | []=>intro N c _ _;rw[qm2]
 | ⟨op,word,pl,ex,asw,asPl,undo,m,nPl,one,two⟩::rest =>
  intro N c hp h;have nb:∀ (l:List Sm) (d:Lk),(qap l d).e=0→d.e=0:=fun l d h=>Classical.byContradiction fun hd=>qb7 l d hd h
  obtain ⟨p1,p2⟩:=qen.1 hp;rw[qgi,qdi,qdi] at *;have hx:=zne p1 (fun c=>qgf one (N+1) c p1.2.1) (fun c=>qgf two (N+1) c p1.2.2) c (by rcases h with h | h;exact Or.inl (nb _ _ h);exact Or.inr (nb _ _ h))
  rw[hx] at h ⊢;exact qgf rest N _ p2 h
theorem qp6 (V:Vs) (H:List Int) (x:Ex):∀ N,PrE x N→evE V H (erE x)=evE V H x:=by
 match x with
 | ⟨op,n,word,pl,own,none,o⟩ =>
  intro N hp;rw[PrE] at hp;rw[erE,evE,evE];rcases hp with ⟨rfl,_⟩ | ⟨rfl,_⟩ | ⟨rfl,_⟩<;>rfl
 | ⟨op,n,word,pl,own,some l,none⟩ =>
  intro N hp;rw[PrE] at hp;rw[erE,evE,evE]
  have:=hp.2
  split at this
  ·rw[qp6 V H l _ this.2]
  ·rw[qp6 V H l _ this]
 | ⟨op,n,word,pl,own,some l,some r⟩ =>
  intro N hp;rw[PrE] at hp;rw[erE,evE,evE];have hl:evE V H (erE l)=evE V H l:=by
   have:=hp.2.1
   split at this
   ·exact qp6 V H l _ this.2
   ·exact qp6 V H l _ this
  have hr:evE V H (erE r)=evE V H r:=by
   have:=hp.2.2
   split at this
   ·exact qp6 V H r _ this.2
   ·exact qp6 V H r _ this
  rw[hl,hr]
theorem ziy (V:Vs) (H:List Int) {x:Option Ex} {N:Nat} (hp:PrO x N):evO V H (erO x)=evO V H x:=by
 cases x with
 | none=>rfl
 | some e=>exact qp6 V H e N (hp e rfl)
theorem zsa (V:Vs) {x:Sm} {N:Nat} (hp:PrX x N) (h1:∀ s,runS V (erS x.one) s=runS V x.one s) (h2:∀ s,runS V (erS x.two) s=runS V x.two s) (s:Rs):runX V (erX x) s=runX V x s:=by
 obtain ⟨⟨pO,hc⟩,_,_⟩:=hp;rcases hc with ⟨ho,hw,hne⟩ | ⟨ho,hw,ha,hu,h9⟩ | ⟨ho,hne,h4⟩ | ⟨ho,h4⟩ | ⟨ho,h4,h9⟩ | ho
 ·have:erX x=⟨108,x.word,0,erO x.ex,nowt,0,nowt,0,0,[],[]⟩:=by unfold erX;rw[if_pos ho]
  rw[this];unfold runX;rw[if_pos rfl,if_pos ho];simp only;rw[ziy V s.held pO]
 ·have:erX x=⟨99,x.word,0,erO x.ex,x.asw,0,x.undo,x.n,0,[],[]⟩:=by unfold erX;rw[if_neg (by rw[ho];decide),if_pos ho]
  rw[this];unfold runX;rw[if_neg (by show ¬ (99:Nat)=108;decide),if_pos rfl,if_neg (by rw[ho];decide),if_pos ho]
  unfold qei;simp only;rw[ziy V s.held pO]
 ·have:erX x=⟨105,nowt,0,erO x.ex,nowt,0,nowt,0,0,erS x.one,erS x.two⟩:=by unfold erX;rw[if_neg (by rw[ho];decide),if_neg (by rw[ho];decide),if_pos ho]
  rw[this];unfold runX;rw[if_neg (by show ¬ (105:Nat)=108;decide),if_neg (by show ¬ (105:Nat)=99;decide),if_pos rfl,if_neg (by rw[ho];decide),if_neg (by rw[ho];decide),if_pos ho]
  simp only;rw[ziy V s.held pO,show runS V (erS x.one)=runS V x.one from funext h1,show runS V (erS x.two)=runS V x.two from funext h2]
 ·have:erX x=⟨116,nowt,0,none,nowt,0,nowt,0,0,erS x.one,erS x.two⟩:=by unfold erX;rw[if_neg (by rw[ho];decide),if_neg (by rw[ho];decide),if_neg (by rw[ho];decide),if_pos ho]
  have e1:∀ (o t:List Sm),runX V ⟨116,nowt,0,none,nowt,0,nowt,0,0,o,t⟩ s=(let s1:=runS V o { s with piles:=s.piles++[[]] }
   if s1.over≠0∨s1.stop=true then s1
   else if s1.failed then (let s2:=qb5 { s1 with failed:=false };if s2.going then runS V t s2 else s2)
   else { s1 with piles:=layP s1.piles.dropLast (s1.piles.getLastD []) }):=fun o t=>rfl
  have e2:runX V x s=runX V ⟨116,nowt,0,none,nowt,0,nowt,0,0,x.one,x.two⟩ s:=by
   unfold runX;rw[ho]
   all_goals rfl
  rw[this,e2,e1,e1,show runS V (erS x.one)=runS V x.one from funext h1,show runS V (erS x.two)=runS V x.two from funext h2]
 ·have:erX x=⟨114,nowt,0,none,nowt,0,nowt,x.n,0,erS x.one,[]⟩:=by unfold erX;rw[if_neg (by rw[ho];decide),if_neg (by rw[ho];decide),if_neg (by rw[ho];decide),if_neg (by rw[ho];decide),if_pos ho]
  rw[this];unfold runX;rw[if_neg (by show ¬ (114:Nat)=108;decide),if_neg (by show ¬ (114:Nat)=99;decide),if_neg (by show ¬ (114:Nat)=105;decide),if_neg (by show ¬ (114:Nat)=116;decide),if_pos rfl,if_neg (by rw[ho];decide),if_neg (by rw[ho];decide),if_neg (by rw[ho];decide),if_neg (by rw[ho];decide),if_pos ho]
  simp only;rw[show runS V (erS x.one)=runS V x.one from funext h1]
 ·have:erX x=⟨102,nowt,0,none,nowt,0,nowt,0,0,[],[]⟩:=by unfold erX;rw[ho]<;>rfl
  rw[this];unfold runX;rw[ho]
  all_goals rfl
theorem qmi (V:Vs) (l:List Sm):∀ (N:Nat) (s:Rs),PrS l N→runS V (erS l) s=runS V l s:=by
 match l with
 | []=>intro N s _;rw[qm2]
 | ⟨op,word,pl,ex,asw,asPl,undo,m,nPl,one,two⟩::rest =>
  intro N s hp;obtain ⟨p1,p2⟩:=qen.1 hp;rw[qgi,qci,qci,qmi V rest N _ p2,zsa V p1 (fun s=>qmi V one (N+1) s p1.2.1) (fun s=>qmi V two (N+1) s p1.2.2)]
theorem qyq {b:Bool} {l:List (List UInt8)} (h:∀ t∈l,OkT t):∀ t∈brkT b l,OkT t:=by
 unfold brkT;cases b
 ·exact h
 ·intro t ht;simp at ht;rcases ht with rfl | ht | rfl
  ·exact Or.inr (Or.inr ⟨40,rfl,by decide⟩)
  ·exact h t ht
  ·exact Or.inr (Or.inr ⟨41,rfl,by decide⟩)
theorem qha {t:List UInt8} (h:qcf t=true) (hn:t≠[]) (ha:∀ c∈t,qal c=true):OkT t:=Or.inl ⟨hn,ha,Or.inl h⟩
theorem qzg (x:Ex):∀ N,PrE x N→∀ t∈tkE x,OkT t:=by
 match x with
 | ⟨op,n,word,pl,own,none,o⟩ =>
  intro N hp t ht;rw[PrE] at hp;rw[tkE] at ht;simp at ht;subst ht;unfold qpp;rcases hp with ⟨rfl,h⟩ | ⟨rfl,_⟩ | ⟨rfl,h⟩
  ·rw[if_pos rfl];exact zur h
  ·rw[if_neg (by decide),if_pos rfl]
   split
   ·exact qha (by decide) (by decide) (by decide)
   ·exact qha (by decide) (by decide) (by decide)
  ·rw[if_neg (by decide),if_neg (by decide)];exact h.ok
 | ⟨op,n,word,pl,own,some l,none⟩ =>
  intro N hp t ht;rw[PrE] at hp;rw[tkE] at ht;have hl:∃ M,PrE l M:=by
   have:=hp.2
   split at this
   ·exact ⟨_,this.2⟩
   ·exact ⟨_,this⟩
  obtain ⟨M,hM⟩:=hl;rcases List.mem_cons.1 ht with rfl | ht
  ·exact qha (by decide) (by decide) (by decide)
  ·exact qyq (qzg l M hM) t ht
 | ⟨op,n,word,pl,own,some l,some r⟩ =>
  intro N hp t ht;rw[PrE] at hp;rw[tkE] at ht;have pr:∀ {k:Nat} {y:Ex},(if lvl y.op < k then N < 4∧PrE y (N+1) else PrE y N)→∃ M,PrE y M:=fun h=>by
   split at h
   ·exact ⟨_,h.2⟩
   ·exact ⟨_,h⟩
  obtain ⟨M,hM⟩:=pr hp.2.1;obtain ⟨M',hM'⟩:=pr hp.2.2;rcases List.mem_append.1 ht with ht | ht
  ·exact qyq (qzg l M hM) t ht
  ·rcases List.mem_cons.1 ht with rfl | ht
   ·exact hp.1.t.1
   ·exact qyq (qzg r M' hM') t ht
theorem zv9 {x:Option Ex} {N:Nat} (hp:PrO x N):∀ t∈tkO x,OkT t:=by
 cases x with
 | none=>intro t ht;cases ht
 | some e=>exact qzg e N (hp e rfl)
theorem qkg {c:UInt8} (h:qd9 c=true):OkT [c]:=Or.inr (Or.inr ⟨c,rfl,h⟩)
theorem qga {a b:List (List UInt8)} (ha:∀ t∈a,OkT t) (hb:∀ t∈b,OkT t):∀ t∈a++b,OkT t:=fun t ht=>(List.mem_append.1 ht).elim (ha t) (hb t)
theorem all_cons {a:List UInt8} {b:List (List UInt8)} (ha:OkT a) (hb:∀ t∈b,OkT t):∀ t∈a::b,OkT t:=fun t ht=>(List.mem_cons.1 ht).elim (fun e=>by rw[e];exact ha) (hb t)
theorem all_nil:∀ t∈([]:List (List UInt8)),OkT t:=fun t ht=>by cases ht
theorem zv7 {x:Sm} {N:Nat} (hp:PrX x N) (h1:∀ t∈tkS x.one,OkT t) (h2:∀ t∈tkS x.two,OkT t):∀ t∈tkX x,OkT t:=by
 obtain ⟨⟨pO,hc⟩,_,_⟩:=hp;have hO:=zv9 pO;unfold tkX;rcases hc with ⟨ho,hw,hne⟩ | ⟨ho,hw,ha,hu,h9⟩ | ⟨ho,hne,h4⟩ | ⟨ho,h4⟩ | ⟨ho,h4,h9⟩ | ho
 ·rw[if_pos ho];exact all_cons (qha (by decide) (by decide) (by decide)) (all_cons hw.ok (all_cons (qkg (by decide)) (qga hO (all_cons (qkg (by decide)) all_nil))))
 ·rw[if_neg (by rw[ho];decide),if_pos ho]
  have hA:∀ t∈tkAs x.asw,OkT t:=by
   unfold tkAs;split
   ·exact all_nil
   ·rename_i hz;exact all_cons (qha (by decide) (by decide) (by decide)) (all_cons (ha hz).ok all_nil)
  have hU:∀ t∈qip x.undo,OkT t:=by
   unfold qip;split
   ·exact all_nil
   ·rename_i hz;exact all_cons (qha (by decide) (by decide) (by decide)) (all_cons (hu hz).ok all_nil)
  have hT:∀ t∈qf8 x.n,OkT t:=by
   unfold qf8;split
   ·exact all_nil
   ·exact all_cons (qha (by decide) (by decide) (by decide)) (all_cons (zur h9) all_nil)
  exact all_cons (qha (by decide) (by decide) (by decide)) (all_cons hw.ok (all_cons (qkg (by decide)) (qga hO (all_cons (qkg (by decide)) (qga hA (qga hU (qga hT (all_cons (qkg (by decide)) all_nil))))))))
 ·rw[if_neg (by rw[ho];decide),if_neg (by rw[ho];decide),if_pos ho]
  have hE:∀ t∈(if x.two.isEmpty then [] else [101,108,115,101]::[123]::(tkS x.two++[[125]])),OkT t:=by
   split
   ·exact all_nil
   ·exact all_cons (qha (by decide) (by decide) (by decide)) (all_cons (qkg (by decide)) (qga h2 (all_cons (qkg (by decide)) all_nil)))
  exact all_cons (qha (by decide) (by decide) (by decide)) (qga hO (all_cons (qkg (by decide)) (qga h1 (all_cons (qkg (by decide)) hE))))
 ·rw[if_neg (by rw[ho];decide),if_neg (by rw[ho];decide),if_neg (by rw[ho];decide),if_pos ho]
  exact all_cons (qha (by decide) (by decide) (by decide)) (all_cons (qkg (by decide)) (qga h1 (all_cons (qkg (by decide)) (all_cons (qha (by decide) (by decide) (by decide)) (all_cons (qkg (by decide)) (qga h2 (all_cons (qkg (by decide)) all_nil)))))))
 ·rw[if_neg (by rw[ho];decide),if_neg (by rw[ho];decide),if_neg (by rw[ho];decide),if_neg (by rw[ho];decide),if_pos ho]
  exact all_cons (qha (by decide) (by decide) (by decide)) (all_cons (zur h9) (all_cons (qkg (by decide)) (qga h1 (all_cons (qkg (by decide)) all_nil))))
 ·rw[if_neg (by rw[ho];decide),if_neg (by rw[ho];decide),if_neg (by rw[ho];decide),if_neg (by rw[ho];decide),if_neg (by rw[ho];decide)]
  exact all_cons (qha (by decide) (by decide) (by decide)) (all_cons (qkg (by decide)) all_nil)
theorem qzf (l:List Sm):∀ N,PrS l N→∀ t∈tkS l,OkT t:=by
 match l with
 | []=>intro N _;rw[qiy];exact all_nil
 | ⟨op,word,pl,ex,asw,asPl,undo,m,nPl,one,two⟩::rest =>
  intro N hp;obtain ⟨p1,p2⟩:=qen.1 hp;rw[qej];exact qga (zv7 p1 (qzf one (N+1) p1.2.1) (qzf two (N+1) p1.2.2)) (qzf rest N p2)
theorem zxa (ts:List (List UInt8)):∀ o,(∀ t∈ts,t≠[])→ts.length≤(jn o ts).length:=by
 induction ts with
 | nil=>intro o _;simp
 | cons t r ih =>
  intro o h;rw[jn];have h1:=ih t (fun u hu=>h u (List.mem_cons_of_mem _ hu))
  have h2:0 < t.length:=List.length_pos_iff.2 (h t List.mem_cons_self);split<;>simp<;>omega
theorem qmk {l:List Sm} (hp:PrS l 0) {s:ByteArray} (hs:s.data.toList=wrS l []) (hz:s.size≤300):∃ l',read s=.ok l'∧erS l'=erS l:=by
 have hok:=qzf l 0 hp;rw[qkz] at hs;have hat:=zpd hs hok;have hlen:(tkS l).length≤s.size:=by
  have h1:=zxa (tkS l) [] (fun t ht=>(hok t ht).ne)
  have h2:=qyd (tkS l) [] (fun t ht=>(hok t ht).ne)
  rw[h2] at hs;have h3:s.data.toList.length=s.size:=by rw[Array.length_toList]<;>rfl
  rw[← h3,hs]
  simpa using h1
 have hsat:Sat s ⟨tok s 0,0,-1⟩ (tkS l++[]):=by rw[List.append_nil];exact zp4 hat hlen _ _
 obtain ⟨l',st',e1,e2,e3,e4,e5⟩:=qq6 (s:=s) (n0:=s.size+1) (g:=stmt s (s.size+1)) (stop:=fun st=>st.t.k == 0) (r:=[]) (fun st h=>by show (st.t.k == 0)=true;rw[show st.t.k=0 from h.hd]<;>rfl) (fun st t q h h1 _=>by show (st.t.k == 0)=false;rw[h.hd.1,h1]<;>rfl) (fun r e=>by cases e) 0 l (fun x hx q st h1 h2 h3 h4 h5=>qk4 s l (s.size+1) 0 x hx q st h1 h2 h3 h4 h5) hp (s.size+1) [] ⟨tok s 0,0,-1⟩ rfl hsat (by have:=hsat.len;omega) (by have:=hsat.len;omega)
 refine ⟨l',?_,e2⟩;unfold read;rw[if_neg (by omega),e1]
 simp only[List.nil_append];rw[if_neg (by rw[e5];show ¬ (0:Int)≤-1;decide)]
def Xo (s:Rs):Prop:=s.stop=true→s.over=0
def XI (f:Rs→Rs):Prop:=∀ s,s.over=0→s.stop=false→Xo (f s)
theorem Xo.of {s:Rs} (h:s.over=0):Xo s:=fun _=>h
theorem zq7 (L:List (ByteArray×Int)):XI (qch L):=by
 induction L with
 | nil=>intro s h _;exact Xo.of h
 | cons a L ih =>
  intro s h0 h1;obtain ⟨w,v⟩:=a;obtain ⟨_,_,k3,_⟩:=qgk w v true 3 1 s;obtain ⟨F,_,_,f3,_⟩:=qu3 w v true 3 1 s h1;rw[qch];cases ht:tries w v true 3 1 s with
  | mk o s1 =>
   rw[ht] at k3 f3;dsimp only at k3 f3;have hs1:o≠none→s1.stop=false:=fun hn=>by
    cases hq:s1.stop with
    | false=>rfl
    | true=>exact absurd (f3 hq) hn
   match o with
   | none=>exact Xo.of (k3.trans h0)
   | some none=>intro hx;exact absurd ((hs1 (by simp)).symm.trans hx) (by simp)
   | some (some _)=>exact ih s1 (k3.trans h0) (hs1 (by simp))
theorem zek:XI qb5:=fun s h0 h1=>zq7 _ { s with piles:=s.piles.dropLast } h0 h1
theorem zu1 (V:Vs) (word:ByteArray) (ex:Option Ex) (asw undo:ByteArray) (n:Nat):XI (qei V word ex asw undo n):=by
 intro s h0 h1;unfold qei;cases evO V s.held ex with
 | none=>exact Xo.of h0
 | some arg =>
  obtain ⟨_,_,k3,_⟩:=qgk word arg false n 1 s;dsimp only;cases ht:tries word arg false n 1 s with
  | mk o s1 =>
   rw[ht] at k3;dsimp only at k3;match o with
   | none=>exact Xo.of (k3.trans h0)
   | some none=>exact Xo.of (k3.trans h0)
   | some (some _)=>exact Xo.of (k3.trans h0)
theorem za1 {s:Rs} (h:¬ (s.over=0∧s.stop=false)):s.going=false:=by
 unfold Rs.going;cases hs:s.stop
 ·have:¬ s.over=0:=fun h0=>h ⟨h0,hs⟩
  simp[this]
 ·simp
theorem zxb {f:Rs→Rs} (h:XI f) (hi:∀ s,s.going=false→f s=s) (n:Nat):XI (iter f n):=by
 induction n with
 | zero=>intro s h0 _;exact Xo.of h0
 | succ n ih =>
  intro s h0 h1;rw[iter];by_cases hg:(f s).over=0∧(f s).stop=false
  ·exact ih _ hg.1 hg.2
  ·rw[qjn (hi _ (za1 hg)) n];exact h s h0 h1
theorem zwj (V:Vs) (x:Sm) (h1:XI (runS V x.one)) (h2:XI (runS V x.two)):XI (runX V x):=by
 intro s h0 hs;unfold runX;by_cases o1:x.op=108
 ·simp only[if_pos o1];cases evO V s.held x.ex<;>exact Xo.of h0
 ·simp only[if_neg o1];by_cases o2:x.op=99
  ·simp only[if_pos o2];exact zu1 V x.word x.ex x.asw x.undo x.n s h0 hs
  ·simp only[if_neg o2];by_cases o3:x.op=105
   ·simp only[if_pos o3];cases evO V s.held x.ex with
    | none=>exact Xo.of h0
    | some v =>
     dsimp only;by_cases hv:v=1
     ·rw[if_pos hv];exact h1 s h0 hs
     ·rw[if_neg hv];exact h2 s h0 hs
   ·simp only[if_neg o3];by_cases o4:x.op=116
    ·simp only[if_pos o4];have q1:Xo (runS V x.one { s with piles:=s.piles++[[]] }):=h1 { s with piles:=s.piles++[[]] } h0 hs
     generalize runS V x.one { s with piles:=s.piles++[[]] }=s1 at q1 ⊢
     by_cases hb:s1.over≠0∨s1.stop=true
     ·rw[if_pos hb];exact q1
     ·rw[if_neg hb];have b0:s1.over=0:=Classical.byContradiction fun h=>hb (Or.inl h)
      have b1:s1.stop=false:=by cases h:s1.stop;rfl;exact absurd (Or.inr h) hb
      by_cases hf:s1.failed=true
      ·rw[if_pos hf];have q2:Xo (qb5 { s1 with failed:=false }):=zek { s1 with failed:=false } b0 b1
       generalize qb5 { s1 with failed:=false }=s2 at q2 ⊢
       by_cases hg:s2.going=true
       ·rw[if_pos hg];unfold Rs.going at hg;simp at hg;exact h2 s2 hg.1.1 hg.1.2
       ·rw[if_neg hg];exact q2
      ·rw[if_neg hf];exact Xo.of b0
    ·simp only[if_neg o4];by_cases o5:x.op=114
     ·simp only[if_pos o5];exact zxb h1 (fun s h=>qez V x.one h) x.n s h0 hs
     ·simp only[if_neg o5];exact Xo.of h0
theorem qzu (V:Vs) (l:List Sm):XI (runS V l):=by
 match l with
 | []=>intro s h0 _;rw[qdy];exact Xo.of h0
 | ⟨op,word,pl,ex,asw,asPl,undo,n,nPl,one,two⟩::rest =>
  intro s h0 h1;rw[qci];have q:Xo (if s.going then runX V ⟨op,word,pl,ex,asw,asPl,undo,n,nPl,one,two⟩ s else s):=by
   split
   ·exact zwj V ⟨op,word,pl,ex,asw,asPl,undo,n,nPl,one,two⟩ (qzu V one) (qzu V two) s h0 h1
   ·exact Xo.of h0
  generalize (if s.going then runX V ⟨op,word,pl,ex,asw,asPl,undo,n,nPl,one,two⟩ s else s)=s1 at q ⊢
  by_cases hg:s1.over=0∧s1.stop=false
  ·exact qzu V rest s1 hg.1 hg.2
  ·rw[qez V rest (za1 hg)];exact q
theorem qvq (V:Vs) (l:List Sm) (a:List Int):(play V l a).over=0↔(play V l a).stop=true:=by
 have q:=qzu V l ⟨List.replicate V.length 0,a,[],[[]],0,false,false⟩ rfl rfl;unfold play;generalize runS V l ⟨List.replicate V.length 0,a,[],[[]],0,false,false⟩=s at q ⊢;unfold ended;by_cases hb:s.over≠0∨s.stop=true
 ·rw[if_pos hb];exact ⟨fun h=>hb.resolve_left (fun hn=>hn h),q⟩
 ·rw[if_neg hb];have b0:s.over=0:=Classical.byContradiction fun h=>hb (Or.inl h)
  have b1:s.stop=false:=by cases h:s.stop;rfl;exact absurd (Or.inr h) hb
  by_cases hf:s.failed=true
  ·rw[if_pos hf];have q2:=zek s b0 b1;generalize qb5 s=s2 at q2 ⊢;by_cases hg:s2.over=0∧s2.stop=false
   ·rw[if_pos hg];simp[hg.2]
   ·rw[if_neg hg];refine ⟨fun h=>?_,q2⟩
    cases hs:s2.stop
    ·exact absurd ⟨h,hs⟩ hg
    ·rfl
  ·rw[if_neg hf];simp[b1]
theorem qnd:N5 []:=by rw[N5];trivial
theorem zta {x:Sm} {l:List Sm}:N5 (x::l)↔(x.op=99→x.n≤5)∧N5 x.one∧N5 x.two∧N5 l:=by
 obtain ⟨op,word,pl,ex,asw,asPl,undo,n,nPl,one,two⟩:=x;rw[N5]
theorem qx5 (l:List Sm):∀ (N:Nat) (c:Lk),PrS l N→(qap l c).e=0→N5 (erS l):=by
 have nb:∀ (l:List Sm) (d:Lk),(qap l d).e=0→d.e=0:=fun l d h=>Classical.byContradiction fun hd=>qb7 l d hd h
 match l with
 | []=>intro N c _ _;rw[qm2];exact qnd
 | ⟨op,word,pl,ex,asw,asPl,undo,m,nPl,one,two⟩::rest =>
  intro N c hp h;obtain ⟨p1,p2⟩:=qen.1 hp;rw[qdi] at h;rw[qgi,zta];have hx:=nb _ _ h;have hr:=qx5 rest N _ p2 h;obtain ⟨⟨pO,hc⟩,q1,q2⟩:=p1;dsimp only at pO hc q1 q2;unfold qcc at hx;unfold erX;dsimp only at hx ⊢;rcases hc with ⟨rfl,_⟩ | ⟨rfl,_⟩ | ⟨rfl,_⟩ | ⟨rfl,_⟩ | ⟨rfl,_⟩ | rfl
  ·exact ⟨fun h=>absurd (show (108:Nat)=99 from h) (by decide),qnd,qnd,hr⟩
  ·refine ⟨fun _=>?_,qnd,qnd,hr⟩
   show m≤5
   rw[if_neg (by decide),if_pos rfl] at hx
   rcases Nat.lt_or_ge 5 m with h5 | h5
   ·rw[if_pos (Or.inr h5)] at hx;exact absurd hx (qca (by decide) _)
   ·exact h5
  ·rw[if_neg (by decide),if_neg (by decide),if_pos rfl] at hx
   exact ⟨fun h=>absurd (show (105:Nat)=99 from h) (by decide),qx5 one (N+1) _ q1 (nb _ _ hx),qx5 two (N+1) _ q2 hx,hr⟩
  ·rw[if_neg (by decide),if_neg (by decide),if_neg (by decide),if_pos rfl] at hx
   exact ⟨fun h=>absurd (show (116:Nat)=99 from h) (by decide),qx5 one (N+1) _ q1 (nb _ _ hx),qx5 two (N+1) _ q2 hx,hr⟩
  ·rw[if_neg (by decide),if_neg (by decide),if_neg (by decide),if_neg (by decide),if_pos rfl] at hx
   exact ⟨fun h=>absurd (show (114:Nat)=99 from h) (by decide),qx5 one (N+1) _ q1 hx,qnd,hr⟩
  ·exact ⟨fun h=>absurd (show (102:Nat)=99 from h) (by decide),qnd,qnd,hr⟩
theorem zqp {F:List (Ask×Option Int)} (h:AllA F):(F.filterMap (·.2)).length=F.length:=by
 induction F with
 | nil=>rfl
 | cons p F ih =>
  obtain ⟨a,o⟩:=p;cases o with
  | none=>exact absurd rfl (h (a,none) List.mem_cons_self)
  | some v =>
   rw[List.filterMap_cons_some (f:=fun x:Ask×Option Int=>x.2) (b:=v) rfl]
   simp[ih (fun q hq=>h q (List.mem_cons_of_mem _ hq))]
theorem zqq {F:List (Ask×Option Int)} (h:AllA F):∀ {j:Nat} {b:Ask} {v:Int},F[j]?=some (b,some v)→(F.filterMap (·.2))[j]?=some v:=by
 induction F with
 | nil=>intro j b v hj;simp at hj
 | cons p F ih =>
  intro j b v hj;obtain ⟨a,o⟩:=p;cases o with
  | none=>exact absurd rfl (h (a,none) List.mem_cons_self)
  | some u =>
   rw[List.filterMap_cons_some (f:=fun x:Ask×Option Int=>x.2) (b:=u) rfl]
   cases j with
   | zero=>simp at hj;simp[hj.2]
   | succ j =>
    simp only[List.getElem?_cons_succ] at hj ⊢;exact ih (fun q hq=>h q (List.mem_cons_of_mem _ hq)) hj
structure zyj (a:List Int) (z:Rs):Prop where
 len:z.asks.length≤a.length+1
 waits:z.over=0↔a.length < z.asks.length
 tried:∀ i q,z.asks[i]?=some q→1≤q.nth∧q.nth≤(if q.undo then 3 else 5)∧(1 < q.nth→∃ j v b,i=j+1∧z.asks[j]?=some b∧a[j]?=some v∧v < 0∧b.word=q.word∧b.arg=q.arg∧b.undo=q.undo∧b.nth+1=q.nth)
theorem qph (V:Vs) {l:List Sm} (hp:PrS l 0) (a:List Int):play V (erS l) a=play V l a:=by
 unfold play;rw[qmi V l 0 _ hp]
theorem ztf {s:ByteArray} {l:List Sm} (hr:read s=.ok l) (hc:check s=(0,0)):(qap l ⟨[],0,0⟩).e=0:=by
 unfold check at hc;rw[hr] at hc;simp only at hc;split at hc
 ·assumption
 ·rename_i hne;simp at hc;exact absurd hc.1 hne
theorem qkq {s:ByteArray} {l:List Sm} (hr:read s=.ok l) (hc:check s=(0,0)) (V:Vs) (a:List Int):zyj a (play V l a):=by
 have hp:=qpe hr;obtain ⟨F,f1,f2⟩:=zl4 V (erS l) (qx5 l 0 _ hp (ztf hr hc)) a;rw[qph V hp] at f1;have hov:=qvq V l a;generalize play V l a=z at f1 hov ⊢;have ha:=f1.asks;have hl:=f1.left;dsimp only at ha hl;rw[List.nil_append] at ha;have hget:∀ i q,z.asks[i]?=some q→∃ o,F[i]?=some (q,o):=fun i q h=>by
  rw[ha,List.getElem?_map] at h;cases hF:F[i]? with
  | none=>rw[hF] at h;cases h
  | some p =>
   rw[hF] at h;obtain ⟨b,o⟩:=p;simp at h;subst h;exact ⟨o,hF⟩
 have hgot:∀ j b v,F[j]?=some (b,some v)→z.asks[j]?=some b∧a[j]?=some v:=fun j b v h=>by
  refine ⟨by rw[ha,List.getElem?_map,h]<;>rfl,?_⟩
  rcases f1.stop with ⟨_,hA⟩ | ⟨_,h0,F',c,e,hA⟩
  ·have g:=zqq hA h;rw[hl,List.getElem?_append_left (List.getElem?_eq_some_iff.1 g).1];exact g
  ·have hj:F'[j]?=some (b,some v):=by
    rw[e] at h;by_cases hj:j < F'.length
    ·rw[List.getElem?_append_left hj] at h;exact h
    ·rw[List.getElem?_append_right (by omega)] at h
     have hlt:=(List.getElem?_eq_some_iff.1 h).1;simp at hlt;rw[hlt] at h;simp at h
   have g:=zqq hA hj;rw[hl,e,List.filterMap_append,List.append_assoc,List.getElem?_append_left (List.getElem?_eq_some_iff.1 g).1];exact g
 have hcnt:(z.stop=false∧z.asks.length≤a.length)∨(z.stop=true∧z.asks.length=a.length+1):=by
  rcases f1.stop with ⟨h1,hA⟩ | ⟨h1,h0,F',c,e,hA⟩
  ·refine Or.inl ⟨h1,?_⟩
   have:=zqp hA
   rw[ha,hl];simp;omega
  ·refine Or.inr ⟨h1,?_⟩
   have:=zqp hA
   rw[ha,hl,h0,e];simp[List.filterMap_append];omega
 refine ⟨?_,?_,fun i q hi=>?_⟩
 ·rcases hcnt with ⟨_,h⟩ | ⟨_,h⟩<;>omega
 ·rw[hov];rcases hcnt with ⟨h1,h⟩ | ⟨h1,h⟩
  ·rw[h1];exact ⟨(fun h=>by cases h),(fun h=>by omega)⟩
  ·rw[h1];exact ⟨(fun _=>by omega),(fun _=>rfl)⟩
 ·obtain ⟨o,ho⟩:=hget i q hi;obtain ⟨t1,t2,t3⟩:=f2 i q o ho;refine ⟨t1,t2,fun hn=>?_⟩
  obtain ⟨j,v,b,e1,e2,e3,r⟩:=t3 hn;obtain ⟨g1,g2⟩:=hgot j b v e2;exact ⟨j,v,b,e1,g1,g2,e3,r⟩
def bl (i:Nat):UInt8:=UInt8.ofNat (97+i)
def bW (i:Nat):ByteArray:=⟨#[bl i]⟩
theorem qji {i:Nat} (h:i < 9):qal (bl i)=true:=by
 unfold qal bl;rw[UInt8.toNat_ofNat'];simp;omega
theorem zx4 {i:Nat} (h:i < 9):WdT (bW i):=by
 refine ⟨by simp[bW],fun c hc=>?_,?_,by simp[bW]⟩
 ·simp[bW] at hc;subst hc;exact qji h
 ·simp[bW,qcf,qcx]
def qf5 (e:Option Ex):Sm:={ qa8 with op:=99,word:=⟨#[97]⟩,ex:=e,n:=1 }
theorem zj6 {e:Option Ex} (h:PrO e 0):PrS [qf5 e] 0 :=
 qen.2 ⟨⟨⟨h,Or.inr (Or.inl ⟨rfl,zx4 (i:=0) (by decide),fun h=>absurd rfl h,fun h=>absurd rfl h,by show 1≤9999;decide⟩)⟩,qc9 _,qc9 _⟩,qc9 _⟩
def seven:Ex:=leaf 110 7 nowt 0
theorem qzq:PrO (some seven) 0:=qld (by unfold seven leaf;rw[PrE];exact Or.inl ⟨rfl,by decide⟩)
theorem qmu {e:Option Ex} (he:qbq e 105 ⟨[],0,0⟩=⟨[],0,0⟩):qap [qf5 e] ⟨[],0,0⟩=⟨[],0,0⟩:=by
 rw[qdi,qhu];unfold qcc;rw[if_neg (by show ¬ (99:Nat)=108;decide),if_pos (by rfl)]
 have e1:(qf5 e).asw.toList.isEmpty=true:=by show nowt.toList.isEmpty=true;rw[ByteArray.toList_eq]<;>rfl
 have e2:¬ ((qf5 e).n < 1∨5 < (qf5 e).n):=by show ¬ ((1:Nat) < 1∨5 < 1);decide
 dsimp only;rw[if_neg e2,if_pos e1];exact he
theorem qe7 {e:Option Ex} (hp:PrO e 0) (he:qbq e 105 ⟨[],0,0⟩=⟨[],0,0⟩) {s:ByteArray} (hs:s.data.toList=wrS [qf5 e] []) (hz:s.size≤300):∃ m,read s=.ok m∧check s=(0,0)∧∀ a,run s a=((play [] [qf5 e] a).asks,(play [] [qf5 e] a).over,0,0):=by
 have h1:=zj6 hp;obtain ⟨m,hm,her⟩:=qmk h1 hs hz;have p2:=qpe hm;have e1:=qgf _ 0 ⟨[],0,0⟩ h1 (Or.inl (by rw[qmu he]))
 have e2:=qgf m 0 ⟨[],0,0⟩ p2 (Or.inr (by rw[her,e1,qmu he]))
 have e3:qap m ⟨[],0,0⟩=⟨[],0,0⟩:=by rw[← e2,her,e1,qmu he]
 have hcm:check s=(0,0):=by
  unfold check;rw[hm];simp only;rw[e3]
  all_goals rfl
 refine ⟨m,hm,hcm,fun a=>?_⟩
 unfold run;rw[hm];simp only;rw[if_pos hcm,e3];have e4:play [] m a=play [] [qf5 e] a:=by rw[← qph [] p2,her,qph [] h1]
 rw[e4]
def qwy:ByteArray:=⟨#[99,97,108,108,32,97,40,55,41,59]⟩
theorem zbn:qwy.data.toList=wrS [qf5 (some seven)] []:=by
 rw[qkz];have e:tkS [qf5 (some seven)]=[[99,97,108,108],[97],[40],[55],[41],[59]]:=by
  rw[qej,qiy];unfold tkX;rw[if_neg (by show ¬ (99:Nat)=108;decide),if_pos (by rfl)]
  rfl
 rw[e]
 all_goals rfl
theorem qwx:run qwy [1]=([⟨⟨#[97]⟩,7,1,false⟩],1,0,0):=by
 obtain ⟨m,_,_,h⟩:=qe7 qzq (by rfl) zbn (by decide)
 have e:evO [] [] (some seven)=some 7:=by unfold evO seven leaf;simp only;rw[evE]<;>rfl
 have r:runX [] (qf5 (some seven)) ⟨[],[1],[],[[]],0,false,false⟩=⟨[],[],[⟨⟨#[97]⟩,7,1,false⟩],[[]],0,false,false⟩:=by
  have r1:runX [] (qf5 (some seven)) ⟨[],[1],[],[[]],0,false,false⟩=qei [] ⟨#[97]⟩ (some seven) nowt nowt 1 ⟨[],[1],[],[[]],0,false,false⟩:=rfl;rw[r1];unfold qei;rw[e]
  all_goals rfl
 rw[h];unfold play;rw[qci,qdy];have g:(⟨List.replicate ([]:Vs).length 0,[1],[],[[]],0,false,false⟩:Rs).going=true:=rfl;rw[g,if_pos rfl];have r':runX [] (qf5 (some seven)) ⟨List.replicate ([]:Vs).length 0,[1],[],[[]],0,false,false⟩=⟨[],[],[⟨⟨#[97]⟩,7,1,false⟩],[[]],0,false,false⟩:=r;rw[r']
 all_goals rfl
end Px
end Go.Proofs.YthanmfbakpcigaaGreatDoor
