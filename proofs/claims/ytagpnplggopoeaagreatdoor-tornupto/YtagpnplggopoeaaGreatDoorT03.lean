import Derived.Test.YtagpnplggopoeaaGreatDoorT02
import Derived.Test.YtagpnplggopoeaaGreatDoorT01
set_option maxRecDepth 100000
namespace Go.Proofs.YtagpnplggopoeaaGreatDoor
open Go.RowKit
namespace Px
theorem zei (P:Pg):zpl (qa2 P):=by
 intro m;have hb:(qa2.behind m).2.asks=m.asks∧∀ B,qa2.behind (m.said B)=((qa2.behind m).1,(qa2.behind m).2.said B):=by
  unfold qa2.behind Ms.said;dsimp only;cases m.begun with
  | nil=>exact ⟨rfl,fun B=>rfl⟩
  | cons b r=>exact ⟨rfl,fun B=>rfl⟩
 have hf:∀ B,qbw (m.said B)=qbw m:=fun B=>rfl
 have hu:∀ B,(m.said B).undos=m.undos:=fun B=>rfl
 cases hm:m.undos with
 | nil =>
  have e:qa2 P m=qa2.behind m:=by unfold qa2;rw[hm]
  have e2:∀ B,qa2 P (m.said B)=qa2.behind (m.said B):=fun B=>by unfold qa2;rw[hu,hm]
  refine ⟨[],by rw[e,hb.1];simp,fun B=>?_⟩
  rw[e2,e,hb.2 B,List.append_nil]
 | cons u r =>
  by_cases hl:m.undos.length=qbw m
  ·have e:qa2 P m=qa2.behind m:=qdt hl;have e2:∀ B,qa2 P (m.said B)=qa2.behind (m.said B):=fun B=>qdt (by rw[hu,hf];exact hl)
   refine ⟨[],by rw[e,hb.1];simp,fun B=>?_⟩
   rw[e2,e,hb.2 B,List.append_nil]
  ·obtain ⟨A,a1,_,a2⟩:=qui P u.1 u.2 3 true m;have e:∀ B,qa2 P (m.said B)=match askM P u.1 u.2 3 true (m.said B) with
     | (0,_,m')=>(0,{ m' with undos:=r })
     | (1,_,m')=>(4,m')
     | (e,_,m')=>(e,m'):=fun B=>by
    have hl':¬ (u::r).length=qbw (m.said B):=by rw[hf,← hm];exact hl
    unfold qa2;rw[hu,hm];simp only;rw[if_neg hl']
    all_goals rfl
   have e0:qa2 P m=match askM P u.1 u.2 3 true m with
     | (0,_,m')=>(0,{ m' with undos:=r })
     | (1,_,m')=>(4,m')
     | (e,_,m')=>(e,m'):=e m.asks
   refine ⟨A,?_,fun B=>?_⟩
   ·rw[e0];cases hq:askM P u.1 u.2 3 true m with
    | mk e1 q =>
     obtain ⟨v,m'⟩:=q;rw[hq] at a1;match e1 with
     | 0=>exact a1
     | 1=>exact a1
     | e1+2=>exact a1
   ·rw[e B,e0,a2 B];cases hq:askM P u.1 u.2 3 true m with
    | mk e1 q =>
     obtain ⟨v,m'⟩:=q;match e1 with
     | 0=>rfl
     | 1=>rfl
     | e1+2=>rfl
theorem ze5 (P:Pg):zpl (qa1 P):=by
 intro m;by_cases hu:m.qak=true
 ·have e:∀ B,qa1 P (m.said B)=qa2 P (m.said B):=fun B=>by unfold qa1;rw[if_pos (show (m.said B).qak=true from hu)]
  have e0:qa1 P m=qa2 P m:=e m.asks;obtain ⟨A,a1,a2⟩:=zei P m;exact ⟨A,by rw[e0];exact a1,fun B=>by rw[e B,e0];exact a2 B⟩
 ·cases hi:P.ins[m.place]? with
  | none =>
   have e:∀ B,qa1 P (m.said B)=(0,{ m.said B with fin:=1 }):=fun B=>by unfold qa1;rw[if_neg (show ¬ (m.said B).qak=true from hu),show P.ins[(m.said B).place]?=none from hi]
   have e0:qa1 P m=(0,{ m with fin:=1 }):=e m.asks
   exact ⟨[],by rw[e0];simp,fun B=>by rw[e B,e0,List.append_nil]<;>rfl⟩
  | some i =>
   have e:∀ B,qa1 P (m.said B)=match doM P i ({ m with place:=m.place+1 }.said B) with
     | (0,m')=>(0,m')
     | (e,m')=>(e,{ m' with place:=m.place }):=fun B=>by
    unfold qa1;rw[if_neg (show ¬ (m.said B).qak=true from hu),show P.ins[(m.said B).place]?=some i from hi]
    all_goals rfl
   have e0:qa1 P m=match doM P i { m with place:=m.place+1 } with
     | (0,m')=>(0,m')
     | (e,m')=>(e,{ m' with place:=m.place }):=e m.asks
   obtain ⟨A,a1,a2⟩:=zuk P i { m with place:=m.place+1 }
   refine ⟨A,?_,fun B=>?_⟩
   ·rw[e0];cases hq:doM P i { m with place:=m.place+1 } with
    | mk e1 m' =>
     rw[hq] at a1;match e1 with
     | 0=>exact a1
     | e1+1=>exact a1
   ·rw[e B,e0,a2 B];cases hq:doM P i { m with place:=m.place+1 } with
    | mk e1 m' =>
     match e1 with
     | 0=>rfl
     | e1+1=>rfl
theorem zg5 (P:Pg) (m:Ms):∃ A,(qbo P m).2.asks=m.asks++A∧∀ B,qbo P (m.said B)=((qbo P m).1,(qbo P m).2.said (B++A)):=by
 obtain ⟨A,a1,a2⟩:=ze5 P m;refine ⟨A,?_,fun B=>?_⟩
 ·unfold qbo;cases hq:qa1 P m with
  | mk e1 m' =>
   rw[hq] at a1;match e1 with
   | 0=>exact a1
   | 1=>exact a1
   | 2=>exact a1
   | 3=>exact a1
   | e1+4=>exact a1
 ·unfold qbo;rw[a2 B];cases hq:qa1 P m with
  | mk e1 m' =>
   match e1 with
   | 0=>rfl
   | 1=>rfl
   | 2=>rfl
   | 3=>rfl
   | e1+4=>rfl
theorem zlo (P:Pg) (n:Nat):∀ m,∃ A,(runM P n m).2.asks=m.asks++A∧(∀ B,runM P n (m.said B)=((runM P n m).1,(runM P n m).2.said (B++A)))∧(0 < n→(qbo P m).2.asks≠m.asks→A≠[]):=by
 induction n with
 | zero=>intro m;exact ⟨[],by simp[runM],fun B=>by simp[runM],fun h=>absurd h (by omega)⟩
 | succ n ih =>
  intro m;obtain ⟨A,a1,a2⟩:=zg5 P m;have hA:(qbo P m).2.asks≠m.asks→A≠[]:=fun h e=>h (by rw[a1,e,List.append_nil])
  by_cases hs:(qbo P m).1=true
  ·refine ⟨A,?_,fun B=>?_,fun _=>hA⟩
   ·rw[runM,if_pos hs];exact a1
   ·rw[runM,runM,if_pos hs,a2 B];dsimp only;rw[if_pos hs]
    all_goals rfl
  ·obtain ⟨A',b1,b2,_⟩:=ih (qbo P m).2;refine ⟨A++A',?_,fun B=>?_,fun _ h e=>hA h (List.append_eq_nil_iff.1 e).1⟩
   ·rw[runM,if_neg hs,b1,a1,List.append_assoc]
   ·rw[runM,runM,if_neg hs,a2 B];dsimp only;rw[if_neg hs,b2,List.append_assoc]
theorem zbk (P:Pg) (i:Nat) (arg:Int) (most:Nat) (und:Bool) (m:Ms) (r:List Int) (h:(askM P i arg most und m).1≠2):askM P i arg most und (m.more r)=((askM P i arg most und m).1,(askM P i arg most und m).2.1,(askM P i arg most und m).2.2.more r):=by
 unfold askM at h ⊢;unfold Ms.more;dsimp only;cases hl:m.left with
 | nil=>rw[hl] at h;exact absurd rfl h
 | cons v q =>
  dsimp only[List.cons_append];split
  ·rfl
  ·split<;>rfl
theorem zum (P:Pg) (i:Ins) (m:Ms) (r:List Int) (h:(doM P i m).1≠2):doM P i (m.more r)=((doM P i m).1,(doM P i m).2.more r):=by
 obtain ⟨k,a,b⟩:=i;match k with
 | 0=>rfl
 | 1=>rfl
 | 2=>rfl
 | 3=>rfl
 | 4=>rfl
 | 5=>rfl
 | 6=>rfl
 | 7 =>
  have e:∀ m:Ms,doM P ⟨7,a,b⟩ m=if m.st.headD 0=0 then (1,m) else (0,{ m with st:=wrap64 ((m.st.tail.headD 0).tdiv (m.st.headD 0))::m.st.tail.tail }):=fun _=>rfl
  have hs:(m.more r).st=m.st:=rfl;rw[e,e,hs];by_cases h:m.st.headD 0=0
  ·rw[if_pos h,if_pos h]
  ·rw[if_neg h,if_neg h]<;>rfl
 | 8=>rfl
 | 9=>rfl
 | 10=>rfl
 | 11=>rfl
 | 12=>rfl
 | 13=>rfl
 | 14 =>
  have e:∀ m:Ms,doM P ⟨14,a,b⟩ m=if 0 < m.st.headD 0 then (0,{ m with st:=wrap64 (m.st.headD 0 - 1)::m.st.tail }) else (0,{ m with st:=m.st.tail,place:=a }):=fun _=>rfl
  have hs:(m.more r).st=m.st:=rfl;rw[e,e,hs];by_cases h:0 < m.st.headD 0
  ·rw[if_pos h,if_pos h]<;>rfl
  ·rw[if_neg h,if_neg h]<;>rfl
 | 15=>rfl
 | 16=>rfl
 | 17=>rfl
 | 18 =>
  rw[qp8] at h ⊢;rw[qp8];have hs:(m.more r).st=m.st:=rfl;cases hq:askM P a (m.st.headD 0) b false m with
  | mk e1 q =>
   obtain ⟨v,m'⟩:=q;have h2:(askM P a (m.st.headD 0) b false m).1≠2:=by
    intro e;rw[hq] at h e;dsimp only at e;subst e;exact h rfl
   rw[hs,zbk P a (m.st.headD 0) b false m r h2,hq];match e1 with
   | 0=>rfl
   | e1+1=>rfl
 | k+19=>rfl
theorem zej (P:Pg) (m:Ms) (r:List Int) (h:(qa2 P m).1≠2):qa2 P (m.more r)=((qa2 P m).1,(qa2 P m).2.more r):=by
 have hb:qa2.behind (m.more r)=((qa2.behind m).1,(qa2.behind m).2.more r):=by
  unfold qa2.behind Ms.more;dsimp only;cases m.begun with
  | nil=>rfl
  | cons b q=>rfl
 have hf:qbw (m.more r)=qbw m:=rfl;have hu:(m.more r).undos=m.undos:=rfl;cases hm:m.undos with
 | nil =>
  have e:qa2 P m=qa2.behind m:=by unfold qa2;rw[hm]
  have e2:qa2 P (m.more r)=qa2.behind (m.more r):=by unfold qa2;rw[hu,hm]
  rw[e2,e,hb]
 | cons u q =>
  by_cases hl:m.undos.length=qbw m
  ·rw[qdt (by rw[hu,hf];exact hl),qdt hl,hb]
  ·have e:∀ m':Ms,m'.undos=u::q→¬ m'.undos.length=qbw m'→qa2 P m'=match askM P u.1 u.2 3 true m' with
     | (0,_,m')=>(0,{ m' with undos:=q })
     | (1,_,m')=>(4,m')
     | (e,_,m')=>(e,m'):=fun m' h1 h2=>by
    rw[h1] at h2;unfold qa2;rw[h1];simp only;rw[if_neg h2]
    all_goals rfl
   rw[e m hm hl] at h ⊢;rw[e (m.more r) (hu.trans hm) (by rw[hu,hf];exact hl)]
   cases hq:askM P u.1 u.2 3 true m with
   | mk e1 p =>
    obtain ⟨v,m'⟩:=p;have h2:(askM P u.1 u.2 3 true m).1≠2:=by
     intro e;rw[hq] at h e;dsimp only at e;subst e;exact h rfl
    rw[zbk P u.1 u.2 3 true m r h2,hq];match e1 with
    | 0=>rfl
    | 1=>rfl
    | e1+2=>rfl
theorem ze7 (P:Pg) (m:Ms) (r:List Int) (h:(qa1 P m).1≠2):qa1 P (m.more r)=((qa1 P m).1,(qa1 P m).2.more r):=by
 by_cases hu:m.qak=true
 ·have e:∀ m':Ms,m'.qak=true→qa1 P m'=qa2 P m':=fun m' h=>by unfold qa1;rw[if_pos h]
  rw[e m hu] at h ⊢;rw[e (m.more r) hu];exact zej P m r h
 ·cases hi:P.ins[m.place]? with
  | none =>
   have e:∀ m':Ms,¬ m'.qak=true→m'.place=m.place→qa1 P m'=(0,{ m' with fin:=1 }):=fun m' h1 h2=>by unfold qa1;rw[if_neg h1,h2,hi]
   rw[e m hu rfl,e (m.more r) hu rfl]
   all_goals rfl
  | some i =>
   have e:∀ m':Ms,¬ m'.qak=true→m'.place=m.place→qa1 P m'=match doM P i { m' with place:=m'.place+1 } with
     | (0,x)=>(0,x)
     | (e,x)=>(e,{ x with place:=m'.place }):=fun m' h1 h2=>by unfold qa1;rw[if_neg h1,h2,hi]<;>rfl
   rw[e m hu rfl] at h ⊢;rw[e (m.more r) hu rfl];have hm:({ m.more r with place:=(m.more r).place+1 }:Ms)=({ m with place:=m.place+1 }:Ms).more r:=rfl
   rw[hm];cases hq:doM P i { m with place:=m.place+1 } with
   | mk e1 m' =>
    have h2:(doM P i { m with place:=m.place+1 }).1≠2:=by
     intro e;rw[hq] at h e;dsimp only at e;subst e;exact h rfl
    rw[zum P i _ r h2,hq];match e1 with
    | 0=>rfl
    | e1+1=>rfl
theorem zg6 (P:Pg) (m:Ms) (r:List Int) (h:(qa1 P m).1≠2):qbo P (m.more r)=((qbo P m).1,(qbo P m).2.more r):=by
 unfold qbo;rw[ze7 P m r h];cases hq:qa1 P m with
 | mk e1 m' =>
  rw[hq] at h;match e1 with
  | 0=>rfl
  | 1=>rfl
  | 2=>exact absurd rfl h
  | 3=>rfl
  | e1+4=>rfl
theorem zg4 {P:Pg} {m:Ms} (h:(qbo P m).1=false):(qa1 P m).1≠2:=by
 intro e;unfold qbo at h;cases hq:qa1 P m with
 | mk e1 m' =>
  rw[hq] at h e;dsimp only at e;subst e;cases h
theorem zca (P:Pg) (r:List Int) (k:Nat):∀ {m m1:Ms},qa7 P k m=some m1→qa7 P k (m.more r)=some (m1.more r):=by
 induction k with
 | zero=>intro m m1 h;cases h;rfl
 | succ k ih =>
  intro m m1 h;rw[qa7] at h;split at h
  ·cases h
  ·rename_i hn;have hn':(qbo P m).1=false:=by simpa using hn
   rw[qa7,zg6 P m r (zg4 hn')];dsimp only;rw[if_neg hn];exact ih h
theorem ze4 {P:Pg} {m m2:Ms} (h:qa1 P m=(2,m2)):m.left=[]∧(∃ q,m2=m.said (m.asks++[q]))∧∀ r,(qbo P (m.more r)).2.asks≠m.asks:=by
 have am:∀ (i:Nat) (arg:Int) (most:Nat) (und:Bool) (m:Ms),(askM P i arg most und m).1=2→m.left=[]∧(askM P i arg most und m).2.2=m.said (m.asks++[⟨P.words.getD i nowt,arg,m.tried+1,und⟩]):=fun i arg most und m h=>by
  cases hl:m.left with
  | nil=>exact ⟨rfl,by rw[quk hl]<;>rfl⟩
  | cons v q =>
   unfold askM at h;rw[hl] at h;dsimp only at h;split at h
   ·cases h
   ·split at h<;>cases h
 have aa:∀ (i:Nat) (arg:Int) (most:Nat) (und:Bool) (m:Ms),(askM P i arg most und m).2.2.asks≠m.asks:=fun i arg most und m=>by
  obtain ⟨A,a1,a2,_⟩:=qui P i arg most und m;rw[a1];intro e;exact a2 (by simpa using e)
 have na:∀ m':Ms,(qa1 P m').2.asks≠m.asks→(qbo P m').2.asks≠m.asks:=fun m' h=>by
  unfold qbo;cases hq:qa1 P m' with
  | mk e1 x =>
   rw[hq] at h;match e1 with
   | 0=>exact h
   | 1=>exact h
   | 2=>exact h
   | 3=>exact h
   | e1+4=>exact h
 by_cases hu:m.qak=true
 ·have e:∀ m':Ms,m'.qak=true→qa1 P m'=qa2 P m':=fun m' h=>by unfold qa1;rw[if_pos h]
  rw[e m hu] at h;have hbn:∀ m':Ms,(qa2.behind m').1≠2:=fun m'=>by
   unfold qa2.behind;cases m'.begun<;>simp
  cases hm:m.undos with
  | nil =>
   have:qa2 P m=qa2.behind m:=by unfold qa2;rw[hm]
   rw[this] at h;exact absurd (congrArg Prod.fst h) (hbn m)
  | cons u q =>
   by_cases hl:m.undos.length=qbw m
   ·rw[qdt hl] at h;exact absurd (congrArg Prod.fst h) (hbn m)
   ·have e2:∀ m':Ms,m'.undos=u::q→¬ m'.undos.length=qbw m'→qa2 P m'=match askM P u.1 u.2 3 true m' with
      | (0,_,m')=>(0,{ m' with undos:=q })
      | (1,_,m')=>(4,m')
      | (e,_,m')=>(e,m'):=fun m' h1 h2=>by
     rw[h1] at h2;unfold qa2;rw[h1];simp only;rw[if_neg h2]
     all_goals rfl
    rw[e2 m hm hl] at h;have h2:(askM P u.1 u.2 3 true m).1=2∧(askM P u.1 u.2 3 true m).2.2=m2:=by
     cases hq:askM P u.1 u.2 3 true m with
     | mk e1 p =>
      obtain ⟨v,m'⟩:=p;rw[hq] at h;match e1,h with
      | 0,h=>cases h
      | 1,h=>cases h
      | e1+2,h=>simp only[Prod.mk.injEq] at h;exact ⟨h.1,h.2⟩
    obtain ⟨k1,k2⟩:=am _ _ _ _ m h2.1;refine ⟨k1,⟨_,by rw[← h2.2,k2]⟩,fun r=>na _ ?_⟩
    rw[e (m.more r) hu,e2 (m.more r) hm hl]
    have:=aa u.1 u.2 3 true (m.more r)
    cases hq:askM P u.1 u.2 3 true (m.more r) with
    | mk e1 p =>
     obtain ⟨v,m'⟩:=p;rw[hq] at this;match e1 with
     | 0=>exact this
     | 1=>exact this
     | e1+2=>exact this
 ·cases hi:P.ins[m.place]? with
  | none =>
   unfold qa1 at h;rw[if_neg hu,hi] at h;cases h
  | some i =>
   have e:∀ m':Ms,¬ m'.qak=true→m'.place=m.place→qa1 P m'=match doM P i { m' with place:=m'.place+1 } with
     | (0,x)=>(0,x)
     | (e,x)=>(e,{ x with place:=m'.place }):=fun m' h1 h2=>by unfold qa1;rw[if_neg h1,h2,hi]<;>rfl
   rw[e m hu rfl] at h;have hd:(doM P i { m with place:=m.place+1 }).1=2∧m2={ (doM P i { m with place:=m.place+1 }).2 with place:=m.place }:=by
    cases hq:doM P i { m with place:=m.place+1 } with
    | mk e1 x =>
     rw[hq] at h;match e1,h with
     | 0,h=>cases h
     | e1+1,h=>simp only[Prod.mk.injEq] at h;exact ⟨h.1,h.2.symm⟩
   by_cases h18:i.k=18
   ·obtain ⟨k,a,b⟩:=i;dsimp only at h18;subst h18;rw[qp8] at hd;have h2:(askM P a (({ m with place:=m.place+1 }:Ms).st.headD 0) b false { m with place:=m.place+1 }).1=2∧m2={ (askM P a (({ m with place:=m.place+1 }:Ms).st.headD 0) b false { m with place:=m.place+1 }).2.2 with place:=m.place }:=by
     cases hq:askM P a (({ m with place:=m.place+1 }:Ms).st.headD 0) b false { m with place:=m.place+1 } with
     | mk e1 p =>
      obtain ⟨v,m'⟩:=p;rw[hq] at hd;match e1,hd with
      | 0,hd=>exact absurd hd.1 (by simp)
      | e1+1,hd=>exact hd
    obtain ⟨k1,k2⟩:=am _ _ _ _ _ h2.1;refine ⟨k1,⟨_,by rw[h2.2,k2]<;>rfl⟩,fun r=>na _ ?_⟩
    rw[e (m.more r) hu rfl,qp8]
    have:=aa a (({ m.more r with place:=(m.more r).place+1 }:Ms).st.headD 0) b false { m.more r with place:=(m.more r).place+1 }
    cases hq:askM P a (({ m.more r with place:=(m.more r).place+1 }:Ms).st.headD 0) b false { m.more r with place:=(m.more r).place+1 } with
    | mk e1 p =>
     obtain ⟨v,m'⟩:=p;rw[hq] at this;match e1 with
     | 0=>exact this
     | e1+1=>exact this
   ·exfalso
    have:∀ m':Ms,(doM P i m').1≠2:=fun m'=>by
     obtain ⟨k,a,b⟩:=i;match k,h18 with
     | 0,_=>exact fun h=>by cases h
     | 1,_=>exact fun h=>by cases h
     | 2,_=>exact fun h=>by cases h
     | 3,_=>exact fun h=>by cases h
     | 4,_=>exact fun h=>by cases h
     | 5,_=>exact fun h=>by cases h
     | 6,_=>exact fun h=>by cases h
     | 7,_ =>
      have e:doM P ⟨7,a,b⟩ m'=if m'.st.headD 0=0 then (1,m') else (0,{ m' with st:=wrap64 ((m'.st.tail.headD 0).tdiv (m'.st.headD 0))::m'.st.tail.tail }):=rfl
      rw[e];split<;>simp
     | 8,_=>exact fun h=>by cases h
     | 9,_=>exact fun h=>by cases h
     | 10,_=>exact fun h=>by cases h
     | 11,_=>exact fun h=>by cases h
     | 12,_=>exact fun h=>by cases h
     | 13,_=>exact fun h=>by cases h
     | 14,_ =>
      have e:doM P ⟨14,a,b⟩ m'=if 0 < m'.st.headD 0 then (0,{ m' with st:=wrap64 (m'.st.headD 0 - 1)::m'.st.tail }) else (0,{ m' with st:=m'.st.tail,place:=a }):=rfl
      rw[e];split<;>simp
     | 15,_=>exact fun h=>by cases h
     | 16,_=>exact fun h=>by cases h
     | 17,_=>exact fun h=>by cases h
     | 18,h=>exact absurd rfl h
     | k+19,_=>exact fun h=>by cases h
    exact this _ hd.1
theorem zln (P:Pg) (n:Nat):∀ {m m2:Ms},runM P n m=(0,m2)→∃ k m1,k < n∧qa7 P k m=some m1∧qa1 P m1=(2,m2):=by
 induction n with
 | zero=>intro m m2 h;cases h
 | succ n ih =>
  intro m m2 h;rw[runM] at h;by_cases hs:(qbo P m).1=true
  ·rw[if_pos hs] at h;have hf:(qbo P m).2.fin=0:=congrArg Prod.fst h;have h2:(qbo P m).2=m2:=congrArg Prod.snd h;refine ⟨0,m,by omega,rfl,?_⟩
   unfold qbo at hs hf h2;cases hq:qa1 P m with
   | mk e1 x =>
    rw[hq] at hs hf h2;match e1,hs,hf,h2 with
    | 0,hs,hf,h2=>simp only at hs hf;simp[hf] at hs
    | 1,hs,hf,h2=>simp only at hs hf;simp[hf] at hs
    | 2,hs,hf,h2=>simp only at h2;rw[h2]
    | 3,hs,hf,h2=>simp only at hs hf;simp[hf] at hs
    | e1+4,hs,hf,h2=>cases hf
  ·rw[if_neg hs] at h;obtain ⟨k,m1,h1,h2,h3⟩:=ih h;exact ⟨k+1,m1,by omega,by rw[qa7,if_neg hs];exact h2,h3⟩
theorem zlp (P:Pg) (n:Nat):∀ {m:Ms},(runM P n m).1≠4→∀ n',n≤n'→runM P n' m=runM P n m:=by
 induction n with
 | zero=>intro m h;exact absurd rfl h
 | succ n ih =>
  intro m h n' hn;obtain ⟨n',rfl⟩:∃ k,n'=k+1:=⟨n' - 1,by omega⟩
  rw[runM] at h ⊢;rw[runM];by_cases hs:(qbo P m).1=true
  ·rw[if_pos hs,if_pos hs]
  ·rw[if_neg hs] at h ⊢;rw[if_neg hs];exact ih h n' (by omega)
theorem resume {P:Pg} {N:Nat} {m m2:Ms} (h:runM P N m=(0,m2)) (r:List Int) (h4:(runM P N (m.more r)).1≠4) (B:List Ask) :
  ∃ C,runM P N ({ m2 with left:=r }.said B)=((runM P N (m.more r)).1,(runM P N (m.more r)).2.said C)∧C.getLast?=(runM P N (m.more r)).2.asks.getLast?:=by
 obtain ⟨k,m1,hk,hs,hw⟩:=zln P N h;obtain ⟨w1,⟨q,w2⟩,w3⟩:=ze4 hw;have hg:=zca P r k hs;have e1:({ m2 with left:=r }:Ms).said B=(m1.more r).said B:=by
  rw[w2];unfold Ms.said Ms.more;dsimp only;rw[w1]
  all_goals rfl
 have e2:runM P N (m.more r)=runM P (N - k) (m1.more r):=qq9 hg (by omega)
 rw[e2] at h4 ⊢;have e3:runM P N (m1.more r)=runM P (N - k) (m1.more r):=zlp P (N - k) h4 N (by omega)
 obtain ⟨A,a1,a2,a3⟩:=zlo P N (m1.more r);have hA:A≠[]:=a3 (by omega) (w3 r)
 rw[e1,a2 B,e3];rw[e3] at a1;refine ⟨B++A,rfl,?_⟩;rw[a1,List.getLast?_append,List.getLast?_append];obtain ⟨x,hx⟩:∃ x,A.getLast?=some x:=⟨A.getLast hA,List.getLast?_eq_some_getLast hA⟩;rw[hx]
 all_goals rfl
theorem qgk (w:ByteArray) (v:Int) (u:Bool) (k:Nat):∀ t s,(tries w v u k t s).2.held=s.held∧(tries w v u k t s).2.piles=s.piles∧(tries w v u k t s).2.over=s.over∧(tries w v u k t s).2.failed=s.failed∧s.asks.length≤(tries w v u k t s).2.asks.length∧(∀ x,(tries w v u k t s).1=some (some x)→s.asks.length+1≤(tries w v u k t s).2.asks.length):=by
 induction k with
 | zero=>intro t s;exact ⟨rfl,rfl,rfl,rfl,Nat.le_refl _,fun x h=>by cases h⟩
 | succ k ih =>
  intro t s;unfold tries ask;cases hl:s.left with
  | nil=>exact ⟨rfl,rfl,rfl,rfl,by simp,fun x h=>by cases h⟩
  | cons x r =>
   simp only;split
   ·exact ⟨rfl,rfl,rfl,rfl,by simp,fun _ _=>by simp⟩
   ·obtain ⟨h1,h2,h3,h4,h5,h6⟩:=ih (t+1) { s with asks:=s.asks++[⟨w,v,t,u⟩],left:=r }
    simp only[List.length_append,List.length_singleton] at h5 h6;exact ⟨h1,h2,h3,h4,by omega,fun x hx=>by have:=h6 x hx;omega⟩
def O3 (f:Rs→Rs):Prop:=∀ s,s.over≤3→(f s).over≤3
theorem zkv (L:List (ByteArray×Int)):O3 (qch L):=by
 induction L with
 | nil=>intro s h;exact h
 | cons a L ih =>
  intro s h;obtain ⟨w,v⟩:=a;obtain ⟨_,_,k3,_⟩:=qgk w v true 3 1 s;rw[qch];cases ht:tries w v true 3 1 s with
  | mk o s1 =>
   rw[ht] at k3;dsimp only at k3;match o with
   | none=>show s1.over≤3;omega
   | some none=>exact Nat.le_refl 3
   | some (some _)=>exact ih s1 (by omega)
theorem qy7:O3 qb5:=fun s h=>zkv _ { s with piles:=s.piles.dropLast } h
theorem zo0 (V:Vs) (word:ByteArray) (ex:Option Ex) (asw undo:ByteArray) (n:Nat):O3 (qei V word ex asw undo n):=by
 intro s h;unfold qei;cases evO V s.held ex with
 | none=>exact h
 | some arg =>
  obtain ⟨_,_,k3,_⟩:=qgk word arg false n 1 s;dsimp only;cases ht:tries word arg false n 1 s with
  | mk o s1 =>
   rw[ht] at k3;dsimp only at k3;match o with
   | none=>show s1.over≤3;omega
   | some none=>show s1.over≤3;omega
   | some (some _)=>show s1.over≤3;omega
theorem ztz {f:Rs→Rs} (h:O3 f) (n:Nat):O3 (iter f n):=by
 induction n with
 | zero=>intro s h;exact h
 | succ n ih=>intro s hs;exact ih _ (h s hs)
theorem zr9 (V:Vs) (x:Sm) (h1:O3 (runS V x.one)) (h2:O3 (runS V x.two)):O3 (runX V x):=by
 intro s h0;unfold runX;by_cases o1:x.op=108
 ·simp only[if_pos o1];cases evO V s.held x.ex<;>exact h0
 ·simp only[if_neg o1];by_cases o2:x.op=99
  ·simp only[if_pos o2];exact zo0 V x.word x.ex x.asw x.undo x.n s h0
  ·simp only[if_neg o2];by_cases o3:x.op=105
   ·simp only[if_pos o3];cases evO V s.held x.ex with
    | none=>exact h0
    | some v =>
     dsimp only;by_cases hv:v=1
     ·rw[if_pos hv];exact h1 s h0
     ·rw[if_neg hv];exact h2 s h0
   ·simp only[if_neg o3];by_cases o4:x.op=116
    ·simp only[if_pos o4];have q1:(runS V x.one { s with piles:=s.piles++[[]] }).over≤3:=h1 { s with piles:=s.piles++[[]] } h0
     generalize runS V x.one { s with piles:=s.piles++[[]] }=s1 at q1 ⊢
     by_cases hb:s1.over≠0∨s1.stop=true
     ·rw[if_pos hb];exact q1
     ·rw[if_neg hb];by_cases hf:s1.failed=true
      ·rw[if_pos hf];have q2:(qb5 { s1 with failed:=false }).over≤3:=qy7 { s1 with failed:=false } q1
       generalize qb5 { s1 with failed:=false }=s2 at q2 ⊢
       by_cases hg:s2.going=true
       ·rw[if_pos hg];exact h2 s2 q2
       ·rw[if_neg hg];exact q2
      ·rw[if_neg hf];exact q1
    ·simp only[if_neg o4];by_cases o5:x.op=114
     ·simp only[if_pos o5];exact ztz h1 x.n s h0
     ·simp only[if_neg o5];exact h0
theorem qso (V:Vs) (l:List Sm):O3 (runS V l):=by
 match l with
 | []=>intro s h;rw[qdy];exact h
 | ⟨op,word,pl,ex,asw,asPl,undo,n,nPl,one,two⟩::rest =>
  intro s h;rw[qci];refine qso V rest _ ?_;split
  ·exact zr9 V ⟨op,word,pl,ex,asw,asPl,undo,n,nPl,one,two⟩ (qso V one) (qso V two) s h
  ·exact h
theorem zsg (V:Vs) (l:List Sm) (a:List Int):(play V l a).over≤3:=by
 have q:=qso V l ⟨List.replicate V.length 0,a,[],[[]],0,false,false⟩ (Nat.zero_le _);unfold play;generalize runS V l ⟨List.replicate V.length 0,a,[],[[]],0,false,false⟩=s at q ⊢;unfold ended;by_cases hb:s.over≠0∨s.stop=true
 ·rw[if_pos hb];exact q
 ·rw[if_neg hb];by_cases hf:s.failed=true
  ·rw[if_pos hf];have q2:=qy7 s q;generalize qb5 s=s2 at q2 ⊢;by_cases hg:s2.over=0∧s2.stop=false
   ·rw[if_pos hg];show 2≤3;decide
   ·rw[if_neg hg];exact q2
  ·rw[if_neg hf];show 1≤3;decide
end Px
end Go.Proofs.YtagpnplggopoeaaGreatDoor
