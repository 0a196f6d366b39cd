import Derived.Test.YthanmfbakpcigaaGreatDoorT02
import Derived.Laws.Strings
set_option maxRecDepth 100000
namespace Go.Proofs.YthanmfbakpcigaaGreatDoor
namespace Px
def kT (t:List UInt8):Nat :=
 match t with
 | []=>63
 | c::_=>if qal c then (if qcf t then 107 else 119) else if qba c then 110 else 107
def OkT (t:List UInt8):Prop :=
 (t≠[]∧(∀ c∈t,qal c=true)∧(qcf t=true∨t.length≤8))∨(t≠[]∧(∀ c∈t,qba c=true)∧t.length≤4)∨∃ c,t=[c]∧qd9 c=true
theorem qrv {c:UInt8} (h:qba c=true):qal c=false:=by
 unfold qba at h;unfold qal;simp at h ⊢;omega
theorem qj4 {c:UInt8} (h:qd9 c=true):qal c=false∧qba c=false∧qbi c=false:=by
 unfold qd9 marks at h;simp at h;rcases h with rfl | rfl | rfl | rfl | rfl | rfl | rfl | rfl | rfl | rfl | rfl | rfl<;>decide
theorem qve {c:UInt8} (h:qal c=true):qbi c=false:=by
 cases e:qbi c
 ·rfl
 ·unfold qbi at e;simp at e;rcases e with rfl | rfl<;>revert h<;>decide
theorem zdo {c:UInt8} (h:qba c=true):qbi c=false:=by
 cases e:qbi c
 ·rfl
 ·unfold qbi at e;simp at e;rcases e with rfl | rfl<;>revert h<;>decide
theorem OkT.ne {t:List UInt8} (h:OkT t):t≠[]:=by
 rcases h with h | h | ⟨c,rfl,_⟩
 ·exact h.1
 ·exact h.1
 ·simp
theorem OkT.zwz {t:List UInt8} (h:OkT t):∀ c∈t,qbi c=false:=by
 intro c hc;rcases h with h | h | ⟨d,rfl,hd⟩
 ·exact qve (h.2.1 c hc)
 ·exact zdo (h.2.1 c hc)
 ·simp at hc;subst hc;exact (qj4 hd).2.2
def jn:List UInt8→List (List UInt8)→List UInt8
 | _,[]=>[]
 | o,t::r=>(if gap o t then 32::t else t)++jn t r
theorem qts {o o' t:List UInt8} (h:o.getLast?=o'.getLast?):gap o t=gap o' t:=by unfold gap;rw[h]
theorem zh1 {o o':List UInt8} (h:o.getLast?=o'.getLast?) (r:List (List UInt8)):jn o r=jn o' r:=by
 cases r with
 | nil=>rfl
 | cons t r=>rw[jn,jn,qts h]
theorem zlh (o:List UInt8) {t:List UInt8} (h:t≠[]):(sgn o t).getLast?=t.getLast?:=by
 obtain ⟨c,r,rfl⟩:∃ c r,t=c::r:=by
  cases t with
  | nil=>exact absurd rfl h
  | cons c r=>exact ⟨c,r,rfl⟩
 unfold sgn;split
 ·rw[List.getLast?_append,List.getLast?_cons_cons];simp[List.getLast?_cons]
 ·rw[List.getLast?_append];simp[List.getLast?_cons]
theorem zwe (o t:List UInt8):sgn o t=o++(if gap o t then 32::t else t):=by
 unfold sgn;split<;>rfl
theorem qyd (ts:List (List UInt8)):∀ o,(∀ t∈ts,t≠[])→ts.foldl sgn o=o++jn o ts:=by
 induction ts with
 | nil=>intro o _;simp[jn]
 | cons t r ih =>
  intro o h;rw[List.foldl_cons,ih _ (fun t' ht'=>h t' (List.mem_cons_of_mem _ ht')),jn,zh1 (zlh o (h t List.mem_cons_self)),zwe,List.append_assoc]
def AtT (s:ByteArray):Nat→List (List UInt8)→Prop
 | i,[]=>(tok s i).k=0
 | i,t::r=>(tok s i).k=kT t∧txt s (tok s i)=⟨t.toArray⟩∧AtT s (tok s i).b r
theorem byte_at {s:ByteArray} {A B:List UInt8} (h:s.data.toList=A++B) (j:Nat) (hj:A.length+j < s.size):B[j]?=some (s[A.length+j]):=by
 have e:s[A.length+j]=s.data.toList[A.length+j]'(by simpa using hj):=by simp[ByteArray.getElem_eq_getElem_data]
 have h1:s.data.toList[A.length+j]?=some (s[A.length+j]):=by rw[e];exact List.getElem?_eq_getElem _
 rw[h,List.getElem?_append_right (by omega)] at h1
 simpa using h1
theorem qxe {s:ByteArray} {A B:List UInt8} (h:s.data.toList=A++B):s.size=A.length+B.length:=by
 have:s.data.toList.length=s.size:=by rw[Array.length_toList]<;>rfl
 rw[← this,h,List.length_append]
theorem qmj {s:ByteArray} {p:UInt8→Bool} {A M R:List UInt8} (h:s.data.toList=A++(M++R)) (hM:∀ c∈M,p c=true) (hR:∀ c,R.head?=some c→p c=false):qbc p s A.length=A.length+M.length:=by
 have hz:=qxe h;rw[List.length_append] at hz;refine qel p s _ _ (by omega) (by omega) (fun j hj h1 h2=>?_) (fun hk=>?_)
 ·obtain ⟨k,rfl⟩:∃ k,j=A.length+k:=⟨j - A.length,by omega⟩
  have:=byte_at h k hj
  rw[List.getElem?_append_left (by omega)] at this
  exact hM _ (List.mem_of_getElem? this)
 ·have:=byte_at h M.length hk
  rw[List.getElem?_append_right (Nat.le_refl _),Nat.sub_self] at this;exact hR _ (by rw[← this,List.head?_eq_getElem?])
theorem qnj {s:ByteArray} {A M R:List UInt8} (h:s.data.toList=A++(M++R)):s.extract A.length (A.length+M.length)=⟨M.toArray⟩:=by
 have e:(s.extract A.length (A.length+M.length)).data.toList=M:=by
  rw[ByteArray.data_extract,Array.toList_extract,h];simp[List.extract_eq_take_drop]
 cases hx:s.extract A.length (A.length+M.length) with
 | mk d =>
  rw[hx] at e;simp at e;rw[← e]
theorem ztw {t:List UInt8} (r:List (List UInt8)) (hr:∀ u∈r,OkT u) {c:UInt8} (h:(jn t r).head?=some c) (hc:qfc c=true) (l:UInt8) (hl:t.getLast?=some l):qfc l=false:=by
 cases r with
 | nil=>simp[jn] at h
 | cons u r =>
  rw[jn] at h;by_cases hg:gap t u=true
  ·rw[if_pos hg] at h;simp at h;subst h;exact absurd hc (by decide)
  ·rw[if_neg hg] at h;have hu:=(hr u List.mem_cons_self).ne;obtain ⟨d,v,rfl⟩:∃ d v,u=d::v:=by
    cases u with
    | nil=>exact absurd rfl hu
    | cons d v=>exact ⟨d,v,rfl⟩
   simp at h;subst h;unfold gap at hg;rw[hl] at hg;simp[hc] at hg;exact hg
theorem zaj {t:List UInt8} (h:t≠[]):∃ l,t.getLast?=some l∧l∈t:=⟨t.getLast h,List.getLast?_eq_some_getLast h,List.getLast_mem h⟩
theorem zao {t:List UInt8} (hn:t≠[]) (h:∀ c∈t,qal c=true):kT t=if qcf t then 107 else 119:=by
 cases t with
 | nil=>exact absurd rfl hn
 | cons c r=>rw[kT,if_pos (h c List.mem_cons_self)]
theorem zqm {t:List UInt8} (hn:t≠[]) (h:∀ c∈t,qba c=true):kT t=110:=by
 cases t with
 | nil=>exact absurd rfl hn
 | cons c r=>rw[kT,if_neg (by rw[qrv (h c List.mem_cons_self)];decide),if_pos (h c List.mem_cons_self)]
theorem zhz {c:UInt8} (h:qd9 c=true):kT [c]=107:=by
 rw[kT,if_neg (by rw[(qj4 h).1];decide),if_neg (by rw[(qj4 h).2.1];decide)]
theorem zrm {s:ByteArray} {A t:List UInt8} {r:List (List UInt8)} (h:s.data.toList=A++(t++jn t r)) (ht:OkT t) (hr:∀ u∈r,OkT u):qev s A.length=⟨kT t,A.length,A.length+t.length⟩:=by
 have hz:=qxe h;rw[List.length_append] at hz;have hpos:0 < t.length:=List.length_pos_iff.2 ht.ne;have hlt:A.length < s.size:=by omega
 have hx:=qnj h;have h0:∀ p:UInt8→Bool,(∀ c∈t,p c=true)→p s[A.length]=true:=fun p hp=>by
  have:=byte_at h 0 (by omega)
  rw[List.getElem?_append_left hpos] at this;exact hp _ (List.mem_of_getElem? this)
 have hrow:∀ p:UInt8→Bool,(∀ c,p c=true→qfc c=true)→(∀ c∈t,p c=true)→qbc p s A.length=A.length+t.length:=fun p hp hall=>by
  refine qmj h hall fun c hc=>?_
  obtain ⟨l,hl,hm⟩:=zaj ht.ne;cases hpc:p c
  ·rfl
  ·have:=ztw r hr hc (hp c hpc) l hl
   rw[hp l (hall l hm)] at this;cases this
 rcases ht with ⟨hn,hs,hk⟩ | ⟨hn,hd,hk⟩ | ⟨c,rfl,hm⟩
 ·have e:=hrow qal (fun c hc=>by unfold qfc;rw[hc]<;>rfl) hs
  have hs0:=h0 qal hs;rw[zao hn hs];cases hkk:qcf t
  ·rw[qeq hlt hs0 e (by rw[hx,ByteArray.toList_eq];exact hkk) (by rcases hk with hk | hk;rw[hkk] at hk;cases hk;omega)]
   rfl
  ·rw[qer hlt hs0 e (by rw[hx,ByteArray.toList_eq];exact hkk)]
   rfl
 ·have e:=hrow qba (fun c hc=>by unfold qfc;rw[hc];simp) hd
  have hd0:=h0 qba hd;rw[zqm hn hd,qfw hlt (qrv hd0) hd0 e (by omega)]
 ·have hm0:=h0 qd9 (fun d hd=>by simp at hd;subst hd;exact hm)
  have hp:=qj4 hm0;rw[zhz hm,qfe hlt hp.1 hp.2.1 hm0]
  all_goals rfl
theorem at_jn (ts:List (List UInt8)):∀ (s:ByteArray) (o:List UInt8),s.data.toList=o++jn o ts→(∀ t∈ts,OkT t)→AtT s o.length ts:=by
 induction ts with
 | nil =>
  intro s o h _;rw[AtT];have hz:=qxe h;simp[jn] at hz
  have:qbc qbi s o.length=o.length:=by
   have h1:=qla qbi s o.length;have h2:=qdz qbi s o.length (by omega)
   omega
  unfold tok;rw[this,qgo (by omega)]
 | cons t r ih =>
  intro s o h hok;have ht:=hok t List.mem_cons_self;have hr:∀ u∈r,OkT u:=fun u hu=>hok u (List.mem_cons_of_mem _ hu)
  obtain ⟨A,hA,hAt⟩:∃ A,s.data.toList=A++(t++jn t r)∧qbc qbi s o.length=A.length:=by
   rw[jn] at h;obtain ⟨d,v,rfl⟩:∃ d v,t=d::v:=by
    cases t with
    | nil=>exact absurd rfl ht.ne
    | cons d v=>exact ⟨d,v,rfl⟩
   have hd:=ht.zwz d List.mem_cons_self;by_cases hg:gap o (d::v)=true
   ·rw[if_pos hg] at h;refine ⟨o++[32],by rw[h];simp,?_⟩
    rw[qmj (A:=o) (M:=[32]) (R:=d::v++jn (d::v) r) (by rw[h];simp) (by intro c hc;simp at hc;subst hc;decide) (by intro c hc;simp at hc;subst hc;exact hd)]
    simp
   ·rw[if_neg hg] at h;refine ⟨o,h,?_⟩;rw[qmj (A:=o) (M:=[]) (R:=d::v++jn (d::v) r) (by rw[h];simp) (by intro c hc;simp at hc) (by intro c hc;simp at hc;subst hc;exact hd)]
    simp
  have e:tok s o.length=⟨kT t,A.length,A.length+t.length⟩:=by
   unfold tok;rw[hAt];exact zrm hA ht hr
  rw[AtT,e];refine ⟨rfl,qnj hA,?_⟩
  have:=ih s (A++t) (by rw[hA,zh1 (o:=A++t) (o':=t) (by rw[List.getLast?_append];obtain ⟨l,hl,_⟩:=zaj ht.ne;rw[hl]<;>rfl)];simp) hr
  simpa using this
theorem zpd {s:ByteArray} {ts:List (List UInt8)} (h:s.data.toList=ts.foldl sgn []) (hok:∀ t∈ts,OkT t):AtT s 0 ts :=
 at_jn ts s [] (by rw[h,qyd ts [] fun t ht=>(hok t ht).ne]) hok
def brkT (b:Bool) (l:List (List UInt8)):List (List UInt8):=if b then [40]::(l++[[41]]) else l
def qpp (op n:Nat) (word:ByteArray):List UInt8:=if op=110 then dec n else if op=116 then (if n=1 then [116,114,117,101] else [102,97,108,115,101]) else word.data.toList
def tkE:Ex→List (List UInt8)
 | ⟨op,n,word,_,_,none,_⟩=>[qpp op n word]
 | ⟨_,_,_,_,_,some l,none⟩=>[110,111,116]::brkT (decide (lvl l.op < 4)) (tkE l)
 | ⟨op,_,_,_,_,some l,some r⟩=>brkT (decide (lvl l.op < lft op)) (tkE l)++[UInt8.ofNat op]::brkT (decide (lvl r.op < lvl op+1)) (tkE r)
theorem zjo {b:Bool} {f:List UInt8→List UInt8} {l:List (List UInt8)} (h:∀ o,f o=l.foldl sgn o) (o:List UInt8):brk b f o=(brkT b l).foldl sgn o:=by
 unfold brk brkT;cases b
 ·exact h o
 ·simp[List.foldl_append,h]
theorem qy1 (x:Ex):∀ o,wrE x o=(tkE x).foldl sgn o:=by
 match x with
 | ⟨op,n,word,pl,own,none,_⟩ =>
  intro o;rw[wrE,tkE];unfold qpp;split
  ·rfl
  ·split<;>rfl
 | ⟨op,n,word,pl,own,some l,none⟩ =>
  intro o;rw[wrE,tkE,List.foldl_cons,zjo (qy1 l)]
 | ⟨op,n,word,pl,own,some l,some r⟩ =>
  intro o;rw[wrE,tkE,List.foldl_append,List.foldl_cons,zjo (qy1 r),zjo (qy1 l)]
def tkO (x:Option Ex):List (List UInt8) :=
 match x with
 | none=>[]
 | some e=>tkE e
def tkAs (w:ByteArray):List (List UInt8):=if w.size=0 then [] else [[97,115],w.data.toList]
def qip (w:ByteArray):List (List UInt8):=if w.size=0 then [] else [[117,110,100,111],w.data.toList]
def qf8 (n:Nat):List (List UInt8):=if n=1 then [] else [[116,114,105,101,115],dec n]
def tkS:List Sm→List (List UInt8)
 | []=>[]
 | ⟨op,word,_,ex,asw,_,undo,n,_,one,two⟩::rest =>
  (if op=108 then [108,101,116]::word.data.toList::[61]::(tkO ex++[[59]])
   else if op=99 then [99,97,108,108]::word.data.toList::[40]::(tkO ex++[41]::(tkAs asw++(qip undo++(qf8 n++[[59]]))))
   else if op=105 then [105,102]::(tkO ex++[123]::(tkS one++[125]::(if two.isEmpty then [] else [101,108,115,101]::[123]::(tkS two++[[125]]))))
   else if op=116 then [116,114,121]::[123]::(tkS one++[125]::[101,108,115,101]::[123]::(tkS two++[[125]]))
   else if op=114 then [114,101,112,101,97,116]::dec n::[123]::(tkS one++[[125]])
   else [[102,97,105,108],[59]])++tkS rest
def tkX (x:Sm):List (List UInt8) :=
 if x.op=108 then [108,101,116]::x.word.data.toList::[61]::(tkO x.ex++[[59]])
 else if x.op=99 then [99,97,108,108]::x.word.data.toList::[40]::(tkO x.ex++[41]::(tkAs x.asw++(qip x.undo++(qf8 x.n++[[59]]))))
 else if x.op=105 then [105,102]::(tkO x.ex++[123]::(tkS x.one++[125]::(if x.two.isEmpty then [] else [101,108,115,101]::[123]::(tkS x.two++[[125]]))))
 else if x.op=116 then [116,114,121]::[123]::(tkS x.one++[125]::[101,108,115,101]::[123]::(tkS x.two++[[125]]))
 else if x.op=114 then [114,101,112,101,97,116]::dec x.n::[123]::(tkS x.one++[[125]])
 else [[102,97,105,108],[59]]
theorem qiy:tkS []=[]:=by rw[tkS]
theorem qej (x:Sm) (l:List Sm):tkS (x::l)=tkX x++tkS l:=by
 obtain ⟨op,word,pl,ex,asw,asPl,undo,n,nPl,one,two⟩:=x;rw[tkS.eq_def]
 all_goals rfl
theorem qnt (x:Option Ex) (o:List UInt8):qg1 x o=(tkO x).foldl sgn o:=by
 cases x with
 | none=>rfl
 | some e=>exact qy1 e o
theorem zq3 (w:ByteArray) (o:List UInt8):wrAs w o=(tkAs w).foldl sgn o:=by
 unfold wrAs tkAs;split<;>rfl
theorem zec (w:ByteArray) (o:List UInt8):qcm w o=(qip w).foldl sgn o:=by
 unfold qcm qip;split<;>rfl
theorem zbu (n:Nat) (o:List UInt8):qbm n o=(qf8 n).foldl sgn o:=by
 unfold qbm qf8;split<;>rfl
theorem zvy (x:Sm) (h1:∀ o,wrS x.one o=(tkS x.one).foldl sgn o) (h2:∀ o,wrS x.two o=(tkS x.two).foldl sgn o) (o:List UInt8):wrX x o=(tkX x).foldl sgn o:=by
 unfold wrX tkX;split
 ·simp only[List.foldl_cons,List.foldl_append,qnt,List.foldl_nil]
 ·split
  ·simp only[List.foldl_cons,List.foldl_append,qnt,zq3,zec,zbu,List.foldl_nil]
  ·split
   ·cases x.two.isEmpty
    ·simp only[List.foldl_cons,List.foldl_append,qnt,h1,h2,List.foldl_nil,Bool.false_eq_true,if_false]
    ·simp only[List.foldl_cons,List.foldl_append,qnt,h1,List.foldl_nil,if_true]
   ·split
    ·simp only[List.foldl_cons,List.foldl_append,h1,h2,List.foldl_nil]
    ·split
     ·simp only[List.foldl_cons,List.foldl_append,h1,List.foldl_nil]
     ·rfl
theorem qkz (l:List Sm):∀ o,wrS l o=(tkS l).foldl sgn o:=by
 match l with
 | []=>intro o;rw[qr8,qiy]<;>rfl
 | ⟨op,word,pl,ex,asw,asPl,undo,n,nPl,one,two⟩::rest =>
  intro o;rw[qns,qej,List.foldl_append,qkz rest,zvy _ (qkz one) (qkz two)]
def WdT (w:ByteArray):Prop:=w.data.toList≠[]∧(∀ c∈w.data.toList,qal c=true)∧qcf w.data.toList=false∧w.data.toList.length≤8
theorem WdT.ok {w:ByteArray} (h:WdT w):OkT w.data.toList:=Or.inl ⟨h.1,h.2.1,Or.inr h.2.2.2⟩
theorem WdT.k {w:ByteArray} (h:WdT w):kT w.data.toList=119:=by rw[zao h.1 h.2.1,h.2.2.1]<;>rfl
theorem qii {n:Nat} (h:n < 10):(digit n).toNat=48+n:=by
 unfold digit;rw[UInt8.toNat_ofNat'];omega
theorem qp9 (n:Nat):dec n≠[]∧(∀ c∈dec n,qba c=true)∧valOf (dec n)=n:=by
 induction n using Nat.strongRecOn with
 | _ n ih =>
  rw[qhm];split
  ·rename_i h;refine ⟨by simp,fun c hc=>?_,?_⟩
   ·simp at hc;subst hc;unfold qba;rw[qii h];simp;omega
   ·unfold valOf;simp[qii h]
  ·rename_i h;obtain ⟨i1,i2,i3⟩:=ih (n / 10) (by omega)
   refine ⟨by simp,fun c hc=>?_,?_⟩
   ·rcases List.mem_append.1 hc with hc | hc
    ·exact i2 c hc
    ·simp at hc;subst hc;unfold qba;rw[qii (Nat.mod_lt _ (by decide))]
     simp;omega
   ·unfold valOf at i3 ⊢;rw[List.foldl_append,i3];simp[qii (Nat.mod_lt n (by decide:0 < 10))]
    omega
theorem zxx (n:Nat):∀ k,n < 10 ^ (k+1)→(dec n).length≤k+1:=by
 induction n using Nat.strongRecOn with
 | _ n ih =>
  intro k hk;rw[qhm];split
  ·simp
  ·rename_i h;cases k with
   | zero=>omega
   | succ k =>
    have:=ih (n / 10) (by omega) k (by rw[Nat.pow_succ] at hk;omega)
    simp;omega
theorem zur {n:Nat} (h:n≤9999):OkT (dec n):=Or.inr (Or.inl ⟨(qp9 n).1,(qp9 n).2.1,zxx n 3 (by omega)⟩)
theorem zus (n:Nat):kT (dec n)=110:=zqm (qp9 n).1 (qp9 n).2.1
def OpN (op:Nat):Prop:=op=42∨op=47∨op=43∨op=45∨op=60∨op=61∨op=35
theorem OpN.t {op:Nat} (h:OpN op):OkT [UInt8.ofNat op]∧kT [UInt8.ofNat op]=107:=by
 have hm:qd9 (UInt8.ofNat op)=true:=by
  rcases h with rfl | rfl | rfl | rfl | rfl | rfl | rfl<;>decide
 exact ⟨Or.inr (Or.inr ⟨_,rfl,hm⟩),zhz hm⟩
def PrL (op n:Nat) (word:ByteArray):Prop:=(op=110∧n≤9999)∨(op=116∧n≤1)∨(op=119∧WdT word)
def PrE:Ex→Nat→Prop
 | ⟨op,n,word,_,_,none,_⟩,_=>PrL op n word
 | ⟨op,_,_,_,_,some l,none⟩,N=>op=33∧(if lvl l.op < 4 then N < 4∧PrE l (N+1) else PrE l N)
 | ⟨op,_,_,_,_,some l,some r⟩,N=>OpN op∧(if lvl l.op < lft op then N < 4∧PrE l (N+1) else PrE l N)∧(if lvl r.op < lvl op+1 then N < 4∧PrE r (N+1) else PrE r N)
def PrB (k N:Nat) (x:Ex):Prop:=if lvl x.op < k then N < 4∧PrE x (N+1) else PrE x N
theorem PrE.mono (x:Ex):∀ {N M:Nat},PrE x N→M≤N→PrE x M:=by
 have st:∀ (l:Ex),(∀ {N M:Nat},PrE l N→M≤N→PrE l M)→∀ {k N M:Nat},(if lvl l.op < k then N < 4∧PrE l (N+1) else PrE l N)→M≤N→(if lvl l.op < k then M < 4∧PrE l (M+1) else PrE l M):=by
  intro l hl k N M h hm;split at h
  ·rw[if_pos (by assumption)]
   exact ⟨by omega,hl h.2 (by omega)⟩
  ·rw[if_neg (by assumption)]
   exact hl h hm
 match x with
 | ⟨op,n,word,pl,own,none,_⟩=>intro N M h hm;rw[PrE] at h ⊢;exact h
 | ⟨op,n,word,pl,own,some l,none⟩ =>
  intro N M h hm;rw[PrE] at h ⊢;exact ⟨h.1,st l (PrE.mono l) h.2 hm⟩
 | ⟨op,n,word,pl,own,some l,some r⟩ =>
  intro N M h hm;rw[PrE] at h ⊢;exact ⟨h.1,st l (PrE.mono l) h.2.1 hm,st r (PrE.mono r) h.2.2 hm⟩
theorem PrE.place {x:Ex} {N:Nat} (h:PrE x N) (a:Nat):PrE { x with pl:=a } N:=by
 match x,h with
 | ⟨op,n,word,pl,own,none,_⟩,h=>rw[PrE] at h ⊢;exact h
 | ⟨op,n,word,pl,own,some l,none⟩,h=>rw[PrE] at h ⊢;exact h
 | ⟨op,n,word,pl,own,some l,some r⟩,h=>rw[PrE] at h ⊢;exact h
theorem PrB.low {k j N:Nat} {x:Ex} (h:PrB k N x) (hj:j≤k):PrB j N x:=by
 unfold PrB at h ⊢;by_cases h1:lvl x.op < k
 ·rw[if_pos h1] at h;by_cases h2:lvl x.op < j
  ·rw[if_pos h2];exact h
  ·rw[if_neg h2];exact PrE.mono x h.2 (by omega)
 ·rw[if_neg h1] at h;rw[if_neg (by omega)]
  exact h
theorem qth (op:Nat):1≤lvl op∧lvl op≤4:=by
 unfold lvl;split
 ·omega
 ·split
  ·omega
  ·split<;>omega
theorem PrB.one {N:Nat} {x:Ex} (h:PrB 1 N x):PrE x N:=by
 unfold PrB at h;rw[if_neg (by have:=qth x.op;omega)] at h
 exact h
def PrO (x:Option Ex) (N:Nat):Prop:=∀ e,x=some e→PrE e N
def PrS:List Sm→Nat→Prop
 | [],_=>True
 | ⟨op,word,_,ex,asw,_,undo,n,_,one,two⟩::rest,N =>
  (PrO ex N∧((op=108∧WdT word∧ex≠none)∨(op=99∧WdT word∧(asw.size≠0→WdT asw)∧(undo.size≠0→WdT undo)∧n≤9999)∨(op=105∧ex≠none∧N < 4)∨(op=116∧N < 4)∨(op=114∧N < 4∧n≤9999)∨op=102))∧PrS one (N+1)∧PrS two (N+1)∧PrS rest N
def PrH (x:Sm) (N:Nat):Prop:=PrO x.ex N∧((x.op=108∧WdT x.word∧x.ex≠none)∨(x.op=99∧WdT x.word∧(x.asw.size≠0→WdT x.asw)∧(x.undo.size≠0→WdT x.undo)∧x.n≤9999)∨(x.op=105∧x.ex≠none∧N < 4)∨(x.op=116∧N < 4)∨(x.op=114∧N < 4∧x.n≤9999)∨x.op=102)
def PrX (x:Sm) (N:Nat):Prop:=PrH x N∧PrS x.one (N+1)∧PrS x.two (N+1)
theorem qc9 (N:Nat):PrS [] N:=by rw[PrS];trivial
theorem qen {x:Sm} {l:List Sm} {N:Nat}:PrS (x::l) N↔PrX x N∧PrS l N:=by
 obtain ⟨op,word,pl,ex,asw,asPl,undo,n,nPl,one,two⟩:=x;rw[PrS];unfold PrX PrH;simp only[and_assoc]
theorem zpn {l:List Sm} {x:Sm} {N:Nat} (h:PrS l N) (hx:PrX x N):PrS (l++[x]) N:=by
 induction l with
 | nil=>exact qen.2 ⟨hx,qc9 N⟩
 | cons y l ih =>
  obtain ⟨h1,h2⟩:=qen.1 h;exact qen.2 ⟨h1,ih h2⟩
def erE:Ex→Ex
 | ⟨op,n,word,_,_,none,_⟩=>⟨op,if op=119 then 0 else n,if op=119 then word else nowt,0,0,none,none⟩
 | ⟨op,_,_,_,_,some l,none⟩=>⟨op,0,nowt,0,0,some (erE l),none⟩
 | ⟨op,_,_,_,_,some l,some r⟩=>⟨op,0,nowt,0,0,some (erE l),some (erE r)⟩
def erO (x:Option Ex):Option Ex :=
 match x with
 | none=>none
 | some e=>some (erE e)
def erS:List Sm→List Sm
 | []=>[]
 | ⟨op,word,_,ex,asw,_,undo,n,_,one,two⟩::rest =>
  (if op=108 then ⟨108,word,0,erO ex,nowt,0,nowt,0,0,[],[]⟩
   else if op=99 then ⟨99,word,0,erO ex,asw,0,undo,n,0,[],[]⟩
   else if op=105 then ⟨105,nowt,0,erO ex,nowt,0,nowt,0,0,erS one,erS two⟩
   else if op=116 then ⟨116,nowt,0,none,nowt,0,nowt,0,0,erS one,erS two⟩
   else if op=114 then ⟨114,nowt,0,none,nowt,0,nowt,n,0,erS one,[]⟩
   else ⟨102,nowt,0,none,nowt,0,nowt,0,0,[],[]⟩)::erS rest
def erX (x:Sm):Sm :=
 if x.op=108 then ⟨108,x.word,0,erO x.ex,nowt,0,nowt,0,0,[],[]⟩
 else if x.op=99 then ⟨99,x.word,0,erO x.ex,x.asw,0,x.undo,x.n,0,[],[]⟩
 else if x.op=105 then ⟨105,nowt,0,erO x.ex,nowt,0,nowt,0,0,erS x.one,erS x.two⟩
 else if x.op=116 then ⟨116,nowt,0,none,nowt,0,nowt,0,0,erS x.one,erS x.two⟩
 else if x.op=114 then ⟨114,nowt,0,none,nowt,0,nowt,x.n,0,erS x.one,[]⟩
 else ⟨102,nowt,0,none,nowt,0,nowt,0,0,[],[]⟩
theorem qm2:erS []=[]:=by rw[erS]
theorem qgi (x:Sm) (l:List Sm):erS (x::l)=erX x::erS l:=by
 obtain ⟨op,word,pl,ex,asw,asPl,undo,n,nPl,one,two⟩:=x;rw[erS.eq_def]
 all_goals rfl
theorem zi0 (x:Ex) (a:Nat):erE { x with pl:=a }=erE x:=by
 match x with
 | ⟨op,n,word,pl,own,none,_⟩=>rw[erE,erE]
 | ⟨op,n,word,pl,own,some l,none⟩=>rw[erE,erE]
 | ⟨op,n,word,pl,own,some l,some r⟩=>rw[erE,erE]
structure Tw (s:ByteArray) (t:Tok):Prop where
 tk:Tk s t
 ex:∃ i,i≤s.size∧t=tok s i
theorem Tw.nx {s:ByteArray} {st:Ps} (h:Tw s st.t):Tw s (nx s st).t:=⟨qnn h.tk,st.t.b,h.tk.le,rfl⟩
theorem qvg {s:ByteArray} {p:UInt8→Bool} {a b:Nat} (hb:b≤s.size) (h:∀ j (hj:j < s.size),a≤j→j < b→p s[j]=true):∀ c∈(s.extract a b).data.toList,p c=true:=by
 intro c hc;obtain ⟨j,hj,rfl⟩:=List.getElem_of_mem hc;have hj':j < (s.extract a b).size:=hj;have hz:(s.extract a b).size=b - a:=by rw[ByteArray.size_extract];omega
 have h5:(s.extract a b)[j]'hj'=s[a+j]'(by omega):=ByteArray.getElem_extract hj'
 have h6:(s.extract a b).data.toList[j]=(s.extract a b)[j]'hj':=rfl;rw[h6,h5];exact h _ (by omega) (by omega) (by omega)
theorem qvf {s:ByteArray} {a b:Nat} (hb:b≤s.size):(s.extract a b).data.toList.length=b - a:=by
 have:(s.extract a b).data.toList.length=(s.extract a b).size:=by rw[Array.length_toList]<;>rfl
 rw[this,ByteArray.size_extract];omega
theorem zrk {s:ByteArray} {a:Nat} (hk:(qev s a).k=119):WdT (txt s (qev s a)):=by
 by_cases h:a < s.size
 ·cases hs:qal s[a]
  ·cases hd:qba s[a]
   ·cases hm:qd9 s[a]
    ·rw[qgl h hs hd hm] at hk;cases hk
    ·rw[qfe h hs hd hm] at hk;cases hk
   ·by_cases hl:4 < qbc qba s a - a
    ·rw[qfg h hs hd rfl hl] at hk;cases hk
    ·rw[qfw h hs hd rfl hl] at hk;cases hk
  ·cases hkk:qcf (s.extract a (qbc qal s a)).toList
   ·by_cases hl:8 < qbc qal s a - a
    ·rw[qff h hs rfl hkk hl] at hk;cases hk
    ·rw[qeq h hs rfl hkk hl];have h1:=qsp h hs;have h2:=qdz qal s a (by omega)
     have h3:=qvf (s:=s) (a:=a) h2;refine ⟨fun e=>?_,qvg h2 (fun j hj h1 h2=>qhq qal s _ a j hj h1 h2),?_,?_⟩
     ·have e':(s.extract a (qbc qal s a)).data.toList=[]:=e;rw[e'] at h3;simp at h3;omega
     ·show qcf (s.extract a (qbc qal s a)).data.toList=false
      rw[← ByteArray.toList_eq];exact hkk
     ·show (s.extract a (qbc qal s a)).data.toList.length≤8
      omega
   ·rw[qer h hs rfl hkk] at hk;cases hk
 ·rw[qgo h] at hk;cases hk
theorem Tw.wd {s:ByteArray} {t:Tok} (h:Tw s t) (hk:t.k=119):WdT (txt s t):=by
 obtain ⟨i,_,rfl⟩:=h.ex;exact zrk hk
theorem zv1 (l:List UInt8) (hl:∀ c∈l,qba c=true):∀ m,l.foldl (fun n c=>10 * n+(c.toNat - 48)) m+1≤(m+1) * 10 ^ l.length:=by
 induction l with
 | nil=>intro m;simp
 | cons c l ih =>
  intro m;have h1:=ih (fun d hd=>hl d (List.mem_cons_of_mem _ hd)) (10 * m+(c.toNat - 48))
  have h2:=hl c List.mem_cons_self;unfold qba at h2;simp at h2;rw[List.foldl_cons];refine Nat.le_trans h1 ?_;rw[List.length_cons,Nat.pow_succ,Nat.mul_comm (10 ^ l.length) 10,← Nat.mul_assoc];exact Nat.mul_le_mul_right _ (by omega)
theorem zrl {s:ByteArray} {a:Nat} (hk:(qev s a).k=110):valOf (txt s (qev s a)).toList≤9999:=by
 by_cases h:a < s.size
 ·cases hs:qal s[a]
  ·cases hd:qba s[a]
   ·cases hm:qd9 s[a]
    ·rw[qgl h hs hd hm] at hk;cases hk
    ·rw[qfe h hs hd hm] at hk;cases hk
   ·by_cases hl:4 < qbc qba s a - a
    ·rw[qfg h hs hd rfl hl] at hk;cases hk
    ·rw[qfw h hs hd rfl hl];have h2:=qdz qba s a (by omega)
     have h3:=qvf (s:=s) (a:=a) h2;have h4:=zv1 _ (qvg h2 (fun j hj h1 h2=>qhq qba s _ a j hj h1 h2)) 0
     rw[ByteArray.toList_eq];unfold valOf;show ((s.extract a (qbc qba s a)).data.toList).foldl _ 0≤9999
     have h5:(10:Nat) ^ (s.extract a (qbc qba s a)).data.toList.length≤10 ^ 4:=Nat.pow_le_pow_right (by decide) (by omega)
     omega
  ·cases hkk:qcf (s.extract a (qbc qal s a)).toList
   ·by_cases hl:8 < qbc qal s a - a
    ·rw[qff h hs rfl hkk hl] at hk;cases hk
    ·rw[qeq h hs rfl hkk hl] at hk;cases hk
   ·rw[qer h hs rfl hkk] at hk;cases hk
 ·rw[qgo h] at hk;cases hk
theorem Tw.val {s:ByteArray} {t:Tok} (h:Tw s t) (hk:t.k=110):valOf (txt s t).toList≤9999:=by
 obtain ⟨i,_,rfl⟩:=h.ex;exact zrl hk
structure Ok1 (s:ByteArray) (st st':Ps) (p:Prop):Prop where
 tw:Tw s st'.t
 nest:st'.nest=st.nest
 deep:st'.deep < 0→st.deep < 0∧p
def Prs (s:ByteArray) (k:Nat) (g:Ps→Except Nat (Ex×Ps)):Prop:=∀ st x st' (N:Nat),Tw s st.t→st.nest=(N:Int)→g st=.ok (x,st')→Ok1 s st st' (PrB k N x)
theorem zot {s:ByteArray} {k:Nat} {g:Ps→Except Nat (Ex×Ps)} {a b:UInt8} (ha:OpN a.toNat∧lvl a.toNat=k∧lft a.toNat=k) (hb:OpN b.toNat∧lvl b.toNat=k∧lft b.toNat=k) (hg:Prs s (k+1) g) (n:Nat):∀ (pl:Nat) (e:Ex) (st:Ps) (x:Ex) (st':Ps) (N:Nat),Tw s st.t→st.nest=(N:Int)→chain s g a b n pl e st=.ok (x,st')→Ok1 s st st' (PrB k N e→PrB k N x):=by
 induction n with
 | zero=>intro pl e st x st' N _ _ h;simp[chain] at h
 | succ n ih =>
  intro pl e st x st' N ht hN h;have step:∀ (c:UInt8),(OpN c.toNat∧lvl c.toNat=k∧lft c.toNat=k)→∀ (y:Ex) (st1:Ps),g (nx s st)=.ok (y,st1)→chain s g a b n pl ⟨c.toNat,0,nowt,pl,st.t.a,some e,some y⟩ st1=.ok (x,st')→Ok1 s st st' (PrB k N e→PrB k N x):=by
   intro c hc y st1 hp h;have o1:=hg _ _ _ N ht.nx hN hp;have o2:=ih pl _ _ _ _ N o1.tw (by rw[o1.nest];exact hN) h
   refine ⟨o2.tw,by rw[o2.nest,o1.nest]<;>rfl,fun hd=>?_⟩
   obtain ⟨d1,d2⟩:=o2.deep hd;obtain ⟨d3,d4⟩:=o1.deep d1;refine ⟨d3,fun he=>d2 ?_⟩
   unfold PrB;rw[if_neg (by show ¬ lvl c.toNat < k;omega),PrE]
   refine ⟨hc.1,?_,?_⟩
   ·rw[hc.2.2];exact he
   ·rw[hc.2.1];exact d4
  rw[chain] at h;split at h
  ·cases hp:g (nx s st) with
   | error p=>rw[hp] at h;cases h
   | ok r =>
    obtain ⟨y,st1⟩:=r;rw[hp] at h;exact step a ha y st1 hp h
  ·split at h
   ·cases hp:g (nx s st) with
    | error p=>rw[hp] at h;cases h
    | ok r =>
     obtain ⟨y,st1⟩:=r;rw[hp] at h;exact step b hb y st1 hp h
   ·cases h;exact ⟨ht,rfl,fun hd=>⟨hd,fun he=>he⟩⟩
theorem zp6 {s:ByteArray} {k:Nat} {g:Ps→Except Nat (Ex×Ps)} {a b:UInt8} (ha:OpN a.toNat∧lvl a.toNat=k∧lft a.toNat=k) (hb:OpN b.toNat∧lvl b.toNat=k∧lft b.toNat=k) (hg:Prs s (k+1) g):Prs s k (row s g a b):=by
 intro st x st' N ht hN h;unfold row at h;cases hp:g st with
 | error p=>rw[hp] at h;cases h
 | ok r =>
  obtain ⟨e,st1⟩:=r;rw[hp] at h;have o1:=hg _ _ _ N ht hN hp;have o2:=zot ha hb hg _ _ _ _ _ _ N o1.tw (by rw[o1.nest];exact hN) h
  refine ⟨o2.tw,by rw[o2.nest,o1.nest],fun hd=>?_⟩
  obtain ⟨d1,d2⟩:=o2.deep hd;obtain ⟨d3,d4⟩:=o1.deep d1;exact ⟨d3,d2 (d4.low (by omega))⟩
theorem zpz {s:ByteArray} {g:Ps→Except Nat (Ex×Ps)} (hg:Prs s 4 g):Prs s 2 (sum s g) :=
 zp6 (k:=2) ⟨by unfold OpN;decide,by decide,by decide⟩ ⟨by unfold OpN;decide,by decide,by decide⟩ (zp6 (k:=3) ⟨by unfold OpN;decide,by decide,by decide⟩ ⟨by unfold OpN;decide,by decide,by decide⟩ hg)
theorem zx1 {s:ByteArray} {t:Tok} {o:Nat} (h:qec s t=some o):o=60∨o=61∨o=35:=by
 unfold qec at h;split at h
 ·cases h;exact Or.inl rfl
 ·split at h
  ·cases h;exact Or.inr (Or.inl rfl)
  ·split at h
   ·cases h;exact Or.inr (Or.inr rfl)
   ·cases h
theorem zis {s:ByteArray} {g:Ps→Except Nat (Ex×Ps)} (hg:Prs s 4 g):Prs s 1 (expr s g):=by
 intro st x st' N ht hN h;unfold expr at h;cases hp:sum s g st with
 | error p=>rw[hp] at h;cases h
 | ok r =>
  obtain ⟨e,st1⟩:=r;rw[hp] at h;simp only at h;have o1:=zpz hg _ _ _ N ht hN hp;cases hc:qec s st1.t with
  | none =>
   rw[hc] at h;cases h;exact ⟨o1.tw,o1.nest,fun hd=>⟨(o1.deep hd).1,(o1.deep hd).2.low (by decide)⟩⟩
  | some o =>
   rw[hc] at h;simp only at h;cases hq:sum s g (nx s st1) with
   | error p=>rw[hq] at h;cases h
   | ok r2 =>
    obtain ⟨k,st2⟩:=r2;rw[hq] at h;have o2:=zpz hg _ _ _ N o1.tw.nx (by show st1.nest=_;rw[o1.nest];exact hN) hq
    cases h;refine ⟨o2.tw,by rw[o2.nest];exact o1.nest,fun hd=>?_⟩
    obtain ⟨d1,d2⟩:=o2.deep hd;obtain ⟨d3,d4⟩:=o1.deep d1;refine ⟨d3,?_⟩;have hop:=zx1 hc;have h1:lvl o=1∧lft o=2:=by rcases hop with rfl | rfl | rfl<;>decide
    unfold PrB;rw[if_neg (by show ¬ lvl o < 1;omega),PrE]
    refine ⟨by unfold OpN;omega,?_,?_⟩
    ·rw[h1.2];exact d4
    ·rw[h1.1];exact d2
theorem qrw {nest deep:Int} {a:Nat} (h:qdg nest deep a < 0):deep < 0∧nest < 4:=by
 unfold qdg at h;split at h
 ·omega
 ·rename_i hn;refine ⟨h,?_⟩;rcases Int.lt_or_le nest 4 with h4 | h4
  ·exact h4
  ·exact absurd ⟨h4,h⟩ hn
theorem zu9 (s:ByteArray) (n:Nat):Prs s 4 (atom s n):=by
 induction n with
 | zero=>intro st x st' N _ _ h;simp[atom] at h
 | succ n ih =>
  intro st x st' N ht hN h;rw[atom] at h;split at h
  ·rename_i hk;cases h;refine ⟨ht.nx,rfl,fun hd=>⟨hd,?_⟩⟩
   unfold PrB leaf;rw[if_neg (by show ¬ lvl 110 < 4;decide),PrE]
   exact Or.inl ⟨rfl,ht.val hk⟩
  ·split at h
   ·rename_i hk;cases h;refine ⟨ht.nx,rfl,fun hd=>⟨hd,?_⟩⟩
    unfold PrB leaf;rw[if_neg (by show ¬ lvl 119 < 4;decide),PrE]
    exact Or.inr (Or.inr ⟨rfl,ht.wd hk⟩)
   ·split at h
    ·cases h;refine ⟨ht.nx,rfl,fun hd=>⟨hd,?_⟩⟩
     unfold PrB leaf;rw[if_neg (by show ¬ lvl 116 < 4;decide),PrE]
     exact Or.inr (Or.inl ⟨rfl,Nat.le_refl _⟩)
    ·split at h
     ·cases h;refine ⟨ht.nx,rfl,fun hd=>⟨hd,?_⟩⟩
      unfold PrB leaf;rw[if_neg (by show ¬ lvl 116 < 4;decide),PrE]
      exact Or.inr (Or.inl ⟨rfl,Nat.zero_le _⟩)
     ·split at h
      ·cases hp:atom s n (nx s st) with
       | error p=>rw[hp] at h;cases h
       | ok r =>
        obtain ⟨k,st1⟩:=r;rw[hp] at h;have o1:=ih _ _ _ N ht.nx hN hp;cases h;refine ⟨o1.tw,o1.nest,fun hd=>⟨(o1.deep hd).1,?_⟩⟩
        unfold PrB;rw[if_neg (by show ¬ lvl 33 < 4;decide),PrE]
        exact ⟨rfl,(o1.deep hd).2⟩
      ·split at h
       ·cases hp:expr s (atom s n) (nx s (dn st)) with
        | error p=>rw[hp] at h;cases h
        | ok r =>
         obtain ⟨k,st1⟩:=r;have o1:=zis ih _ _ _ (N+1) (Tw.nx (st:=dn st) ht) (by show st.nest+1=_;rw[hN];simp) hp
         rw[hp] at h;simp only at h;split at h
         ·cases h;refine ⟨o1.tw.nx,?_,fun hd=>?_⟩
          ·show st1.nest - 1=st.nest
           have:st1.nest=st.nest+1:=o1.nest
           omega
          ·obtain ⟨d1,d2⟩:=o1.deep hd;obtain ⟨d3,d4⟩:=qrw d1;refine ⟨d3,?_⟩;have hN4:N < 4:=by omega
           have hk:=d2.one;unfold PrB;split
           ·exact ⟨hN4,hk.place _⟩
           ·exact (PrE.mono k hk (by omega)).place _
         ·cases h
       ·cases h
theorem qp3 (s:ByteArray):Prs s 1 (qa4 s):=zis (zu9 s _)
def PrsX (s:ByteArray) (g:Ps→Except Nat (Sm×Ps)):Prop:=∀ st x st' (N:Nat),Tw s st.t→st.nest=(N:Int)→g st=.ok (x,st')→Ok1 s st st' (PrX x N)
theorem Ok1.trans {s:ByteArray} {a b c:Ps} {p q:Prop} (h:Ok1 s a b p) (k:Ok1 s b c q):Ok1 s a c (p∧q) :=
 ⟨k.tw,k.nest.trans h.nest,fun hd=>by
  obtain ⟨d1,d2⟩:=k.deep hd;obtain ⟨d3,d4⟩:=h.deep d1;exact ⟨d3,d4,d2⟩⟩
theorem Ok1.mono {s:ByteArray} {a b:Ps} {p q:Prop} (h:Ok1 s a b p) (k:p→q):Ok1 s a b q:=⟨h.tw,h.nest,fun hd=>⟨(h.deep hd).1,k (h.deep hd).2⟩⟩
theorem Ok1.nx {s:ByteArray} {st:Ps} (h:Tw s st.t) {p:Prop} (hp:p):Ok1 s st (Px.nx s st) p:=⟨h.nx,rfl,fun hd=>⟨hd,hp⟩⟩
theorem Ok1.same {s:ByteArray} {st:Ps} (h:Tw s st.t) {p:Prop} (hp:p):Ok1 s st st p:=⟨h,rfl,fun hd=>⟨hd,hp⟩⟩
theorem qjf {s x:ByteArray} {st st':Ps} (ht:Tw s st.t) (h:need s x st=.ok st'):Ok1 s st st' True:=by
 unfold need at h;split at h
 ·cases h;exact Ok1.nx ht trivial
 ·cases h
theorem qcr {s:ByteArray} {k:Nat} {st st':Ps} (ht:Tw s st.t) (h:kind s k st=.ok st'):Ok1 s st st' (st.t.k=k):=by
 unfold kind at h;split at h
 ·cases h;exact Ok1.nx ht (by assumption)
 ·cases h
theorem qmy {s:ByteArray} {k:Nat} {st st':Ps} (h:kind s k st=.ok st'):st.t.k=k:=by
 unfold kind at h;split at h
 ·assumption
 ·cases h
theorem qzn {s:ByteArray} {g:Ps→Except Nat (Sm×Ps)} (hg:PrsX s g) (stop:Ps→Bool) (n:Nat):∀ (l:List Sm) (st:Ps) (x:List Sm) (st':Ps) (N:Nat),Tw s st.t→st.nest=(N:Int)→stmts s g stop n l st=.ok (x,st')→Ok1 s st st' (PrS l N→PrS x N):=by
 induction n with
 | zero=>intro l st x st' N _ _ h;simp[stmts] at h
 | succ n ih =>
  intro l st x st' N ht hN h;rw[stmts] at h;split at h
  ·cases h;exact Ok1.same ht (fun h=>h)
  ·cases hp:g st with
   | error p=>rw[hp] at h;cases h
   | ok r =>
    obtain ⟨y,st1⟩:=r;rw[hp] at h;have o1:=hg _ _ _ N ht hN hp;have o2:=ih _ _ _ _ N o1.tw (by rw[o1.nest];exact hN) h
    exact (o1.trans o2).mono fun ⟨h1,h2⟩ hl=>h2 (zpn hl h1)
theorem ql7 {s:ByteArray} {g:Ps→Except Nat (Sm×Ps)} (hg:PrsX s g) {st:Ps} {x:List Sm} {st':Ps} {N:Nat} (ht:Tw s st.t) (hN:st.nest=(N:Int)) (h:block s g st=.ok (x,st')):Ok1 s st st' (N < 4∧PrS x (N+1)):=by
 unfold block at h;split at h
 ·cases hp:stmts s g (fun st=>onB s st.t ⟨#[125]⟩) (s.size+1) [] (nx s (dn st)) with
  | error p=>rw[hp] at h;cases h
  | ok r =>
   obtain ⟨l,st1⟩:=r;rw[hp] at h;have o1:=qzn hg _ _ _ _ _ _ (N+1) (Tw.nx (st:=dn st) ht) (by show st.nest+1=_;rw[hN];simp) hp
   cases h;refine ⟨o1.tw.nx,?_,fun hd=>?_⟩
   ·show st1.nest - 1=st.nest
    have:st1.nest=st.nest+1:=o1.nest
    omega
   ·obtain ⟨d1,d2⟩:=o1.deep hd;obtain ⟨d3,d4⟩:=qrw d1;exact ⟨d3,by omega,d2 (qc9 _)⟩
 ·cases h
theorem qg6 (N:Nat):PrO none N:=fun e h=>by cases h
theorem qld {e:Ex} {N:Nat} (h:PrE e N):PrO (some e) N:=fun e' h'=>by cases h';exact h
theorem ztl (s:ByteArray):PrsX s (letS s):=by
 intro st x st' N ht hN h;unfold letS at h;cases h1:kind s 119 st with
 | error p=>rw[h1] at h;cases h
 | ok st1 =>
  rw[h1] at h;simp only at h;have o1:=qcr ht h1;have w1:=ht.wd (qmy h1);cases h2:need s ⟨#[61]⟩ st1 with
  | error p=>rw[h2] at h;cases h
  | ok st2 =>
   rw[h2] at h;simp only at h;have o2:=o1.trans (qjf o1.tw h2);cases h3:qa4 s st2 with
   | error p=>rw[h3] at h;cases h
   | ok r =>
    obtain ⟨e,st3⟩:=r;rw[h3] at h;simp only at h;have o3:=o2.trans (qp3 s _ _ _ N o2.tw (by rw[o2.nest];exact hN) h3)
    cases h4:need s ⟨#[59]⟩ st3 with
    | error p=>rw[h4] at h;cases h
    | ok st4 =>
     have o4:=o3.trans (qjf o3.tw h4);rw[h4] at h;cases h;exact o4.mono fun ⟨⟨_,he⟩,_⟩=>⟨⟨qld he.one,Or.inl ⟨rfl,w1,by simp⟩⟩,qc9 _,qc9 _⟩
structure Cl (x:Sm):Prop where
 op:x.op=99
 word:WdT x.word
 asw:x.asw.size≠0→WdT x.asw
 undo:x.undo.size≠0→WdT x.undo
 n:x.n≤9999
 one:x.one=[]
 two:x.two=[]
theorem zd1 {s:ByteArray} {x:Sm} {st:Ps} {y:Sm} {st':Ps} {N:Nat} (hx:Cl x) (hxe:x.ex=none) (ht:Tw s st.t) (hN:st.nest=(N:Int)) (h:qaw s x st=.ok (y,st')):Cl y∧Ok1 s st st' (PrO y.ex N):=by
 unfold qaw at h;split at h
 ·cases h;exact ⟨hx,Ok1.same ht (by rw[hxe];exact qg6 N)⟩
 ·cases hp:qa4 s st with
  | error p=>rw[hp] at h;cases h
  | ok r =>
   obtain ⟨e,st1⟩:=r;rw[hp] at h;have o:=qp3 s _ _ _ N ht hN hp;cases h;exact ⟨⟨hx.op,hx.word,hx.asw,hx.undo,hx.n,hx.one,hx.two⟩,o.mono fun h=>qld h.one⟩
theorem zjl {s:ByteArray} {x:Sm} {st:Ps} {y:Sm} {st':Ps} (hx:Cl x) (ht:Tw s st.t) (h:qa9 s x st=.ok (y,st')):Cl y∧y.ex=x.ex∧Ok1 s st st' True:=by
 unfold qa9 at h;split at h
 ·cases hp:kind s 119 (nx s st) with
  | error p=>rw[hp] at h;cases h
  | ok st1 =>
   rw[hp] at h;have o:=(Ok1.nx ht (p:=True) trivial).trans (qcr ht.nx hp);have w:=ht.nx.wd (qmy hp);cases h;exact ⟨⟨hx.op,hx.word,fun _=>w,hx.undo,hx.n,hx.one,hx.two⟩,rfl,o.mono fun _=>trivial⟩
 ·cases h;exact ⟨hx,rfl,Ok1.same ht trivial⟩
theorem qyo {s:ByteArray} {x:Sm} {st:Ps} {y:Sm} {st':Ps} (hx:Cl x) (ht:Tw s st.t) (h:qat s x st=.ok (y,st')):Cl y∧y.ex=x.ex∧Ok1 s st st' True:=by
 unfold qat at h;split at h
 ·cases hp:kind s 119 (nx s st) with
  | error p=>rw[hp] at h;cases h
  | ok st1 =>
   rw[hp] at h;have o:=(Ok1.nx ht (p:=True) trivial).trans (qcr ht.nx hp);have w:=ht.nx.wd (qmy hp);cases h;exact ⟨⟨hx.op,hx.word,hx.asw,fun _=>w,hx.n,hx.one,hx.two⟩,rfl,o.mono fun _=>trivial⟩
 ·cases h;exact ⟨hx,rfl,Ok1.same ht trivial⟩
theorem qwr {s:ByteArray} {x:Sm} {st:Ps} {y:Sm} {st':Ps} (hx:Cl x) (ht:Tw s st.t) (h:qas s x st=.ok (y,st')):Cl y∧y.ex=x.ex∧Ok1 s st st' True:=by
 unfold qas at h;split at h
 ·cases hp:kind s 110 (nx s st) with
  | error p=>rw[hp] at h;cases h
  | ok st1 =>
   rw[hp] at h;have o:=(Ok1.nx ht (p:=True) trivial).trans (qcr ht.nx hp);have w:=ht.nx.val (qmy hp);cases h;exact ⟨⟨hx.op,hx.word,hx.asw,hx.undo,w,hx.one,hx.two⟩,rfl,o.mono fun _=>trivial⟩
 ·cases h;exact ⟨hx,rfl,Ok1.same ht trivial⟩
theorem zuy (s:ByteArray):PrsX s (call s):=by
 intro st x st' N ht hN h;unfold call at h;cases h1:kind s 119 st with
 | error p=>rw[h1] at h;cases h
 | ok st1 =>
  rw[h1] at h;simp only at h;have o1:=qcr ht h1;have w1:=ht.wd (qmy h1);cases h2:need s ⟨#[40]⟩ st1 with
  | error p=>rw[h2] at h;cases h
  | ok st2 =>
   rw[h2] at h;simp only at h;have o2:=o1.trans (qjf o1.tw h2);generalize hz:({ qa8 with op:=99,word:=txt s st.t,pl:=st.t.a,n:=1 }:Sm)=x2 at h
   have z0:Cl x2∧x2.ex=none:=by
    rw[← hz];exact ⟨⟨rfl,w1,fun h=>absurd rfl h,fun h=>absurd rfl h,by show 1≤9999;decide,rfl,rfl⟩,rfl⟩
   cases h3:qaw s x2 st2 with
   | error p=>rw[h3] at h;cases h
   | ok r =>
    obtain ⟨x3,st3⟩:=r;rw[h3] at h;simp only at h;obtain ⟨z3,p3⟩:=zd1 (N:=N) z0.1 z0.2 o2.tw (by rw[o2.nest];exact hN) h3
    have o3:=o2.trans p3;cases h4:need s ⟨#[41]⟩ st3 with
    | error p=>rw[h4] at h;cases h
    | ok st4 =>
     rw[h4] at h;simp only at h;have o4:=o3.trans (qjf o3.tw h4);cases h5:qa9 s x3 st4 with
     | error p=>rw[h5] at h;cases h
     | ok r5 =>
      obtain ⟨x5,st5⟩:=r5;rw[h5] at h;simp only at h;obtain ⟨z5,e5,p5⟩:=zjl z3 o4.tw h5;have o5:=o4.trans p5;cases h6:qat s x5 st5 with
      | error p=>rw[h6] at h;cases h
      | ok r6 =>
       obtain ⟨x6,st6⟩:=r6;rw[h6] at h;simp only at h;obtain ⟨z6,e6,p6⟩:=qyo z5 o5.tw h6;have o6:=o5.trans p6;cases h7:qas s x6 st6 with
       | error p=>rw[h7] at h;cases h
       | ok r7 =>
        obtain ⟨x7,st7⟩:=r7;rw[h7] at h;simp only at h;obtain ⟨z7,e7,p7⟩:=qwr z6 o6.tw h7;have o7:=o6.trans p7;cases h8:need s ⟨#[59]⟩ st7 with
        | error p=>rw[h8] at h;cases h
        | ok st8 =>
         have o8:=o7.trans (qjf o7.tw h8);rw[h8] at h;cases h;refine o8.mono fun hh=>?_
         have he:=hh.1.1.1.1.1.2;refine ⟨⟨by rw[e7,e6,e5];exact he,Or.inr (Or.inl ⟨z7.op,z7.word,z7.asw,z7.undo,z7.n⟩)⟩,by rw[z7.one];exact qc9 _,by rw[z7.two];exact qc9 _⟩
theorem zxi {s:ByteArray} {g:Ps→Except Nat (Sm×Ps)} (hg:PrsX s g):PrsX s (ifS s g):=by
 intro st x st' N ht hN h;unfold ifS at h;cases h1:qa4 s st with
 | error p=>rw[h1] at h;cases h
 | ok r =>
  obtain ⟨e,st1⟩:=r;rw[h1] at h;simp only at h;have o1:=qp3 s _ _ _ N ht hN h1;cases h2:block s g st1 with
  | error p=>rw[h2] at h;cases h
  | ok r =>
   obtain ⟨l,st2⟩:=r;rw[h2] at h;simp only at h;have o2:=o1.trans (ql7 hg o1.tw (by rw[o1.nest];exact hN) h2)
   split at h
   ·have o3:=o2.trans (Ok1.nx o2.tw (p:=True) trivial);cases h4:block s g (nx s st2) with
    | error p=>rw[h4] at h;cases h
    | ok r =>
     obtain ⟨m,st3⟩:=r;have o4:=o3.trans (ql7 (N:=N) hg o3.tw (by rw[o3.nest];exact hN) h4)
     rw[h4] at h;cases h;exact o4.mono fun ⟨⟨⟨he,h4,hl⟩,_⟩,_,hm⟩=>⟨⟨qld he.one,Or.inr (Or.inr (Or.inl ⟨rfl,by simp,h4⟩))⟩,hl,hm⟩
   ·cases h;exact o2.mono fun ⟨he,h4,hl⟩=>⟨⟨qld he.one,Or.inr (Or.inr (Or.inl ⟨rfl,by simp,h4⟩))⟩,hl,qc9 _⟩
theorem zrg {s:ByteArray} {g:Ps→Except Nat (Sm×Ps)} (hg:PrsX s g):PrsX s (tryS s g):=by
 intro st x st' N ht hN h;unfold tryS at h;cases h1:block s g st with
 | error p=>rw[h1] at h;cases h
 | ok r =>
  obtain ⟨l,st1⟩:=r;rw[h1] at h;simp only at h;have o1:=ql7 hg ht hN h1;cases h2:need s ⟨#[101,108,115,101]⟩ st1 with
  | error p=>rw[h2] at h;cases h
  | ok st2 =>
   rw[h2] at h;simp only at h;have o2:=o1.trans (qjf o1.tw h2);cases h3:block s g st2 with
   | error p=>rw[h3] at h;cases h
   | ok r =>
    obtain ⟨m,st3⟩:=r;have o3:=o2.trans (ql7 (N:=N) hg o2.tw (by rw[o2.nest];exact hN) h3)
    rw[h3] at h;cases h;exact o3.mono fun ⟨⟨⟨h4,hl⟩,_⟩,_,hm⟩=>⟨⟨qg6 N,Or.inr (Or.inr (Or.inr (Or.inl ⟨rfl,h4⟩)))⟩,hl,hm⟩
theorem zco {s:ByteArray} {g:Ps→Except Nat (Sm×Ps)} (hg:PrsX s g):PrsX s (qbu s g):=by
 intro st x st' N ht hN h;unfold qbu at h;cases h1:kind s 110 st with
 | error p=>rw[h1] at h;cases h
 | ok st1 =>
  rw[h1] at h;simp only at h;have o1:=qcr ht h1;have v1:=ht.val (qmy h1);cases h2:block s g st1 with
  | error p=>rw[h2] at h;cases h
  | ok r =>
   obtain ⟨m,st3⟩:=r;have o2:=o1.trans (ql7 (N:=N) hg o1.tw (by rw[o1.nest];exact hN) h2)
   rw[h2] at h;cases h;exact o2.mono fun ⟨_,h4,hm⟩=>⟨⟨qg6 N,Or.inr (Or.inr (Or.inr (Or.inr (Or.inl ⟨rfl,h4,v1⟩))))⟩,hm,qc9 _⟩
theorem zrr (s:ByteArray) (n:Nat):PrsX s (stmt s n):=by
 induction n with
 | zero=>intro st x st' N _ _ h;simp[stmt] at h
 | succ n ih =>
  intro st x st' N ht hN h;have one:∀ g:Ps→Except Nat (Sm×Ps),PrsX s g→g (nx s st)=.ok (x,st')→Ok1 s st st' (PrX x N):=fun g hg h =>
   ((Ok1.nx ht (p:=True) trivial).trans (hg _ _ _ N ht.nx hN h)).mono fun h=>h.2
  rw[stmt] at h;split at h
  ·exact one _ (ztl s) h
  ·split at h
   ·exact one _ (zuy s) h
   ·split at h
    ·exact one _ (zxi ih) h
    ·split at h
     ·exact one _ (zrg ih) h
     ·split at h
      ·exact one _ (zco ih) h
      ·unfold qig at h;cases h1:need s ⟨#[102,97,105,108]⟩ st with
       | error p=>rw[h1] at h;cases h
       | ok st1 =>
        rw[h1] at h;simp only at h;have o1:=qjf ht h1;cases h2:need s ⟨#[59]⟩ st1 with
        | error p=>rw[h2] at h;cases h
        | ok st2 =>
         have o2:=o1.trans (qjf o1.tw h2);rw[h2] at h;cases h;exact o2.mono fun _=>⟨⟨qg6 N,Or.inr (Or.inr (Or.inr (Or.inr (Or.inr rfl))))⟩,qc9 _,qc9 _⟩
theorem qpe {s:ByteArray} {l:List Sm} (h:read s=.ok l):PrS l 0:=by
 unfold read at h;split at h
 ·cases h
 ·cases hp:stmts s (stmt s (s.size+1)) (fun st=>st.t.k == 0) (s.size+1) [] ⟨tok s 0,0,-1⟩ with
  | error p=>rw[hp] at h;cases h
  | ok r =>
   obtain ⟨l',st⟩:=r;rw[hp] at h;simp only at h;split at h
   ·cases h
   ·rename_i hd;cases h;have o:=qzn (zrr s _) _ _ _ _ _ _ 0 ⟨(qfv s 0 (Nat.zero_le _)).1,0,Nat.zero_le _,rfl⟩ rfl hp;exact (o.deep (by omega)).2 (qc9 _)
structure Sat (s:ByteArray) (st:Ps) (ts:List (List UInt8)):Prop where
 hd:match ts with
  | []=>st.t.k=0
  | t::r=>st.t.k=kT t∧txt s st.t=⟨t.toArray⟩∧AtT s st.t.b r
 len:ts.length≤s.size
theorem zp4 {s:ByteArray} {i:Nat} {ts:List (List UInt8)} (h:AtT s i ts) (hl:ts.length≤s.size) (n d:Int):Sat s ⟨tok s i,n,d⟩ ts:=by
 cases ts with
 | nil=>exact ⟨h,hl⟩
 | cons t r=>exact ⟨h,hl⟩
theorem Sat.nx {s:ByteArray} {st:Ps} {t:List UInt8} {r:List (List UInt8)} (h:Sat s st (t::r)):Sat s (Px.nx s st) r:=by
 have hl:=h.len;simp at hl;exact zp4 h.hd.2.2 (by omega) _ _
theorem Sat.turn {s:ByteArray} {st st':Ps} {ts:List (List UInt8)} (h:Sat s st ts) (e:st'.t=st.t):Sat s st' ts:=by
 obtain ⟨hd,hl⟩:=h;rw[← e] at hd;exact ⟨hd,hl⟩
theorem Sat.on {s:ByteArray} {st:Ps} {t:List UInt8} {r:List (List UInt8)} (h:Sat s st (t::r)) (x:List UInt8):onB s st.t ⟨x.toArray⟩=(decide (kT t=107) && decide (t=x)):=by
 have e:(s.extract st.t.a st.t.b).toList=t:=by
  have h1:s.extract st.t.a st.t.b=⟨t.toArray⟩:=h.hd.2.1;rw[h1,ByteArray.toList_eq]
 have e2:(⟨x.toArray⟩:ByteArray).toList=x:=by rw[ByteArray.toList_eq]
 unfold onB;rw[e,e2,h.hd.1,Bool.eq_iff_iff];simp
theorem Sat.off {s:ByteArray} {st:Ps} (h:Sat s st []) (x:ByteArray):onB s st.t x=false:=by
 unfold onB;rw[show st.t.k=0 from h.hd]
 all_goals rfl
def NoOp (k:Nat) (ts:List (List UInt8)):Prop:=∀ t r,ts=t::r→∀ op,OpN op→t=[UInt8.ofNat op]→lvl op < k
theorem NoOp.low {k j:Nat} {ts:List (List UInt8)} (h:NoOp k ts) (hj:k≤j):NoOp j ts:=fun t r e op ho ht=>Nat.lt_of_lt_of_le (h t r e op ho ht) hj
theorem qvv {k:Nat} {t:List UInt8} {r:List (List UInt8)} (h:∀ op,OpN op→t≠[UInt8.ofNat op]):NoOp k (t::r):=fun t' r' e op ho ht=>by cases e;exact absurd ht (h op ho)
theorem qx4 {k op:Nat} {r:List (List UInt8)} (h:OpN op) (hl:lvl op < k):NoOp k ([UInt8.ofNat op]::r):=fun t r e o ho ht=>by
 cases e;simp at ht
 have:op=o:=by
  rcases h with rfl | rfl | rfl | rfl | rfl | rfl | rfl<;>rcases ho with rfl | rfl | rfl | rfl | rfl | rfl | rfl<;>first | rfl | exact absurd ht (by decide)
 rw[← this];exact hl
theorem Sat.no {s:ByteArray} {st:Ps} {ts:List (List UInt8)} {k:Nat} (h:Sat s st ts) (hn:NoOp k ts) {op:Nat} (ho:OpN op) (hl:k≤lvl op):onB s st.t ⟨#[UInt8.ofNat op]⟩=false:=by
 cases ts with
 | nil=>exact h.off _
 | cons t r =>
  rw[show (⟨#[UInt8.ofNat op]⟩:ByteArray)=⟨[UInt8.ofNat op].toArray⟩ from rfl,h.on]
  have:¬ t=[UInt8.ofNat op]:=fun e=>by have:=hn t r rfl op ho e;omega
  simp[this]
def Got (s:ByteArray) (r:List (List UInt8)) (st:Ps) (x:Ex) (o:Except Nat (Ex×Ps)):Prop:=∃ x' st',o=.ok (x',st')∧erE x'=erE x∧Sat s st' r∧st'.nest=st.nest∧st'.deep=st.deep
def Mid (s:ByteArray) (g:Ps→Except Nat (Ex×Ps)) (a b:UInt8) (r:List (List UInt8)) (st:Ps) (x:Ex) (o:Except Nat (Ex×Ps)):Prop:=∃ m x' st',o=chain s g a b m st.t.a x' st'∧r.length < m∧erE x'=erE x∧Sat s st' r∧st'.nest=st.nest∧st'.deep=st.deep
theorem Got.row {s:ByteArray} {g:Ps→Except Nat (Ex×Ps)} {r:List (List UInt8)} {st:Ps} {x:Ex} (h:Got s r st x (g st)) (a b:UInt8):Mid s g a b r st x (row s g a b st):=by
 obtain ⟨x',st',e,h1,h2,h3,h4⟩:=h;refine ⟨s.size+1,x',st',?_,by have:=h2.len;omega,h1,h2,h3,h4⟩
 unfold Px.row;rw[e]
theorem Mid.stop {s:ByteArray} {g:Ps→Except Nat (Ex×Ps)} {a b:Nat} {r:List (List UInt8)} {st:Ps} {x:Ex} {o:Except Nat (Ex×Ps)} (h:Mid s g (UInt8.ofNat a) (UInt8.ofNat b) r st x o) {k:Nat} (ha:OpN a∧k≤lvl a) (hb:OpN b∧k≤lvl b) (hn:NoOp k r):Got s r st x o:=by
 obtain ⟨m,x',st',e,h0,h1,h2,h3,h4⟩:=h;refine ⟨x',st',?_,h1,h2,h3,h4⟩;obtain ⟨m,rfl⟩:∃ k,m=k+1:=⟨m - 1,by omega⟩
 rw[e,chain,h2.no hn ha.1 ha.2,h2.no hn hb.1 hb.2]
 all_goals rfl
theorem qjd {op:Nat} (h:OpN op):(UInt8.ofNat op).toNat=op:=by
 rcases h with rfl | rfl | rfl | rfl | rfl | rfl | rfl<;>decide
theorem zsy {op o:Nat} (h:OpN op) (ho:OpN o) (e:UInt8.ofNat op=UInt8.ofNat o):op=o:=by rw[← qjd h,e,qjd ho]
theorem Mid.more {s:ByteArray} {g:Ps→Except Nat (Ex×Ps)} {a b op:Nat} {r t:List (List UInt8)} {st:Ps} {l y:Ex} {o:Except Nat (Ex×Ps)} (h:Mid s g (UInt8.ofNat a) (UInt8.ofNat b) ([UInt8.ofNat op]::t) st l o) (ha:OpN a) (hb:OpN b) (hop:op=a∨op=b)
  (hy:∀ st1,Sat s st1 t→st1.nest=st.nest→st1.deep=st.deep→Got s r st1 y (g st1)) (hlt:r.length≤t.length) (n:Nat) (w:ByteArray) (pl own:Nat):Mid s g (UInt8.ofNat a) (UInt8.ofNat b) r st ⟨op,n,w,pl,own,some l,some y⟩ o:=by
 obtain ⟨m,x',st',e,h0,h1,h2,h3,h4⟩:=h;have ho:OpN op:=by rcases hop with rfl | rfl;exact ha;exact hb
 obtain ⟨y',st2,g1,g2,g3,g4,g5⟩:=hy (Px.nx s st') h2.nx h3 h4;have hk:=ho.t.2;obtain ⟨m,rfl⟩:∃ k,m=k+1:=⟨m - 1,by omega⟩
 simp at h0;refine ⟨m,⟨op,0,nowt,st.t.a,st'.t.a,some x',some y'⟩,st2,?_,by omega,by rw[erE,erE,h1,g2],g3,by rw[g4];exact h3,by rw[g5];exact h4⟩
 have on:∀ c,OpN c→onB s st'.t ⟨#[UInt8.ofNat c]⟩=decide (op=c):=fun c hc=>by
  rw[show (⟨#[UInt8.ofNat c]⟩:ByteArray)=⟨[UInt8.ofNat c].toArray⟩ from rfl,h2.on,hk];by_cases hoc:op=c
  ·subst hoc;simp
  ·have:¬ UInt8.ofNat op=UInt8.ofNat c:=fun e=>hoc (zsy ho hc e)
   simp[hoc,this]
 rw[e,chain,on a ha,on b hb,g1];rcases hop with rfl | rfl
 ·simp[qjd ho]
 ·by_cases hab:op=a
  ·subst hab;simp[qjd ho]
  ·simp[hab,qjd ho]
structure Par (s:ByteArray) (x:Ex):Prop where
 e:∀ (N n:Nat) (r:List (List UInt8)) (st:Ps),PrE x N→st.nest=(N:Int)→Sat s st (tkE x++r)→NoOp 1 r→(tkE x++r).length < n→Got s r st x (expr s (atom s n) st)
 a:4≤lvl x.op→∀ (N n:Nat) (r:List (List UInt8)) (st:Ps),PrE x N→st.nest=(N:Int)→Sat s st (tkE x++r)→(tkE x++r).length < n→Got s r st x (atom s n st)
 t:3≤lvl x.op→∀ (N n:Nat) (r:List (List UInt8)) (st:Ps),PrE x N→st.nest=(N:Int)→Sat s st (tkE x++r)→(tkE x++r).length < n→Mid s (atom s n) 42 47 r st x (term s (atom s n) st)
 u:2≤lvl x.op→∀ (N n:Nat) (r:List (List UInt8)) (st:Ps),PrE x N→st.nest=(N:Int)→Sat s st (tkE x++r)→NoOp 3 r→(tkE x++r).length < n→Mid s (term s (atom s n)) 43 45 r st x (sum s (atom s n) st)
theorem zmr (r:List (List UInt8)) (k:Nat):NoOp k ([41]::r):=qvv fun op ho e=>by
 rcases ho with rfl | rfl | rfl | rfl | rfl | rfl | rfl<;>exact absurd e (by decide)
theorem Par.brk {s:ByteArray} {x:Ex} (h:Par s x) {N n:Nat} {r:List (List UInt8)} {st:Ps} (hp:N < 4∧PrE x (N+1)) (hN:st.nest=(N:Int)) (hs:Sat s st ([40]::(tkE x++[[41]]++r))) (hn:(([40]:List UInt8)::(tkE x++[[41]]++r)).length < n):Got s r st x (atom s n st):=by
 obtain ⟨n,rfl⟩:∃ k,n=k+1:=⟨n - 1,by omega⟩
 have hk:kT [40]=107:=by decide
 have hs1:Sat s (Px.nx s (dn st)) (tkE x++([41]::r)):=by
  have h1:Sat s (dn st) ([40]::(tkE x++[[41]]++r)):=hs.turn rfl
  have:=h1.nx
  rwa [List.append_assoc] at this
 obtain ⟨x',st',e1,e2,e3,e4,e5⟩:=h.e (N+1) n ([41]::r) (Px.nx s (dn st)) hp.2 (by show st.nest+1=_;rw[hN];simp) hs1 (zmr r 1) (by simp at hn ⊢;omega)
 refine ⟨{ x' with pl:=st.t.a },upp (Px.nx s st'),?_,by rw[zi0];exact e2,e3.nx.turn rfl,?_,?_⟩
 ·rw[atom,if_neg (by rw[hs.hd.1,hk];decide),if_neg (by rw[hs.hd.1,hk];decide),hs.on [116,114,117,101],hs.on [102,97,108,115,101],hs.on [110,111,116],hs.on [40],e1]
  simp only[hk,decide_true,Bool.true_and];rw[if_neg (by decide),if_neg (by decide),if_neg (by decide),if_pos (by decide),show onB s st'.t ⟨#[41]⟩=true by rw[show (⟨#[41]⟩:ByteArray)=⟨[41].toArray⟩ from rfl,e3.on];decide]
  rfl
 ·show st'.nest - 1=st.nest
  rw[e4];show st.nest+1 - 1=st.nest
  omega
 ·show st'.deep=st.deep
  rw[e5];show qdg st.nest st.deep st.t.a=st.deep
  unfold qdg;rw[if_neg (by rw[hN];omega)]
theorem Par.zx7 {s:ByteArray} {x:Ex} (h:Par s x) {N n:Nat} {r:List (List UInt8)} {st:Ps} (hp:PrB 4 N x) (hN:st.nest=(N:Int)) (hs:Sat s st (brkT (decide (lvl x.op < 4)) (tkE x)++r)) (hn:(brkT (decide (lvl x.op < 4)) (tkE x)++r).length < n):Got s r st x (atom s n st):=by
 unfold PrB at hp;unfold brkT at hs hn;by_cases hl:lvl x.op < 4
 ·rw[if_pos hl] at hp;rw[if_pos (decide_eq_true hl)] at hs hn;exact h.brk hp hN hs hn
 ·rw[if_neg hl] at hp;rw[if_neg (by simpa using hl)] at hs hn
  exact h.a (by omega) N n r st hp hN hs hn
theorem Par.zwb {s:ByteArray} {x:Ex} (h:Par s x) {N n:Nat} {r:List (List UInt8)} {st:Ps} (hp:PrB 3 N x) (hN:st.nest=(N:Int)) (hs:Sat s st (brkT (decide (lvl x.op < 3)) (tkE x)++r)) (hn:(brkT (decide (lvl x.op < 3)) (tkE x)++r).length < n):Mid s (atom s n) 42 47 r st x (term s (atom s n) st):=by
 unfold PrB at hp;unfold brkT at hs hn;by_cases hl:lvl x.op < 3
 ·rw[if_pos hl] at hp;rw[if_pos (decide_eq_true hl)] at hs hn;exact (h.brk hp hN hs hn).row _ _
 ·rw[if_neg hl] at hp;rw[if_neg (by simpa using hl)] at hs hn
  exact h.t (by omega) N n r st hp hN hs hn
theorem Mid.zb5 {s:ByteArray} {g:Ps→Except Nat (Ex×Ps)} {r:List (List UInt8)} {st:Ps} {x:Ex} {o:Except Nat (Ex×Ps)} (h:Mid s g 42 47 r st x o) (hn:NoOp 3 r):Got s r st x o:=Mid.stop (a:=42) (b:=47) (k:=3) h ⟨by unfold OpN;decide,by decide⟩ ⟨by unfold OpN;decide,by decide⟩ hn
theorem Mid.ze2 {s:ByteArray} {g:Ps→Except Nat (Ex×Ps)} {r:List (List UInt8)} {st:Ps} {x:Ex} {o:Except Nat (Ex×Ps)} (h:Mid s g 43 45 r st x o) (hn:NoOp 2 r):Got s r st x o:=Mid.stop (a:=43) (b:=45) (k:=2) h ⟨by unfold OpN;decide,by decide⟩ ⟨by unfold OpN;decide,by decide⟩ hn
theorem Par.sumB {s:ByteArray} {x:Ex} (h:Par s x) {N n:Nat} {r:List (List UInt8)} {st:Ps} (hp:PrB 2 N x) (hN:st.nest=(N:Int)) (hs:Sat s st (brkT (decide (lvl x.op < 2)) (tkE x)++r)) (hr:NoOp 3 r) (hn:(brkT (decide (lvl x.op < 2)) (tkE x)++r).length < n):Mid s (term s (atom s n)) 43 45 r st x (sum s (atom s n) st):=by
 unfold PrB at hp;unfold brkT at hs hn;by_cases hl:lvl x.op < 2
 ·rw[if_pos hl] at hp;rw[if_pos (decide_eq_true hl)] at hs hn;exact (((h.brk hp hN hs hn).row 42 47).zb5 hr).row _ _
 ·rw[if_neg hl] at hp;rw[if_neg (by simpa using hl)] at hs hn
  exact h.u (by omega) N n r st hp hN hs hr hn
theorem qz3 {s:ByteArray} {x:Ex} (_:lvl x.op=4) (ha:∀ (N n:Nat) (r:List (List UInt8)) (st:Ps),PrE x N→st.nest=(N:Int)→Sat s st (tkE x++r)→(tkE x++r).length < n→Got s r st x (atom s n st)):Par s x:=by
 have cmpN:∀ {st:Ps} {r:List (List UInt8)},Sat s st r→NoOp 1 r→qec s st.t=none:=fun {st r} hs hn=>by
  unfold qec;rw[show (⟨#[60]⟩:ByteArray)=⟨#[UInt8.ofNat 60]⟩ from rfl,show (⟨#[61]⟩:ByteArray)=⟨#[UInt8.ofNat 61]⟩ from rfl,show (⟨#[35]⟩:ByteArray)=⟨#[UInt8.ofNat 35]⟩ from rfl,hs.no hn (by unfold OpN;decide) (by decide),hs.no hn (by unfold OpN;decide) (by decide),hs.no hn (by unfold OpN;decide) (by decide)]
  rfl
 refine ⟨fun N n r st hp hN hs hr hn=>?_,fun _=>ha,fun _ N n r st hp hN hs hn=>(ha N n r st hp hN hs hn).row _ _,fun _ N n r st hp hN hs hr hn=>(((ha N n r st hp hN hs hn).row 42 47).zb5 hr).row _ _⟩
 obtain ⟨x',st',e1,e2,e3,e4,e5⟩:=((((ha N n r st hp hN hs hn).row 42 47).zb5 (hr.low (by decide))).row 43 45).ze2 (hr.low (by decide))
 refine ⟨x',st',?_,e2,e3,e4,e5⟩;unfold expr;rw[show sum s (atom s n) st=_ from e1];simp only;rw[cmpN e3 hr]
theorem ql2 {s:ByteArray} {st:Ps} {r:List (List UInt8)} (hs:Sat s st r) (hn:NoOp 1 r):qec s st.t=none:=by
 unfold qec;rw[show (⟨#[60]⟩:ByteArray)=⟨#[UInt8.ofNat 60]⟩ from rfl,show (⟨#[61]⟩:ByteArray)=⟨#[UInt8.ofNat 61]⟩ from rfl,show (⟨#[35]⟩:ByteArray)=⟨#[UInt8.ofNat 35]⟩ from rfl,hs.no hn (by unfold OpN;decide) (by decide),hs.no hn (by unfold OpN;decide) (by decide),hs.no hn (by unfold OpN;decide) (by decide)]
 rfl
theorem qoh {s:ByteArray} {st:Ps} {r:List (List UInt8)} {op:Nat} (h:op=60∨op=61∨op=35) (hs:Sat s st ([UInt8.ofNat op]::r)):qec s st.t=some op:=by
 unfold qec;rw[hs.on [60],hs.on [61],hs.on [35]];rcases h with rfl | rfl | rfl<;>rfl
theorem za0 {s:ByteArray} {n:Nat} {r:List (List UInt8)} {st:Ps} {x:Ex} (h:Got s r st x (sum s (atom s n) st)) (hr:NoOp 1 r):Got s r st x (expr s (atom s n) st):=by
 obtain ⟨x',st',e1,e2,e3,e4,e5⟩:=h;refine ⟨x',st',?_,e2,e3,e4,e5⟩;unfold expr;rw[e1];simp only;rw[ql2 e3 hr]
theorem zl6 {s:ByteArray} {x:Ex} (h3:lvl x.op=3) (ht:∀ (N n:Nat) (r:List (List UInt8)) (st:Ps),PrE x N→st.nest=(N:Int)→Sat s st (tkE x++r)→(tkE x++r).length < n→Mid s (atom s n) 42 47 r st x (term s (atom s n) st)):Par s x :=
 ⟨fun N n r st hp hN hs hr hn=>za0 ((((ht N n r st hp hN hs hn).zb5 (hr.low (by decide))).row 43 45).ze2 (hr.low (by decide))) hr,fun h=>absurd h (by omega),fun _=>ht,fun _ N n r st hp hN hs hr hn=>((ht N n r st hp hN hs hn).zb5 hr).row _ _⟩
theorem zsi {s:ByteArray} {x:Ex} (h2:lvl x.op=2) (hu:∀ (N n:Nat) (r:List (List UInt8)) (st:Ps),PrE x N→st.nest=(N:Int)→Sat s st (tkE x++r)→NoOp 3 r→(tkE x++r).length < n→Mid s (term s (atom s n)) 43 45 r st x (sum s (atom s n) st)):Par s x :=
 ⟨fun N n r st hp hN hs hr hn=>za0 ((hu N n r st hp hN hs (hr.low (by decide)) hn).ze2 (hr.low (by decide))) hr,fun h=>absurd h (by omega),fun h=>absurd h (by omega),fun _=>hu⟩
theorem qxu {s:ByteArray} {x:Ex} (h:∀ N,¬ PrE x N):Par s x :=
 ⟨fun N _ _ _ hp=>absurd hp (h N),fun _ N _ _ _ hp=>absurd hp (h N),fun _ N _ _ _ hp=>absurd hp (h N),fun _ N _ _ _ hp=>absurd hp (h N)⟩
theorem toList_mk (t:List UInt8):(⟨t.toArray⟩:ByteArray).toList=t:=by rw[ByteArray.toList_eq]
theorem qvx (w:ByteArray):(⟨w.data.toList.toArray⟩:ByteArray)=w:=by cases w;simp
theorem znl (s:ByteArray) (op n:Nat) (word:ByteArray) (pl own:Nat) (o:Option Ex):Par s ⟨op,n,word,pl,own,none,o⟩:=by
 by_cases hop:op=110∨op=116∨op=119
 ·refine qz3 (by show lvl op=4;rcases hop with rfl | rfl | rfl<;>decide) fun N m r st hp hN hs hm=>?_
  rw[tkE] at hs hm;rw[PrE] at hp;simp only[List.cons_append,List.nil_append] at hs hm;obtain ⟨m,rfl⟩:∃ k,m=k+1:=⟨m - 1,by omega⟩
  rcases hp with ⟨rfl,hp⟩ | ⟨rfl,hp⟩ | ⟨rfl,hp⟩
  ·have e:qpp 110 n word=dec n:=if_pos rfl;rw[e] at hs;refine ⟨leaf 110 n nowt st.t.a,nx s st,?_,by unfold leaf;rw[erE,erE]<;>rfl,hs.nx,rfl,rfl⟩
   have hx:txt s st.t=⟨(dec n).toArray⟩:=hs.hd.2.1;rw[atom,if_pos (by rw[hs.hd.1,zus]),hx,toList_mk,(qp9 n).2.2]
  ·have hn:n=0∨n=1:=by omega
   rcases hn with rfl | rfl
   ·have e:qpp 116 0 word=[102,97,108,115,101]:=by unfold qpp;rw[if_neg (by decide),if_pos rfl,if_neg (by decide)]
    rw[e] at hs;have hk:kT [102,97,108,115,101]=107:=by decide
    refine ⟨leaf 116 0 nowt st.t.a,nx s st,?_,by unfold leaf;rw[erE,erE]<;>rfl,hs.nx,rfl,rfl⟩
    rw[atom,if_neg (by rw[hs.hd.1,hk];decide),if_neg (by rw[hs.hd.1,hk];decide),hs.on [116,114,117,101],hs.on [102,97,108,115,101]]
    rfl
   ·have e:qpp 116 1 word=[116,114,117,101]:=by unfold qpp;rw[if_neg (by decide),if_pos rfl,if_pos rfl]
    rw[e] at hs;have hk:kT [116,114,117,101]=107:=by decide
    refine ⟨leaf 116 1 nowt st.t.a,nx s st,?_,by unfold leaf;rw[erE,erE]<;>rfl,hs.nx,rfl,rfl⟩
    rw[atom,if_neg (by rw[hs.hd.1,hk];decide),if_neg (by rw[hs.hd.1,hk];decide),hs.on [116,114,117,101]]
    rfl
  ·have e:qpp 119 n word=word.data.toList:=by unfold qpp;rw[if_neg (by decide),if_neg (by decide)]
   rw[e] at hs;have hx:txt s st.t=⟨word.data.toList.toArray⟩:=hs.hd.2.1;rw[qvx] at hx;refine ⟨leaf 119 0 word st.t.a,nx s st,?_,by unfold leaf;rw[erE,erE]<;>rfl,hs.nx,rfl,rfl⟩
   rw[atom,if_neg (by rw[hs.hd.1,hp.k];decide),if_pos (by rw[hs.hd.1,hp.k]),hx]
 ·refine qxu fun N hp=>?_
  rw[PrE] at hp;rcases hp with ⟨h,_⟩ | ⟨h,_⟩ | ⟨h,_⟩
  ·exact hop (Or.inl h)
  ·exact hop (Or.inr (Or.inl h))
  ·exact hop (Or.inr (Or.inr h))
theorem zs1 {s:ByteArray} (op n:Nat) (word:ByteArray) (pl own:Nat) {l:Ex} (hl:Par s l):Par s ⟨op,n,word,pl,own,some l,none⟩:=by
 by_cases hop:op=33
 ·subst hop;refine qz3 (by show lvl 33=4;decide) fun N m r st hp hN hs hm=>?_
  rw[tkE] at hs hm;rw[PrE] at hp;simp only[List.cons_append] at hs hm;obtain ⟨m,rfl⟩:∃ k,m=k+1:=⟨m - 1,by omega⟩
  obtain ⟨x',st',e1,e2,e3,e4,e5⟩:=hl.zx7 (N:=N) (n:=m) (r:=r) (st:=nx s st) hp.2 hN hs.nx (by simp at hm ⊢;omega)
  have hk:kT [110,111,116]=107:=by decide
  refine ⟨⟨33,0,nowt,st.t.a,st.t.a,some x',none⟩,st',?_,by rw[erE,erE,e2],e3,e4,e5⟩
  rw[atom,if_neg (by rw[hs.hd.1,hk];decide),if_neg (by rw[hs.hd.1,hk];decide),hs.on [116,114,117,101],hs.on [102,97,108,115,101],hs.on [110,111,116],e1]
  rfl
 ·refine qxu fun N hp=>?_
  rw[PrE] at hp;exact hop hp.1
theorem zu7 {s:ByteArray} (op n:Nat) (word:ByteArray) (pl own:Nat) {l r:Ex} (hl:Par s l) (hr:Par s r):Par s ⟨op,n,word,pl,own,some l,some r⟩:=by
 by_cases hop:OpN op
 ·have hc:(op=42∨op=47)∨(op=43∨op=45)∨(op=60∨op=61∨op=35):=by unfold OpN at hop;omega
  rcases hc with hc | hc | hc
  ·have h3:lvl op=3∧lft op=3:=by rcases hc with rfl | rfl<;>decide
   refine zl6 h3.1 fun N m q st hp hN hs hm=>?_
   rw[tkE,h3.1,h3.2] at hs hm;rw[PrE,h3.1,h3.2] at hp;rw[List.append_assoc,List.cons_append] at hs hm;have q1:=hl.zwb (N:=N) (n:=m) hp.2.1 hN hs hm;refine q1.more (a:=42) (b:=47) (by unfold OpN;decide) (by unfold OpN;decide) hc (fun st1 hs1 hn1 _=>hr.zx7 (N:=N) hp.2.2 (by rw[hn1];exact hN) hs1 ?_) (by simp) n word pl own
   simp at hm ⊢;omega
  ·have h3:lvl op=2∧lft op=2:=by rcases hc with rfl | rfl<;>decide
   refine zsi h3.1 fun N m q st hp hN hs hq hm=>?_
   rw[tkE,h3.1,h3.2] at hs hm;rw[PrE,h3.1,h3.2] at hp;rw[List.append_assoc,List.cons_append] at hs hm;have q1:=hl.sumB (N:=N) (n:=m) hp.2.1 hN hs (qx4 hop (by omega)) hm
   refine q1.more (a:=43) (b:=45) (by unfold OpN;decide) (by unfold OpN;decide) hc (fun st1 hs1 hn1 _=>(hr.zwb (N:=N) hp.2.2 (by rw[hn1];exact hN) hs1 ?_).zb5 hq) (by simp) n word pl own
   simp at hm ⊢;omega
  ·have h3:lvl op=1∧lft op=2:=by rcases hc with rfl | rfl | rfl<;>decide
   refine ⟨fun N m q st hp hN hs hq hm=>?_,fun h=>absurd h (by show ¬ 4≤lvl op;omega),fun h=>absurd h (by show ¬ 3≤lvl op;omega),fun h=>absurd h (by show ¬ 2≤lvl op;omega)⟩
   rw[tkE,h3.1,h3.2] at hs hm;rw[PrE,h3.1,h3.2] at hp;rw[List.append_assoc,List.cons_append] at hs hm;obtain ⟨x',st',e1,e2,e3,e4,e5⟩:=(hl.sumB (N:=N) (n:=m) hp.2.1 hN hs (qx4 hop (by omega)) hm).ze2 (qx4 hop (by omega))
   obtain ⟨y',st2,d1,d2,d3,d4,d5⟩:=(hr.sumB (N:=N) (n:=m) (st:=nx s st') hp.2.2 (by show st'.nest=_;rw[e4];exact hN) e3.nx (hq.low (by decide)) (by simp at hm ⊢;omega)).ze2 (hq.low (by decide))
   refine ⟨⟨op,0,nowt,st.t.a,st'.t.a,some x',some y'⟩,st2,?_,by rw[erE,erE,e2,d2],d3,by rw[d4];exact e4,by rw[d5];exact e5⟩
   unfold expr;rw[e1];simp only;rw[qoh hc e3];simp only;rw[d1]
 ·refine qxu fun N hp=>?_
  rw[PrE] at hp;exact hop hp.1
theorem qs0 (s:ByteArray) (x:Ex):Par s x:=by
 match x with
 | ⟨op,n,word,pl,own,none,o⟩=>exact znl s op n word pl own o
 | ⟨op,n,word,pl,own,some l,none⟩=>exact zs1 op n word pl own (qs0 s l)
 | ⟨op,n,word,pl,own,some l,some r⟩=>exact zu7 op n word pl own (qs0 s l) (qs0 s r)
theorem qm1 {s:ByteArray} {x:Ex} {N:Nat} {r:List (List UInt8)} {st:Ps} (hp:PrE x N) (hN:st.nest=(N:Int)) (hs:Sat s st (tkE x++r)) (hr:NoOp 1 r):Got s r st x (qa4 s st) :=
 (qs0 s x).e N (s.size+1) r st hp hN hs hr (by have:=hs.len;omega)
theorem qg7 {s:ByteArray} {st:Ps} {t:List UInt8} {r:List (List UInt8)} (h:Sat s st (t::r)) (hk:kT t=107):need s ⟨t.toArray⟩ st=.ok (nx s st):=by
 unfold need;rw[h.on t,hk];simp
theorem qj7 {s:ByteArray} {st:Ps} {t:List UInt8} {r:List (List UInt8)} {k:Nat} (h:Sat s st (t::r)) (hk:kT t=k):kind s k st=.ok (nx s st):=by
 unfold kind;rw[if_pos (by rw[h.hd.1,hk])]
theorem qnx {s:ByteArray} {st:Ps} {w:ByteArray} {r:List (List UInt8)} (h:Sat s st (w.data.toList::r)):txt s st.t=w:=by
 have:=h.hd.2.1
 rw[qvx] at this;exact this
theorem zen {s:ByteArray} {st:Ps} {n:Nat} {r:List (List UInt8)} (h:Sat s st (dec n::r)):valOf (txt s st.t).toList=n:=by
 have:txt s st.t=⟨(dec n).toArray⟩:=h.hd.2.1
 rw[this,toList_mk,(qp9 n).2.2]
theorem qtb {k:Nat} {c:UInt8} {r:List (List UInt8)} (h:c≠42∧c≠47∧c≠43∧c≠45∧c≠60∧c≠61∧c≠35):NoOp k ([c]::r):=qvv fun op ho e=>by
 obtain ⟨h1,h2,h3,h4,h5,h6,h7⟩:=h;simp at e;rcases ho with rfl | rfl | rfl | rfl | rfl | rfl | rfl
 ·exact h1 e
 ·exact h2 e
 ·exact h3 e
 ·exact h4 e
 ·exact h5 e
 ·exact h6 e
 ·exact h7 e
def GotX (s:ByteArray) (r:List (List UInt8)) (st:Ps) (x:Sm) (o:Except Nat (Sm×Ps)):Prop:=∃ x' st',o=.ok (x',st')∧erX x'=erX x∧Sat s st' r∧st'.nest=st.nest∧st'.deep=st.deep
def GotL (s:ByteArray) (r:List (List UInt8)) (st:Ps) (l:List Sm) (o:Except Nat (List Sm×Ps)):Prop:=∃ l' st',o=.ok (l',st')∧erS l'=erS l∧Sat s st' r∧st'.nest=st.nest∧st'.deep=st.deep
def qr4 (ts:List (List UInt8)):Prop:=∀ r,ts≠[101,108,115,101]::r
theorem qze (x:Sm):∃ t r,tkX x=t::r∧kT t=107∧t≠[125]∧t≠[101,108,115,101]:=by
 unfold tkX;split
 ·exact ⟨_,_,rfl,by decide,by decide,by decide⟩
 ·split
  ·exact ⟨_,_,rfl,by decide,by decide,by decide⟩
  ·split
   ·exact ⟨_,_,rfl,by decide,by decide,by decide⟩
   ·split
    ·exact ⟨_,_,rfl,by decide,by decide,by decide⟩
    ·split
     ·exact ⟨_,_,rfl,by decide,by decide,by decide⟩
     ·exact ⟨_,_,rfl,by decide,by decide,by decide⟩
theorem zg3 (l:List Sm) {r:List (List UInt8)} (h:qr4 r):qr4 (tkS l++r):=by
 cases l with
 | nil=>rw[qiy];exact h
 | cons x l =>
  obtain ⟨t,q,e,_,_,h3⟩:=qze x;rw[qej,e];intro r' e';simp at e';exact h3 e'.1
theorem qq6 {s:ByteArray} {n0:Nat} {g:Ps→Except Nat (Sm×Ps)} {stop:Ps→Bool} {r:List (List UInt8)} (hstop:∀ st,Sat s st r→stop st=true) (hgo:∀ st t q,Sat s st (t::q)→kT t=107→t≠[125]→stop st=false) (he:qr4 r) (N:Nat) (l:List Sm) :
  (∀ x∈l,∀ q st,PrX x N→st.nest=(N:Int)→qr4 q→Sat s st (tkX x++q)→(tkX x++q).length < n0→GotX s q st x (g st))→PrS l N→∀ (n:Nat) (acc:List Sm) (st:Ps),st.nest=(N:Int)→Sat s st (tkS l++r)→(tkS l++r).length < n→(tkS l++r).length < n0 →
  ∃ l' st',stmts s g stop n acc st=.ok (acc++l',st')∧erS l'=erS l∧Sat s st' r∧st'.nest=st.nest∧st'.deep=st.deep:=by
 induction l with
 | nil =>
  intro _ _ n acc st hN hs hn _;rw[qiy] at hs hn;obtain ⟨n,rfl⟩:∃ k,n=k+1:=⟨n - 1,by omega⟩
  refine ⟨[],st,?_,rfl,hs,rfl,rfl⟩;rw[stmts,hstop st hs];simp
 | cons x l ih =>
  intro hx hp n acc st hN hs hn hn0;obtain ⟨p1,p2⟩:=qen.1 hp;obtain ⟨n,rfl⟩:∃ k,n=k+1:=⟨n - 1,by omega⟩
  rw[qej,List.append_assoc] at hs hn hn0;obtain ⟨t,q,e,e1,e2,_⟩:=qze x;have hgo1:stop st=false:=by
   rw[e] at hs;exact hgo st t _ hs e1 e2
  obtain ⟨x',st1,k1,k2,k3,k4,k5⟩:=hx x List.mem_cons_self (tkS l++r) st p1 hN (zg3 l he) hs hn0;have hlen:0 < (tkX x).length:=by rw[e];simp
  obtain ⟨l',st2,j1,j2,j3,j4,j5⟩:=ih (fun y hy=>hx y (List.mem_cons_of_mem _ hy)) p2 n (acc++[x']) st1 (by rw[k4];exact hN) k3 (by simp at hn hlen ⊢;omega) (by simp at hn0 ⊢;omega)
  refine ⟨x'::l',st2,?_,?_,j3,by rw[j4];exact k4,by rw[j5];exact k5⟩
  ·rw[stmts,hgo1,k1];simp[j1]
  ·rw[qgi,qgi,k2,j2]
theorem zgz {w:ByteArray} (h:w.size=0):w=nowt:=by
 cases w with
 | mk d =>
  have:d=#[]:=Array.eq_empty_of_size_eq_zero h
  rw[this]
  all_goals rfl
theorem znj {s:ByteArray} {x:Sm} {N:Nat} {r:List (List UInt8)} {st:Ps} {e:Ex} (ho:x.op=108) (hw:WdT x.word) (he:x.ex=some e) (hp:PrE e N) (hN:st.nest=(N:Int)) (hs:Sat s st (x.word.data.toList::[61]::(tkE e++[59]::r))):GotX s r st x (letS s st):=by
 obtain ⟨e',st3,k1,k2,k3,k4,k5⟩:=qm1 (r:=[59]::r) (st:=nx s (nx s st)) hp hN hs.nx.nx (qtb (by decide))
 refine ⟨{ qa8 with op:=108,word:=txt s st.t,pl:=st.t.a,ex:=some e' },nx s st3,?_,?_,k3.nx,k4,k5⟩
 ·unfold letS;rw[qj7 hs hw.k];simp only;rw[show (⟨#[61]⟩:ByteArray)=⟨[61].toArray⟩ from rfl,qg7 hs.nx (by decide)]
  simp only;rw[k1];simp only;rw[show (⟨#[59]⟩:ByteArray)=⟨[59].toArray⟩ from rfl,qg7 k3 (by decide)]
 ·unfold erX;rw[if_pos rfl,if_pos ho,he];simp only[erO,k2,qnx hs]
theorem zjq {b:Bool} {l:List (List UInt8)} (h:∃ t q,l=t::q∧t≠[41]):∃ t q,brkT b l=t::q∧t≠[41]:=by
 unfold brkT;cases b
 ·exact h
 ·exact ⟨_,_,rfl,by decide⟩
theorem zqd {t:List UInt8} (h:(∀ c∈t,qal c=true)∨(∀ c∈t,qba c=true)):t≠[41]:=by
 rintro rfl;rcases h with h | h
 ·exact absurd (h 41 (by simp)) (by decide)
 ·exact absurd (h 41 (by simp)) (by decide)
theorem qzh (x:Ex):∀ N,PrE x N→∃ t q,tkE x=t::q∧t≠[41]:=by
 match x with
 | ⟨op,n,word,pl,own,none,o⟩ =>
  intro N hp;rw[PrE] at hp;rw[tkE];refine ⟨_,_,rfl,?_⟩;unfold qpp;rcases hp with ⟨rfl,_⟩ | ⟨rfl,_⟩ | ⟨rfl,hp⟩
  ·rw[if_pos rfl];exact zqd (Or.inr (qp9 n).2.1)
  ·rw[if_neg (by decide),if_pos rfl]
   split<;>decide
  ·rw[if_neg (by decide),if_neg (by decide)]
   exact zqd (Or.inl hp.2.1)
 | ⟨op,n,word,pl,own,some l,none⟩=>intro N _;rw[tkE];exact ⟨_,_,rfl,by decide⟩
 | ⟨op,n,word,pl,own,some l,some r⟩ =>
  intro N hp;rw[PrE] at hp;have hl:∃ M,PrE l M:=by
   have:=hp.2.1
   split at this
   ·exact ⟨_,this.2⟩
   ·exact ⟨_,this⟩
  obtain ⟨M,hM⟩:=hl;obtain ⟨t,q,e,ht⟩:=zjq (b:=decide (lvl l.op < lft op)) (qzh l M hM);rw[tkE,e];exact ⟨t,_,rfl,ht⟩
theorem qyp {s:ByteArray} {x:Sm} {ex:Option Ex} {N:Nat} {r:List (List UInt8)} {st:Ps} (hp:PrO ex N) (hx:x.ex=none) (hN:st.nest=(N:Int)) (hs:Sat s st (tkO ex++[41]::r)):∃ ex' st',qaw s x st=.ok ({ x with ex:=ex' },st')∧erO ex'=erO ex∧Sat s st' ([41]::r)∧st'.nest=st.nest∧st'.deep=st.deep:=by
 cases ex with
 | none =>
  refine ⟨none,st,?_,rfl,hs,rfl,rfl⟩;have hs':Sat s st ([41]::r):=hs;unfold qaw;rw[show (⟨#[41]⟩:ByteArray)=⟨[41].toArray⟩ from rfl,hs'.on];cases x;simp at hx;subst hx;rfl
 | some e =>
  have he:=hp e rfl;have hs':Sat s st (tkE e++[41]::r):=hs;obtain ⟨e',st1,k1,k2,k3,k4,k5⟩:=qm1 he hN hs' (qtb (by decide))
  refine ⟨some e',st1,?_,by simp only[erO,k2],k3,k4,k5⟩
  obtain ⟨t,q,et,hne⟩:=qzh e N he;rw[et] at hs';unfold qaw;rw[show (⟨#[41]⟩:ByteArray)=⟨[41].toArray⟩ from rfl,Sat.on (t:=t) hs',k1];simp[hne]
def NotT (t:List UInt8) (ts:List (List UInt8)):Prop:=∀ r,ts≠t::r
theorem Sat.not {s:ByteArray} {st:Ps} {ts:List (List UInt8)} (h:Sat s st ts) {x:List UInt8} (hn:NotT x ts):onB s st.t ⟨x.toArray⟩=false:=by
 cases ts with
 | nil=>exact h.off _
 | cons t r =>
  rw[h.on]
  have:¬ t=x:=fun e=>hn r (by rw[e])
  simp[this]
theorem zd0 {s:ByteArray} {x:Sm} {w:ByteArray} {q:List (List UInt8)} {st:Ps} (hw:w.size≠0→WdT w) (hx:x.asw=nowt) (hq:NotT [97,115] q) (hs:Sat s st (tkAs w++q)):∃ p st',qa9 s x st=.ok ({ x with asw:=w,asPl:=p },st')∧Sat s st' q∧st'.nest=st.nest∧st'.deep=st.deep:=by
 unfold tkAs at hs;by_cases hz:w.size=0
 ·rw[if_pos hz] at hs;have hs':Sat s st q:=hs;refine ⟨x.asPl,st,?_,hs',rfl,rfl⟩;unfold qa9;rw[show (⟨#[97,115]⟩:ByteArray)=⟨[97,115].toArray⟩ from rfl,hs'.not hq,zgz hz,← hx];cases x;rfl
 ·rw[if_neg hz] at hs;have hs':Sat s st ([97,115]::w.data.toList::q):=hs;refine ⟨(nx s st).t.a,nx s (nx s st),?_,hs'.nx.nx,rfl,rfl⟩;unfold qa9;rw[show (⟨#[97,115]⟩:ByteArray)=⟨[97,115].toArray⟩ from rfl,hs'.on,qj7 hs'.nx (hw hz).k,qnx hs'.nx]
  all_goals rfl
theorem qwq {s:ByteArray} {x:Sm} {w:ByteArray} {q:List (List UInt8)} {st:Ps} (hw:w.size≠0→WdT w) (hx:x.undo=nowt) (hq:NotT [117,110,100,111] q) (hs:Sat s st (qip w++q)):∃ st',qat s x st=.ok ({ x with undo:=w },st')∧Sat s st' q∧st'.nest=st.nest∧st'.deep=st.deep:=by
 unfold qip at hs;by_cases hz:w.size=0
 ·rw[if_pos hz] at hs;have hs':Sat s st q:=hs;refine ⟨st,?_,hs',rfl,rfl⟩;unfold qat;rw[show (⟨#[117,110,100,111]⟩:ByteArray)=⟨[117,110,100,111].toArray⟩ from rfl,hs'.not hq,zgz hz,← hx];cases x;rfl
 ·rw[if_neg hz] at hs;have hs':Sat s st ([117,110,100,111]::w.data.toList::q):=hs;refine ⟨nx s (nx s st),?_,hs'.nx.nx,rfl,rfl⟩;unfold qat;rw[show (⟨#[117,110,100,111]⟩:ByteArray)=⟨[117,110,100,111].toArray⟩ from rfl,hs'.on,qj7 hs'.nx (hw hz).k,qnx hs'.nx]
  all_goals rfl
theorem qt9 {s:ByteArray} {x:Sm} {n:Nat} {q:List (List UInt8)} {st:Ps} (hx:x.n=1) (hq:NotT [116,114,105,101,115] q) (hs:Sat s st (qf8 n++q)):∃ p st',qas s x st=.ok ({ x with n:=n,nPl:=p },st')∧Sat s st' q∧st'.nest=st.nest∧st'.deep=st.deep:=by
 unfold qf8 at hs;by_cases hz:n=1
 ·rw[if_pos hz] at hs;have hs':Sat s st q:=hs;refine ⟨x.nPl,st,?_,hs',rfl,rfl⟩;unfold qas;rw[show (⟨#[116,114,105,101,115]⟩:ByteArray)=⟨[116,114,105,101,115].toArray⟩ from rfl,hs'.not hq,hz,← hx];cases x;rfl
 ·rw[if_neg hz] at hs;have hs':Sat s st ([116,114,105,101,115]::dec n::q):=hs;refine ⟨(nx s st).t.a,nx s (nx s st),?_,hs'.nx.nx,rfl,rfl⟩;unfold qas;rw[show (⟨#[116,114,105,101,115]⟩:ByteArray)=⟨[116,114,105,101,115].toArray⟩ from rfl,hs'.on,qj7 hs'.nx (zus n),zen hs'.nx]
  all_goals rfl
theorem qlh {x t:List UInt8} {q:List (List UInt8)} (h:t≠x):NotT x (t::q):=fun r e=>by cases e;exact h rfl
theorem qrc {x:List UInt8} {n:Nat} {r:List (List UInt8)} (h1:[116,114,105,101,115]≠x) (h2:[59]≠x):NotT x (qf8 n++[59]::r):=by
 unfold qf8;split
 ·exact qlh h2
 ·exact qlh h1
theorem zg1 {x:List UInt8} {w:ByteArray} {q:List (List UInt8)} (h1:[117,110,100,111]≠x) (h2:NotT x q):NotT x (qip w++q):=by
 unfold qip;split
 ·exact h2
 ·exact qlh h1
theorem zox {s:ByteArray} {x:Sm} {N:Nat} {r:List (List UInt8)} {st:Ps} (ho:x.op=99) (hw:WdT x.word) (ha:x.asw.size≠0→WdT x.asw) (hu:x.undo.size≠0→WdT x.undo) (hp:PrO x.ex N) (hN:st.nest=(N:Int)) (hs:Sat s st (x.word.data.toList::[40]::(tkO x.ex++[41]::(tkAs x.asw++(qip x.undo++(qf8 x.n++[59]::r)))))):GotX s r st x (call s st):=by
 have s2:=hs.nx.nx;obtain ⟨ex',st3,a1,a2,a3,a4,a5⟩:=qyp (x:={ qa8 with op:=99,word:=txt s st.t,pl:=st.t.a,n:=1 }) (st:=nx s (nx s st)) hp rfl hN s2
 obtain ⟨p5,st5,b1,b2,b3,b4⟩:=zd0 (x:={ { qa8 with op:=99,word:=txt s st.t,pl:=st.t.a,n:=1 } with ex:=ex' }) ha rfl (zg1 (by decide) (qrc (by decide) (by decide))) a3.nx
 obtain ⟨st6,c1,c2,c3,c4⟩:=qwq (x:={ { { qa8 with op:=99,word:=txt s st.t,pl:=st.t.a,n:=1 } with ex:=ex' } with asw:=x.asw,asPl:=p5 }) hu rfl (qrc (by decide) (by decide)) b2
 obtain ⟨p7,st7,d1,d2,d3,d4⟩:=qt9 (x:={ { { { qa8 with op:=99,word:=txt s st.t,pl:=st.t.a,n:=1 } with ex:=ex' } with asw:=x.asw,asPl:=p5 } with undo:=x.undo }) (n:=x.n) rfl (qlh (by decide)) c2
 refine ⟨{ { { { { qa8 with op:=99,word:=txt s st.t,pl:=st.t.a,n:=1 } with ex:=ex' } with asw:=x.asw,asPl:=p5 } with undo:=x.undo } with n:=x.n,nPl:=p7 },nx s st7,?_,?_,d2.nx,?_,?_⟩
 ·unfold call;rw[qj7 hs hw.k];simp only;rw[show (⟨#[40]⟩:ByteArray)=⟨[40].toArray⟩ from rfl,qg7 hs.nx (by decide)]
  simp only;rw[a1];simp only;rw[show (⟨#[41]⟩:ByteArray)=⟨[41].toArray⟩ from rfl,qg7 a3 (by decide)]
  simp only;rw[b1];simp only;rw[c1];simp only;rw[d1];simp only;rw[show (⟨#[59]⟩:ByteArray)=⟨[59].toArray⟩ from rfl,qg7 d2 (by decide)]
 ·unfold erX;rw[if_neg (by show ¬ (99:Nat)=108;decide),if_pos rfl,if_neg (by rw[ho];decide),if_pos ho]
  simp only[a2,qnx hs]
 ·show st7.nest=st.nest
  rw[d3,c3,b3];exact a4
 ·show st7.deep=st.deep
  rw[d4,c4,b4];exact a5
def Blk (s:ByteArray) (g:Ps→Except Nat (Sm×Ps)) (l:List Sm) (n N:Nat):Prop:=∀ (r:List (List UInt8)) (st:Ps),st.nest=(N:Int)→Sat s st ([123]::(tkS l++[125]::r))→(([123]:List UInt8)::(tkS l++[125]::r)).length≤n→GotL s r st l (block s g st)
theorem zt5 {s:ByteArray} {g:Ps→Except Nat (Sm×Ps)} {x:Sm} {n N:Nat} {r:List (List UInt8)} {st:Ps} {e:Ex} (ho:x.op=105) (he:x.ex=some e) (hp:PrE e N) (h1:Blk s g x.one n N) (h2:Blk s g x.two n N) (hN:st.nest=(N:Int)) (hr:qr4 r)
  (hs:Sat s st (tkE e++[123]::(tkS x.one++[125]::((if x.two.isEmpty then [] else [101,108,115,101]::[123]::(tkS x.two++[[125]]))++r)))) (hn:(tkE e++[123]::(tkS x.one++[125]::((if x.two.isEmpty then [] else [101,108,115,101]::[123]::(tkS x.two++[[125]]))++r))).length≤n):GotX s r st x (ifS s g st):=by
 obtain ⟨e',st1,k1,k2,k3,k4,k5⟩:=qm1 hp hN hs (qtb (by decide))
 obtain ⟨l',st2,j1,j2,j3,j4,j5⟩:=h1 _ st1 (by rw[k4];exact hN) k3 (by simp at hn ⊢;omega)
 cases htw:x.two with
 | nil =>
  rw[htw] at j3;have j3':Sat s st2 r:=j3;refine ⟨{ qa8 with op:=105,ex:=some e',one:=l' },st2,?_,?_,j3',by rw[j4];exact k4,by rw[j5];exact k5⟩
  ·unfold ifS;rw[k1];simp only;rw[j1];simp only;rw[show (⟨#[101,108,115,101]⟩:ByteArray)=⟨[101,108,115,101].toArray⟩ from rfl,j3'.not hr]
   all_goals rfl
  ·unfold erX;rw[if_neg (by show ¬ (105:Nat)=108;decide),if_neg (by show ¬ (105:Nat)=99;decide),if_pos rfl,if_neg (by rw[ho];decide),if_neg (by rw[ho];decide),if_pos ho,he,htw]
   simp only[qa8,erO,k2,j2]
 | cons y m =>
  rw[htw] at j3 hn;simp only[List.isEmpty_cons,Bool.false_eq_true,if_false,List.cons_append,List.append_assoc,List.nil_append] at j3 hn;rw[← htw] at j3 hn;obtain ⟨m',st3,i1,i2,i3,i4,i5⟩:=h2 r (nx s st2) (by show st2.nest=_;rw[j4,k4];exact hN) j3.nx (by simp at hn ⊢;omega)
  refine ⟨{ qa8 with op:=105,ex:=some e',one:=l',two:=m' },st3,?_,?_,i3,by rw[i4];show st2.nest=_;rw[j4];exact k4,by rw[i5];show st2.deep=_;rw[j5];exact k5⟩
  ·unfold ifS;rw[k1];simp only;rw[j1];simp only;rw[show (⟨#[101,108,115,101]⟩:ByteArray)=⟨[101,108,115,101].toArray⟩ from rfl,j3.on,i1]
   all_goals rfl
  ·unfold erX;rw[if_neg (by show ¬ (105:Nat)=108;decide),if_neg (by show ¬ (105:Nat)=99;decide),if_pos rfl,if_neg (by rw[ho];decide),if_neg (by rw[ho];decide),if_pos ho,he]
   simp only[erO,k2,j2,i2]
theorem zkz {s:ByteArray} {g:Ps→Except Nat (Sm×Ps)} {x:Sm} {n N:Nat} {r:List (List UInt8)} {st:Ps} (ho:x.op=116) (h1:Blk s g x.one n N) (h2:Blk s g x.two n N) (hN:st.nest=(N:Int))
  (hs:Sat s st ([123]::(tkS x.one++[125]::[101,108,115,101]::[123]::(tkS x.two++[125]::r)))) (hn:(([123]:List UInt8)::(tkS x.one++[125]::[101,108,115,101]::[123]::(tkS x.two++[125]::r))).length≤n):GotX s r st x (tryS s g st):=by
 obtain ⟨l',st2,j1,j2,j3,j4,j5⟩:=h1 _ st hN hs hn;obtain ⟨m',st3,i1,i2,i3,i4,i5⟩:=h2 r (nx s st2) (by show st2.nest=_;rw[j4];exact hN) j3.nx (by simp at hn ⊢;omega)
 refine ⟨{ qa8 with op:=116,one:=l',two:=m' },st3,?_,?_,i3,by rw[i4];exact j4,by rw[i5];exact j5⟩
 ·unfold tryS;rw[j1];simp only;rw[show (⟨#[101,108,115,101]⟩:ByteArray)=⟨[101,108,115,101].toArray⟩ from rfl,qg7 j3 (by decide)]
  simp only;rw[i1]
 ·unfold erX;rw[if_neg (by show ¬ (116:Nat)=108;decide),if_neg (by show ¬ (116:Nat)=99;decide),if_neg (by show ¬ (116:Nat)=105;decide),if_pos rfl,if_neg (by rw[ho];decide),if_neg (by rw[ho];decide),if_neg (by rw[ho];decide),if_pos ho]
  simp only[j2,i2]
theorem qxl {s:ByteArray} {g:Ps→Except Nat (Sm×Ps)} {x:Sm} {n N:Nat} {r:List (List UInt8)} {st:Ps} (ho:x.op=114) (h1:Blk s g x.one n N) (hN:st.nest=(N:Int))
  (hs:Sat s st (dec x.n::[123]::(tkS x.one++[125]::r))) (hn:(dec x.n::[123]::(tkS x.one++[125]::r)).length≤n):GotX s r st x (qbu s g st):=by
 obtain ⟨l',st2,j1,j2,j3,j4,j5⟩:=h1 r (nx s st) hN hs.nx (by simp at hn ⊢;omega)
 refine ⟨{ qa8 with op:=114,n:=valOf (txt s st.t).toList,nPl:=st.t.a,one:=l' },st2,?_,?_,j3,j4,j5⟩
 ·unfold qbu;rw[qj7 hs (zus _)];simp only;rw[j1]
 ·unfold erX;rw[if_neg (by show ¬ (114:Nat)=108;decide),if_neg (by show ¬ (114:Nat)=99;decide),if_neg (by show ¬ (114:Nat)=105;decide),if_neg (by show ¬ (114:Nat)=116;decide),if_pos rfl,if_neg (by rw[ho];decide),if_neg (by rw[ho];decide),if_neg (by rw[ho];decide),if_neg (by rw[ho];decide),if_pos ho]
  simp only[j2,zen hs]
theorem ziq {s:ByteArray} {x:Sm} {r:List (List UInt8)} {st:Ps} (ho:x.op=102) (hs:Sat s st ([102,97,105,108]::[59]::r)):GotX s r st x (qig s st):=by
 refine ⟨{ qa8 with op:=102 },nx s (nx s st),?_,?_,hs.nx.nx,rfl,rfl⟩
 ·unfold qig;rw[show (⟨#[102,97,105,108]⟩:ByteArray)=⟨[102,97,105,108].toArray⟩ from rfl,qg7 hs (by decide)]
  simp only;rw[show (⟨#[59]⟩:ByteArray)=⟨[59].toArray⟩ from rfl,qg7 hs.nx (by decide)]
 ·unfold erX;rw[ho]
  all_goals rfl
def StG (s:ByteArray) (n N:Nat) (x:Sm):Prop:=∀ (q:List (List UInt8)) (st:Ps),PrX x N→st.nest=(N:Int)→qr4 q→Sat s st (tkX x++q)→(tkX x++q).length < n→GotX s q st x (stmt s n st)
theorem qwu {s:ByteArray} {n N:Nat} {l:List Sm} (h:∀ x∈l,StG s n (N+1) x) (hp:PrS l (N+1)) (h4:N < 4):Blk s (stmt s n) l n N:=by
 intro r st hN hs hn;have hs1:Sat s (nx s (dn st)) (tkS l++[125]::r):=(hs.turn (st':=dn st) rfl).nx;obtain ⟨l',st1,e1,e2,e3,e4,e5⟩:=qq6 (s:=s) (n0:=n) (g:=stmt s n) (stop:=fun st=>onB s st.t ⟨#[125]⟩) (r:=[125]::r) (fun st h=>by rw[show (⟨#[125]⟩:ByteArray)=⟨[125].toArray⟩ from rfl,h.on];decide) (fun st t q h h1 h2=>by rw[show (⟨#[125]⟩:ByteArray)=⟨[125].toArray⟩ from rfl,h.on];simp[h2]) (fun r' e=>by simp at e) (N+1) l (fun x hx' q st h1 h2 h3 h4 h5=>h x hx' q st h1 h2 h3 h4 h5) hp (s.size+1) [] (nx s (dn st)) (by show st.nest+1=_;rw[hN];simp) hs1 (by have:=hs1.len;omega) (by simp at hn ⊢;omega)
 refine ⟨l',upp (nx s st1),?_,e2,e3.nx.turn rfl,?_,?_⟩
 ·unfold block;rw[show (⟨#[123]⟩:ByteArray)=⟨[123].toArray⟩ from rfl,hs.on,e1];simp[show kT [123]=107 by decide]
 ·show st1.nest - 1=st.nest
  rw[e4];show st.nest+1 - 1=st.nest
  omega
 ·show st1.deep=st.deep
  rw[e5];show qdg st.nest st.deep st.t.a=st.deep
  unfold qdg;rw[if_neg (by rw[hN];omega)]
theorem zlc {s:ByteArray} {x:Sm} (h1:∀ n N,∀ y∈x.one,StG s n N y) (h2:∀ n N,∀ y∈x.two,StG s n N y) (n N:Nat):StG s n N x:=by
 intro q st hp hN hq hs hn;obtain ⟨n,rfl⟩:∃ k,n=k+1:=⟨n - 1,by omega⟩
 obtain ⟨⟨pO,hc⟩,p1,p2⟩:=hp;have hk:∀ {st:Ps} {t:List UInt8} {r:List (List UInt8)},Sat s st (t::r)→kT t=107→∀ y:List UInt8,onB s st.t ⟨y.toArray⟩=decide (t=y):=fun h h1 y=>by rw[h.on,h1];simp
 rcases hc with ⟨ho,hw,hne⟩ | ⟨ho,hw,ha,hu,h9⟩ | ⟨ho,hne,h4⟩ | ⟨ho,h4⟩ | ⟨ho,h4,h9⟩ | ho
 ·cases he:x.ex with
  | none=>exact absurd he hne
  | some e =>
   have et:tkX x=[108,101,116]::x.word.data.toList::[61]::(tkE e++[[59]]):=by unfold tkX;rw[if_pos ho,he]<;>rfl
   rw[et] at hs;simp only[List.cons_append,List.append_assoc,List.nil_append] at hs;rw[stmt,show (⟨#[108,101,116]⟩:ByteArray)=⟨[108,101,116].toArray⟩ from rfl,hk hs (by decide)]
   exact znj (st:=nx s st) ho hw he (pO e he) hN hs.nx
 ·have et:tkX x=[99,97,108,108]::x.word.data.toList::[40]::(tkO x.ex++[41]::(tkAs x.asw++(qip x.undo++(qf8 x.n++[[59]])))):=by unfold tkX;rw[if_neg (by rw[ho];decide),if_pos ho]
  rw[et] at hs;simp only[List.cons_append,List.append_assoc,List.nil_append] at hs;rw[stmt,show (⟨#[108,101,116]⟩:ByteArray)=⟨[108,101,116].toArray⟩ from rfl,hk hs (by decide),show (⟨#[99,97,108,108]⟩:ByteArray)=⟨[99,97,108,108].toArray⟩ from rfl,hk hs (by decide)]
  exact zox (st:=nx s st) ho hw ha hu pO hN hs.nx
 ·cases he:x.ex with
  | none=>exact absurd he hne
  | some e =>
   have et:tkX x=[105,102]::(tkE e++[123]::(tkS x.one++[125]::(if x.two.isEmpty then [] else [101,108,115,101]::[123]::(tkS x.two++[[125]])))):=by unfold tkX;rw[if_neg (by rw[ho];decide),if_neg (by rw[ho];decide),if_pos ho,he];rfl
   rw[et] at hs hn;simp only[List.cons_append,List.append_assoc] at hs hn;rw[stmt,show (⟨#[108,101,116]⟩:ByteArray)=⟨[108,101,116].toArray⟩ from rfl,hk hs (by decide),show (⟨#[99,97,108,108]⟩:ByteArray)=⟨[99,97,108,108].toArray⟩ from rfl,hk hs (by decide),show (⟨#[105,102]⟩:ByteArray)=⟨[105,102].toArray⟩ from rfl,hk hs (by decide)]
   exact zt5 (st:=nx s st) (n:=n) ho he (pO e he) (qwu (h1 n (N+1)) p1 h4) (qwu (h2 n (N+1)) p2 h4) hN hq hs.nx (by simp at hn ⊢;omega)
 ·have et:tkX x=[116,114,121]::[123]::(tkS x.one++[125]::[101,108,115,101]::[123]::(tkS x.two++[[125]])):=by unfold tkX;rw[if_neg (by rw[ho];decide),if_neg (by rw[ho];decide),if_neg (by rw[ho];decide),if_pos ho]
  rw[et] at hs hn;simp only[List.cons_append,List.append_assoc,List.nil_append] at hs hn;rw[stmt,show (⟨#[108,101,116]⟩:ByteArray)=⟨[108,101,116].toArray⟩ from rfl,hk hs (by decide),show (⟨#[99,97,108,108]⟩:ByteArray)=⟨[99,97,108,108].toArray⟩ from rfl,hk hs (by decide),show (⟨#[105,102]⟩:ByteArray)=⟨[105,102].toArray⟩ from rfl,hk hs (by decide),show (⟨#[116,114,121]⟩:ByteArray)=⟨[116,114,121].toArray⟩ from rfl,hk hs (by decide)]
  exact zkz (st:=nx s st) (n:=n) ho (qwu (h1 n (N+1)) p1 h4) (qwu (h2 n (N+1)) p2 h4) hN hs.nx (by simp at hn ⊢;omega)
 ·have et:tkX x=[114,101,112,101,97,116]::dec x.n::[123]::(tkS x.one++[[125]]):=by unfold tkX;rw[if_neg (by rw[ho];decide),if_neg (by rw[ho];decide),if_neg (by rw[ho];decide),if_neg (by rw[ho];decide),if_pos ho]
  rw[et] at hs hn;simp only[List.cons_append,List.append_assoc,List.nil_append] at hs hn;rw[stmt,show (⟨#[108,101,116]⟩:ByteArray)=⟨[108,101,116].toArray⟩ from rfl,hk hs (by decide),show (⟨#[99,97,108,108]⟩:ByteArray)=⟨[99,97,108,108].toArray⟩ from rfl,hk hs (by decide),show (⟨#[105,102]⟩:ByteArray)=⟨[105,102].toArray⟩ from rfl,hk hs (by decide),show (⟨#[116,114,121]⟩:ByteArray)=⟨[116,114,121].toArray⟩ from rfl,hk hs (by decide),show (⟨#[114,101,112,101,97,116]⟩:ByteArray)=⟨[114,101,112,101,97,116].toArray⟩ from rfl,hk hs (by decide)]
  exact qxl (st:=nx s st) (n:=n) ho (qwu (h1 n (N+1)) p1 h4) hN hs.nx (by simp at hn ⊢;omega)
 ·have et:tkX x=[[102,97,105,108],[59]]:=by unfold tkX;rw[if_neg (by rw[ho];decide),if_neg (by rw[ho];decide),if_neg (by rw[ho];decide),if_neg (by rw[ho];decide),if_neg (by rw[ho];decide)]
  rw[et] at hs;simp only[List.cons_append,List.nil_append] at hs;rw[stmt,show (⟨#[108,101,116]⟩:ByteArray)=⟨[108,101,116].toArray⟩ from rfl,hk hs (by decide),show (⟨#[99,97,108,108]⟩:ByteArray)=⟨[99,97,108,108].toArray⟩ from rfl,hk hs (by decide),show (⟨#[105,102]⟩:ByteArray)=⟨[105,102].toArray⟩ from rfl,hk hs (by decide),show (⟨#[116,114,121]⟩:ByteArray)=⟨[116,114,121].toArray⟩ from rfl,hk hs (by decide),show (⟨#[114,101,112,101,97,116]⟩:ByteArray)=⟨[114,101,112,101,97,116].toArray⟩ from rfl,hk hs (by decide)]
  exact ziq ho hs
theorem qk4 (s:ByteArray) (l:List Sm):∀ n N,∀ x∈l,StG s n N x:=by
 match l with
 | []=>intro n N x hx;cases hx
 | ⟨op,word,pl,ex,asw,asPl,undo,m,nPl,one,two⟩::rest =>
  intro n N x hx;rcases List.mem_cons.1 hx with rfl | hx
  ·exact zlc (x:=⟨op,word,pl,ex,asw,asPl,undo,m,nPl,one,two⟩) (qk4 s one) (qk4 s two) n N
  ·exact qk4 s rest n N x hx
end Px
end Go.Proofs.YthanmfbakpcigaaGreatDoor
