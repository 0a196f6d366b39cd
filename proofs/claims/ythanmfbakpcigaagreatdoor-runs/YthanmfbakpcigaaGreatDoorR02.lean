import Derived.Test.YthanmfbakpcigaaGreatDoorR01
import Derived.Test.YthanmfbakpcigaaGreatDoorR00
import Derived.Laws.Strings
set_option maxRecDepth 100000
namespace Go.Proofs.YthanmfbakpcigaaGreatDoor
namespace Px
def hasW:List ByteArray→ByteArray→Bool
 | [],_=>false
 | v::r,w=>v.toList == w.toList || hasW r w
def addW (ws:List ByteArray) (w:ByteArray):List ByteArray:=if hasW ws w then ws else ws++[w]
theorem qoi {a b:ByteArray} (h:(a.toList == b.toList)=true):a=b:=by
 rw[beq_iff_eq,ByteArray.toList_eq,ByteArray.toList_eq] at h;cases a;cases b;congr 1;exact Array.toList_inj.1 h
theorem zof {a b:List ByteArray} {w:ByteArray} (h:hasW a w=true):hasW (a++b) w=true:=by
 induction a with
 | nil=>cases h
 | cons v a ih =>
  rw[hasW,Bool.or_eq_true] at h;rw[List.cons_append,hasW,Bool.or_eq_true];exact h.imp id ih
theorem qhd {a b:List ByteArray} {w:ByteArray} (h:hasW a w=true) (hp:a <+: b):hasW b w=true:=by
 obtain ⟨c,rfl⟩:=hp;exact zof h
theorem qd3 (ws:List ByteArray) (w:ByteArray):hasW (addW ws w) w=true:=by
 unfold addW;split
 ·rename_i h;exact h
 ·rename_i h;clear h;induction ws with
  | nil=>simp[hasW]
  | cons v ws ih=>rw[List.cons_append,hasW,ih,Bool.or_true]
theorem qd6 (ws:List ByteArray) (w:ByteArray):ws <+: addW ws w:=by
 unfold addW;split
 ·exact List.prefix_refl _
 ·exact List.prefix_append _ _
theorem qlv {a b:List ByteArray} {w:ByteArray} (h:hasW a w=true) (hp:a <+: b):idxW b w=idxW a w:=by
 obtain ⟨c,rfl⟩:=hp;induction a with
 | nil=>cases h
 | cons v a ih =>
  rw[List.cons_append,idxW,idxW];split
  ·rfl
  ·rename_i hn;rw[hasW,Bool.or_eq_true] at h;rw[ih (h.resolve_left hn)]
theorem qpt {ws:List ByteArray} {w:ByteArray} (h:hasW ws w=true):idxW ws w < ws.length:=by
 induction ws with
 | nil=>cases h
 | cons v a ih =>
  rw[idxW];split
  ·simp
  ·rename_i hn;rw[hasW,Bool.or_eq_true] at h
   have:=ih (h.resolve_left hn)
   simp;omega
theorem qtr {ws:List ByteArray} {w:ByteArray} (h:hasW ws w=true):ws.getD (idxW ws w) nowt=w:=by
 induction ws with
 | nil=>cases h
 | cons v a ih =>
  rw[idxW];split
  ·rename_i hv;rw[List.getD_cons_zero];exact qoi hv
  ·rename_i hn;rw[hasW,Bool.or_eq_true] at h;rw[List.getD_cons_succ];exact ih (h.resolve_left hn)
theorem zoc {ws:List ByteArray} {w:ByteArray} (h:hasW ws w=false):idxW (ws++[w]) w=ws.length:=by
 induction ws with
 | nil=>simp[idxW]
 | cons v a ih =>
  rw[hasW,Bool.or_eq_false_iff] at h;rw[List.cons_append,idxW,if_neg (by simp[h.1]),ih h.2]
  rfl
def wsC (word undo:ByteArray) (ws:List ByteArray):List ByteArray:=if undo.size=0 then addW ws word else addW (addW ws word) undo
def wsS:List Sm→List ByteArray→List ByteArray
 | [],ws=>ws
 | ⟨op,word,_,_,_,_,undo,_,_,one,two⟩::rest,ws =>
  wsS rest (if op=99 then wsC word undo ws else if op=105∨op=116 then wsS two (wsS one ws) else if op=114 then wsS one ws else ws)
def wsX (x:Sm) (ws:List ByteArray):List ByteArray:=if x.op=99 then wsC x.word x.undo ws else if x.op=105∨x.op=116 then wsS x.two (wsS x.one ws) else if x.op=114 then wsS x.one ws else ws
theorem qoo (ws:List ByteArray):wsS [] ws=ws:=by rw[wsS]
theorem qhz (x:Sm) (l:List Sm) (ws:List ByteArray):wsS (x::l) ws=wsS l (wsX x ws):=by
 obtain ⟨op,word,pl,ex,asw,asPl,undo,n,nPl,one,two⟩:=x;rw[wsS.eq_def];rfl
def vsE:Ex→List ByteArray→List ByteArray
 | ⟨op,_,word,_,_,none,_⟩,vs=>if op=119 then addW vs word else vs
 | ⟨_,_,_,_,_,some l,none⟩,vs=>vsE l vs
 | ⟨_,_,_,_,_,some l,some r⟩,vs=>vsE r (vsE l vs)
def vsO (x:Option Ex) (vs:List ByteArray):List ByteArray :=
 match x with
 | none=>vs
 | some e=>vsE e vs
def vsS:List Sm→List ByteArray→List ByteArray
 | [],vs=>vs
 | ⟨op,word,_,ex,asw,_,_,_,_,one,two⟩::rest,vs =>
  vsS rest (if op=108 then addW (vsO ex vs) word else if op=99 then (if asw.size=0 then vsO ex vs else addW (vsO ex vs) asw) else if op=105 then vsS two (vsS one (vsO ex vs)) else if op=116 then vsS two (vsS one vs) else if op=114 then vsS one vs else vs)
def vsX (x:Sm) (vs:List ByteArray):List ByteArray:=if x.op=108 then addW (vsO x.ex vs) x.word else if x.op=99 then (if x.asw.size=0 then vsO x.ex vs else addW (vsO x.ex vs) x.asw) else if x.op=105 then vsS x.two (vsS x.one (vsO x.ex vs)) else if x.op=116 then vsS x.two (vsS x.one vs) else if x.op=114 then vsS x.one vs else vs
theorem qsc (vs:List ByteArray):vsS [] vs=vs:=by rw[vsS]
theorem qjx (x:Sm) (l:List Sm) (vs:List ByteArray):vsS (x::l) vs=vsS l (vsX x vs):=by
 obtain ⟨op,word,pl,ex,asw,asPl,undo,n,nPl,one,two⟩:=x;rw[vsS.eq_def];rfl
def pgOf (l:List Sm):Pg:=⟨wsS l [],(vsS l []).length,mkS (idxW (wsS l [])) (idxW (vsS l [])) l 0⟩
theorem zq2 (x:Sm) (h1:∀ ws,ws <+: wsS x.one ws) (h2:∀ ws,ws <+: wsS x.two ws) (ws:List ByteArray):ws <+: wsX x ws:=by
 unfold wsX wsC;split
 ·split
  ·exact qd6 _ _
  ·exact (qd6 _ _).trans (qd6 _ _)
 ·split
  ·exact (h1 _).trans (h2 _)
  ·split
   ·exact h1 _
   ·exact List.prefix_refl _
theorem qgn (l:List Sm):∀ ws,ws <+: wsS l ws:=by
 match l with
 | []=>intro ws;rw[wsS];exact List.prefix_refl _
 | ⟨op,word,pl,ex,asw,asPl,undo,n,nPl,one,two⟩::rest =>
  intro ws;rw[qhz];exact (zq2 ⟨op,word,pl,ex,asw,asPl,undo,n,nPl,one,two⟩ (qgn one) (qgn two) ws).trans (qgn rest _)
theorem qme (x:Ex):∀ vs,vs <+: vsE x vs:=by
 match x with
 | ⟨op,n,word,pl,own,none,_⟩ =>
  intro vs;rw[vsE];split
  ·exact qd6 _ _
  ·exact List.prefix_refl _
 | ⟨op,n,word,pl,own,some l,none⟩=>intro vs;rw[vsE];exact qme l vs
 | ⟨op,n,word,pl,own,some l,some r⟩=>intro vs;rw[vsE];exact (qme l vs).trans (qme r _)
theorem qsd (x:Option Ex) (vs:List ByteArray):vs <+: vsO x vs:=by
 cases x with
 | none=>exact List.prefix_refl _
 | some e=>exact qme e vs
theorem zq4 (x:Sm) (h1:∀ vs,vs <+: vsS x.one vs) (h2:∀ vs,vs <+: vsS x.two vs) (vs:List ByteArray):vs <+: vsX x vs:=by
 unfold vsX;split
 ·exact (qsd _ _).trans (qd6 _ _)
 ·split
  ·split
   ·exact qsd _ _
   ·exact (qsd _ _).trans (qd6 _ _)
  ·split
   ·exact ((qsd _ _).trans (h1 _)).trans (h2 _)
   ·split
    ·exact (h1 _).trans (h2 _)
    ·split
     ·exact h1 _
     ·exact List.prefix_refl _
theorem qf7 (l:List Sm):∀ vs,vs <+: vsS l vs:=by
 match l with
 | []=>intro vs;rw[vsS];exact List.prefix_refl _
 | ⟨op,word,pl,ex,asw,asPl,undo,n,nPl,one,two⟩::rest =>
  intro vs;rw[qjx];exact (zq4 ⟨op,word,pl,ex,asw,asPl,undo,n,nPl,one,two⟩ (qf7 one) (qf7 two) vs).trans (qf7 rest _)
theorem zef (P:Pg) (l:List Sm):∀ ws,wsS l ws <+: P.words→UsS P (idxW P.words) l:=by
 match l with
 | []=>intro ws _;rw[UsS];trivial
 | ⟨op,word,pl,ex,asw,asPl,undo,n,nPl,one,two⟩::rest =>
  intro ws h;rw[qhz] at h;rw[zbo];have hx:=(qgn rest _).trans h;unfold wsX at hx;dsimp only at hx ⊢;refine ⟨fun ho=>?_,fun ho=>?_,fun ho=>?_,zef P rest _ h⟩
  ·rw[if_pos ho] at hx;unfold wsC at hx;by_cases hz:undo.size=0
   ·rw[if_pos hz] at hx;exact ⟨qtr (qhd (qd3 _ _) hx),fun h=>absurd hz h⟩
   ·rw[if_neg hz] at hx;exact ⟨qtr (qhd (qd3 _ _) ((qd6 _ _).trans hx)),fun _=>qtr (qhd (qd3 _ _) hx)⟩
  ·by_cases h2:op=105∨op=116
   ·rw[if_neg (by omega),if_pos h2] at hx
    exact zef P one _ ((qgn two _).trans hx)
   ·rw[if_neg (by omega),if_neg h2,if_pos (by omega)] at hx
    exact zef P one _ hx
  ·rw[if_neg (by omega),if_pos ho] at hx
   exact zef P two _ hx
theorem qwg {V:Vs} {w:ByteArray} {i:Nat} (h:qa3 V w=some i):hasW (V.map Prod.fst) w=true∧idxW (V.map Prod.fst) w=i:=by
 induction V generalizing i with
 | nil=>cases h
 | cons v V ih =>
  obtain ⟨v,k⟩:=v;rw[qa3] at h;rw[List.map_cons,hasW,idxW];split at h
  ·rename_i hv;cases h;exact ⟨by rw[hv,Bool.true_or],by rw[if_pos hv]⟩
  ·rename_i hv;rw[if_neg hv];cases hf:qa3 V w with
   | none=>rw[hf] at h;cases h
   | some j =>
    rw[hf] at h;cases h;obtain ⟨h1,h2⟩:=ih hf;exact ⟨by rw[h1,Bool.or_true],by rw[h2]⟩
theorem zdd {V:Vs} {w:ByteArray} (h:qa3 V w=none):hasW (V.map Prod.fst) w=false:=by
 induction V with
 | nil=>rfl
 | cons v V ih =>
  obtain ⟨v,k⟩:=v;rw[qa3] at h;rw[List.map_cons,hasW];split at h
  ·cases h
  ·rename_i hv;cases hf:qa3 V w with
   | none=>rw[ih hf,Bool.or_false];simpa using hv
   | some j=>rw[hf] at h;cases h
theorem qr2 {V:Vs} {w:ByteArray} {i:Nat} (h:qa3 V w=some i):addW (V.map Prod.fst) w=V.map Prod.fst:=by
 unfold addW;rw[if_pos (qwg h).1]
theorem qux (x:Ex):∀ (c:Lk),(qao x c).2.e=0→WfE x→vsE x (c.vars.map Prod.fst)=c.vars.map Prod.fst:=by
 match x with
 | ⟨op,n,word,pl,own,none,none⟩ =>
  intro c h hw;rw[qao] at h;unfold qpq at h;rw[vsE];by_cases h3:op=119
  ·rw[if_pos h3];rw[if_neg (by omega),if_neg (by omega)] at h
   cases hf:qa3 c.vars word with
   | none=>rw[hf] at h;exact absurd h (qkf (by decide))
   | some i=>exact qr2 hf
  ·rw[if_neg h3]
 | ⟨op,n,word,pl,own,none,some r⟩=>intro c _ hw;exact hw.elim
 | ⟨op,n,word,pl,own,some l,none⟩ =>
  intro c h hw;rw[qao] at h;rw[vsE];refine qux l c ?_ hw.2;unfold notK at h;dsimp only at h;split at h
  ·exact h
  ·exact absurd h (qkf (by decide))
 | ⟨op,n,word,pl,own,some l,some r⟩ =>
  intro c h hw;rw[qao] at h;rw[vsE];have hr0:(qao r (qao l c).2).2.e=0:=by
   unfold binK at h;split at h
   ·dsimp only at h;split at h
    ·exact absurd h (qkf (by decide))
    ·exact h
   ·dsimp only at h;split at h
    ·exact h
    ·exact absurd h (qkf (by decide))
  have hl0:(qao l c).2.e=0:=Decidable.byContradiction fun hn=>qfz r _ hn hr0
  rw[qux l c hl0 hw.2.1];have hv:(qao l c).2.vars=c.vars:=qdj l c
  have:=qux r (qao l c).2 hr0 hw.2.2
  rw[hv] at this;exact this
theorem zee {x:Option Ex} {k:Nat} {c:Lk} (h:(qbq x k c).e=0) (hw:WfO x):vsO x (c.vars.map Prod.fst)=c.vars.map Prod.fst:=by
 cases x with
 | none=>rfl
 | some e =>
  refine qux e c ?_ (hw e rfl);unfold qbq at h;simp only at h;split at h
  ·exact h
  ·exact absurd h (qkf (by decide))
theorem za2 {c:Lk} {w:ByteArray} {p k:Nat} (h:(qc7 w p k c).e=0):addW (c.vars.map Prod.fst) w=(qc7 w p k c).vars.map Prod.fst:=by
 unfold qc7 at h ⊢;cases hf:qa3 c.vars w with
 | none =>
  simp only;unfold addW;rw[if_neg (by rw[zdd hf];simp)]
  simp
 | some i =>
  rw[hf] at h;simp only at h ⊢;rw[qr2 hf];split at h
  ·exact absurd h (qkf (by decide))
  ·rename_i hu;rw[if_neg hu]
theorem qoq (l:List Sm):∀ (c:Lk),WfS l→(qap l c).e=0→vsS l (c.vars.map Prod.fst)=(qap l c).vars.map Prod.fst:=by
 match l with
 | []=>intro c _ _;rw[qap,vsS]
 | ⟨op,word,pl,ex,asw,asPl,undo,n,nPl,one,two⟩::rest =>
  intro c hw h;rw[qmv] at h ⊢;rw[qjx];obtain ⟨⟨hw1,hw2⟩,hwo,hwt,hwr⟩:=qd7.1 hw;dsimp only at hw1 hw2 hwo hwt;have hx:(qmw ⟨op,word,pl,ex,asw,asPl,undo,n,nPl,one,two⟩ c).e=0:=Decidable.byContradiction fun hn=>qb7 rest _ hn h
  have key:vsX ⟨op,word,pl,ex,asw,asPl,undo,n,nPl,one,two⟩ (c.vars.map Prod.fst)=(qmw ⟨op,word,pl,ex,asw,asPl,undo,n,nPl,one,two⟩ c).vars.map Prod.fst:=by
   unfold qmw at hx ⊢;unfold vsX;dsimp only at hx ⊢;by_cases o1:op=108
   ·rw[if_pos o1] at hx ⊢;rw[if_pos o1];cases ex with
    | none=>rcases hw2 with h | h | h | h | h | h<;>first | exact absurd rfl h.2 | omega
    | some e =>
     dsimp only at hx ⊢;have he0:(qao e c).2.e=0:=Decidable.byContradiction fun hn=>qf2 hn _ _ _ hx
     have hv:(qao e c).2.vars=c.vars:=qdj e c;show addW (vsE e _) word=_
     rw[qux e c he0 (hw1 e rfl),← za2 hx,hv]
   ·rw[if_neg o1] at hx ⊢;rw[if_neg o1];by_cases o2:op=99
    ·rw[if_pos o2] at hx ⊢;rw[if_pos o2];have hnn:¬ (n < 1∨5 < n):=fun hn=>by rw[if_pos hn] at hx;exact absurd hx (qkf (by decide))
     rw[if_neg hnn] at hx ⊢;by_cases ha:asw.toList.isEmpty
     ·rw[if_pos ha] at hx ⊢;have hz:asw.size=0:=by
       rw[List.isEmpty_iff,ByteArray.toList_eq] at ha;exact List.length_eq_zero_iff.2 ha
      rw[if_pos hz,zee hx hw1,qfk]
     ·rw[if_neg ha] at hx ⊢;have hz:¬ asw.size=0:=fun hz=>ha (by rw[List.isEmpty_iff,ByteArray.toList_eq];exact List.length_eq_zero_iff.1 hz)
      have hm0:(qbq ex 105 c).e=0:=Decidable.byContradiction fun hn=>qf2 hn _ _ _ hx
      rw[if_neg hz,zee hm0 hw1,← za2 hx,qfk]
    ·rw[if_neg o2] at hx ⊢;rw[if_neg o2];by_cases o3:op=105
     ·rw[if_pos o3] at hx ⊢;rw[if_pos o3];have h1:(qap one (qbq ex 98 c)).e=0:=Decidable.byContradiction fun hn=>qb7 two _ hn hx
      have h0:(qbq ex 98 c).e=0:=Decidable.byContradiction fun hn=>qb7 one _ hn h1
      have a1:=qoq one _ hwo h1;rw[qfk] at a1;rw[zee h0 hw1,a1,qoq two _ hwt hx]
     ·rw[if_neg o3] at hx ⊢;rw[if_neg o3];by_cases o4:op=116
      ·rw[if_pos o4] at hx ⊢;rw[if_pos o4];have h1:(qap one c).e=0:=Decidable.byContradiction fun hn=>qb7 two _ hn hx
       rw[qoq one c hwo h1,qoq two _ hwt hx]
      ·rw[if_neg o4] at hx ⊢;rw[if_neg o4];by_cases o5:op=114
       ·rw[if_pos o5] at hx ⊢;rw[if_pos o5];by_cases hn:9 < n
        ·rw[if_pos hn] at hx;exact absurd hx (qb7 one _ (qca (by decide) _))
        ·rw[if_neg hn] at hx ⊢;exact qoq one c hwo hx
       ·rw[if_neg o5,if_neg o5]
  rw[key];exact qoq rest _ hwr h
theorem qvy {s:ByteArray} {l:List Sm} (hr:read s=.ok l) (hc:check s=(0,0)) (answers:List Int) (N:Nat) (hN:3936602≤N) :
  ∃ m,runM (pgOf l) N ⟨[],List.replicate (pgOf l).nv 0,[],[],[],answers,0,0,false,0⟩=((play (qap l ⟨[],0,0⟩).vars l answers).over,m)∧m.asks=(play (qap l ⟨[],0,0⟩).vars l answers).asks∧m.vars=(play (qap l ⟨[],0,0⟩).vars l answers).held∧m.fin=(play (qap l ⟨[],0,0⟩).vars l answers).over:=by
 have he:(qap l ⟨[],0,0⟩).e=0:=by
  unfold check at hc;rw[hr] at hc;dsimp only at hc;split at hc
  ·rename_i h;exact h
  ·rename_i h;exact absurd (congrArg Prod.fst hc) h
 obtain ⟨wf,_⟩:=qd0 hr;obtain ⟨tr,co⟩:=qxq hr;obtain ⟨_,_,_,ok⟩:=qg9 l ⟨[],0,0⟩ wf tr (fun v hv=>by cases hv) he
 have ok:=ok [];rw[List.append_nil] at ok;have hvs:vsS l []=(qap l ⟨[],0,0⟩).vars.map Prod.fst:=qoq l ⟨[],0,0⟩ wf he;have hiv:∀ w i,qa3 (qap l ⟨[],0,0⟩).vars w=some i→idxW (vsS l []) w=i:=fun w i h=>by rw[hvs];exact (qwg h).2
 have:=co _ ok
 exact zl2 (pgOf l) _ (idxW (wsS l [])) (idxW (vsS l [])) hiv l ok (zef (pgOf l) l [] (List.prefix_refl _)) rfl (by show (vsS l []).length=_;rw[hvs,List.length_map]) answers N (by omega)
def qfb (k:Nat):Nat:=if k=18 then 2 else if k≤2∨(12≤k∧k≤16)∨k=19 then 1 else 0
def b2 (n:Nat):List UInt8:=[UInt8.ofNat (n / 256),UInt8.ofNat n]
structure OkI (i:Ins):Prop where
 k:i.k < 20
 a:i.a < 65536
 b:i.b < 65536
 za:qfb i.k=0→i.a=0
 zb:qfb i.k≠2→i.b=0
theorem za9 (ps:List (List (ByteArray×Int))):ps.dropLast.flatten.length≤ps.flatten.length:=by
 by_cases h:ps=[]
 ·subst h;simp
 ·obtain ⟨qs,q,e⟩:∃ qs q,ps=qs++[q]:=⟨_,_,(List.dropLast_concat_getLast h).symm⟩;subst e;simp
theorem zok (ps:List (List (ByteArray×Int))):(layP ps.dropLast (ps.getLastD [])).flatten.length≤ps.flatten.length:=by
 by_cases h:ps=[]
 ·subst h;simp[layP]
 ·obtain ⟨qs,q,e⟩:∃ qs q,ps=qs++[q]:=⟨_,_,(List.dropLast_concat_getLast h).symm⟩;subst e;rw[List.dropLast_concat];by_cases h2:qs=[]
  ·subst h2;simp[layP,List.getLastD_eq_getLast?]
  ·obtain ⟨rs,r,e⟩:∃ rs r,qs=rs++[r]:=⟨_,_,(List.dropLast_concat_getLast h2).symm⟩;subst e;simp[layP,List.getLastD_eq_getLast?]
theorem qwe {ps:List (List (ByteArray×Int))} (h:ps≠[]) (x:ByteArray×Int):(layP ps [x]).flatten.length=ps.flatten.length+1∧(layP ps [x]).length=ps.length∧layP ps [x]≠[]:=by
 obtain ⟨qs,q,e⟩:∃ qs q,ps=qs++[q]:=⟨_,_,(List.dropLast_concat_getLast h).symm⟩;subst e;simp[layP,List.getLastD_eq_getLast?];omega
theorem ztp {ps:List (List (ByteArray×Int))} (h:2≤ps.length) (x:List (ByteArray×Int)):(layP ps.dropLast x).length=ps.length - 1:=by
 unfold layP;simp;omega
theorem qgk (w:ByteArray) (v:Int) (u:Bool) (k:Nat):∀ t s,(tries w v u k t s).2.held=s.held∧(tries w v u k t s).2.piles=s.piles∧(tries w v u k t s).2.over=s.over∧(tries w v u k t s).2.failed=s.failed∧s.asks.length≤(tries w v u k t s).2.asks.length∧(∀ x,(tries w v u k t s).1=some (some x)→s.asks.length+1≤(tries w v u k t s).2.asks.length):=by
 induction k with
 | zero=>intro t s;exact ⟨rfl,rfl,rfl,rfl,Nat.le_refl _,fun x h=>by cases h⟩
 | succ k ih =>
  intro t s;unfold tries ask;cases hl:s.left with
  | nil=>exact ⟨rfl,rfl,rfl,rfl,by simp,fun x h=>by cases h⟩
  | cons x r =>
   simp only;split
   ·exact ⟨rfl,rfl,rfl,rfl,by simp,fun _ _=>by simp⟩
   ·obtain ⟨h1,h2,h3,h4,h5,h6⟩:=ih (t+1) { s with asks:=s.asks++[⟨w,v,t,u⟩],left:=r }
    simp only[List.length_append,List.length_singleton] at h5 h6;exact ⟨h1,h2,h3,h4,by omega,fun x hx=>by have:=h6 x hx;omega⟩
theorem qq3 (L:List (ByteArray×Int)):∀ s,(qch L s).held=s.held∧(qch L s).piles=s.piles∧(qch L s).failed=s.failed∧s.asks.length≤(qch L s).asks.length:=by
 induction L with
 | nil=>intro s;exact ⟨rfl,rfl,rfl,Nat.le_refl _⟩
 | cons a L ih =>
  intro s;obtain ⟨w,v⟩:=a;obtain ⟨h1,h2,h3,h4,h5,_⟩:=qgk w v true 3 1 s;rw[qch];cases ht:tries w v true 3 1 s with
  | mk o s1 =>
   rw[ht] at h1 h2 h4 h5;dsimp only at h1 h2 h4 h5;match o with
   | none=>exact ⟨h1,h2,h4,h5⟩
   | some none=>exact ⟨h1,h2,h4,h5⟩
   | some (some _) =>
    obtain ⟨g1,g2,g3,g4⟩:=ih s1;exact ⟨g1.trans h1,g2.trans h2,g3.trans h4,Nat.le_trans h5 g4⟩
def I3 (f:Rs→Rs):Prop:=∀ s,s.piles≠[]→s.piles.flatten.length≤s.asks.length→(f s).held.length=s.held.length∧(f s).piles.flatten.length≤(f s).asks.length∧((f s).over=0→(f s).stop=false→(f s).piles.length=s.piles.length)
theorem I3.ne {f:Rs→Rs} (h:I3 f) {s:Rs} (h1:s.piles≠[]) (h2:s.piles.flatten.length≤s.asks.length) (h3:(f s).over=0) (h4:(f s).stop=false):(f s).piles≠[]:=fun e=>by
 have:=(h s h1 h2).2.2 h3 h4
 rw[e] at this;exact h1 (List.length_eq_zero_iff.1 this.symm)
theorem qzs (V:Vs) (held:List Int) (w:ByteArray) (v:Int):(setV V held w v).length=held.length:=by
 unfold setV;split
 ·rfl
 ·simp
theorem zo1 (V:Vs) (word:ByteArray) (ex:Option Ex) (asw undo:ByteArray) (n:Nat):I3 (qei V word ex asw undo n):=by
 intro s hp hf;unfold qei;split
 ·exact ⟨rfl,hf,fun _ _=>rfl⟩
 ·rename_i arg _;obtain ⟨h1,h2,h3,h4,h5,h6⟩:=qgk word arg false n 1 s;cases ht:tries word arg false n 1 s with
  | mk o s1 =>
   rw[ht] at h1 h2 h3 h5 h6;dsimp only at h1 h2 h3 h5 h6;match o with
   | none =>
    simp only;exact ⟨by rw[h1],by rw[h2];omega,fun _ _=>by rw[h2]⟩
   | some none =>
    simp only;exact ⟨by rw[h1],by rw[h2];omega,fun _ _=>by rw[h2]⟩
   | some (some v) =>
    have h7:=h6 v rfl;simp only;have hp1:s1.piles≠[]:=by rw[h2];exact hp
    refine ⟨?_,?_,fun _ _=>?_⟩
    ·split
     ·rw[h1]
     ·rw[qzs,h1]
    ·split
     ·rw[h2];omega
     ·rw[(qwe hp1 _).1,h2];omega
    ·split
     ·rw[h2]
     ·rw[(qwe hp1 _).2.1,h2]
theorem zt0 {f:Rs→Rs} (h:I3 f) (hi:∀ s,s.going=false→f s=s) (n:Nat):I3 (iter f n):=by
 induction n with
 | zero=>intro s _ hf;exact ⟨rfl,hf,fun _ _=>rfl⟩
 | succ n ih =>
  intro s hp hf;rw[iter];obtain ⟨h1,h2,h3⟩:=h s hp hf;by_cases hg:(f s).over=0∧(f s).stop=false
  ·obtain ⟨g1,g2,g3⟩:=ih (f s) (h.ne hp hf hg.1 hg.2) h2;exact ⟨g1.trans h1,g2,fun a b=>(g3 a b).trans (h3 hg.1 hg.2)⟩
  ·have hno:(f s).going=false:=by
    cases hh:(f s).going with
    | false=>rfl
    | true =>
     exfalso;unfold Rs.going at hh;rw[Bool.and_eq_true,Bool.and_eq_true,beq_iff_eq,Bool.not_eq_true',Bool.not_eq_true'] at hh;exact hg hh.1
   rw[qjn (hi _ hno)];exact ⟨h1,h2,h3⟩
theorem zfk (V:Vs) (x:Sm) (h1:I3 (runS V x.one)) (h2:I3 (runS V x.two)):I3 (runX V x):=by
 intro s hp hf;unfold runX;split
 ·split
  ·exact ⟨rfl,hf,fun _ _=>rfl⟩
  ·exact ⟨qzs _ _ _ _,hf,fun _ _=>rfl⟩
 ·split
  ·exact zo1 V _ _ _ _ _ s hp hf
  ·split
   ·split
    ·exact ⟨rfl,hf,fun _ _=>rfl⟩
    ·split
     ·exact h1 s hp hf
     ·exact h2 s hp hf
   ·split
    ·obtain ⟨a1,a2,a3⟩:=h1 { s with piles:=s.piles++[[]] } (by simp) (by simpa using hf)
     dsimp only at a1 a2 a3 ⊢;generalize runS V x.one { s with piles:=s.piles++[[]] }=s1 at a1 a2 a3
     have hpos:=List.length_pos_iff.2 hp;split
     ·rename_i hc;refine ⟨a1,a2,fun b1 b2=>?_⟩
      rcases hc with hc | hc
      ·exact absurd b1 hc
      ·rw[b2] at hc;cases hc
     ·rename_i hc;have hc1:s1.over=0:=Decidable.byContradiction fun h=>hc (Or.inl h)
      have hc2:s1.stop=false:=by
       cases hh:s1.stop with
       | false=>rfl
       | true=>exact absurd (Or.inr hh) hc
      have hl:=a3 hc1 hc2;rw[List.length_append,List.length_singleton] at hl;split
      ·obtain ⟨u1,u2,u3,u4⟩:=qq3 (s1.piles.getLastD []).reverse { s1 with failed:=false,piles:=s1.piles.dropLast }
       have hu:qb5 { s1 with failed:=false }=qch (s1.piles.getLastD []).reverse { s1 with failed:=false,piles:=s1.piles.dropLast }:=rfl
       rw[hu];generalize qch (s1.piles.getLastD []).reverse { s1 with failed:=false,piles:=s1.piles.dropLast }=s2 at u1 u2 u3 u4
       dsimp only at u1 u2 u4;have hd:s1.piles.dropLast.length=s.piles.length:=by rw[List.length_dropLast,hl];omega
       have hf2:s2.piles.flatten.length≤s2.asks.length:=by
        rw[u2]
        have:=za9 s1.piles
        omega
       split
       ·obtain ⟨b1,b2,b3⟩:=h2 s2 (fun e=>by rw[u2] at e;rw[e] at hd;simp at hd;omega) hf2
        exact ⟨b1.trans ((congrArg List.length u1).trans a1),b2,fun c1 c2=>(b3 c1 c2).trans (by rw[u2,hd])⟩
       ·exact ⟨(congrArg List.length u1).trans a1,hf2,fun _ _=>by rw[u2,hd]⟩
      ·refine ⟨a1,?_,fun _ _=>?_⟩
       ·have:=zok s1.piles
        dsimp only;omega
       ·dsimp only;rw[ztp (by omega)]
        omega
    ·split
     ·exact zt0 h1 (fun s h=>qez V _ h) _ s hp hf
     ·exact ⟨rfl,hf,fun _ _=>rfl⟩
theorem qi3 (V:Vs) (l:List Sm):I3 (runS V l):=by
 match l with
 | []=>intro s _ hf;rw[qdy];exact ⟨rfl,hf,fun _ _=>rfl⟩
 | ⟨op,word,pl,ex,asw,asPl,undo,n,nPl,one,two⟩::rest =>
  intro s hp hf;rw[qci];split
  ·have hx:=zfk V ⟨op,word,pl,ex,asw,asPl,undo,n,nPl,one,two⟩ (qi3 V one) (qi3 V two);obtain ⟨h1,h2,h3⟩:=hx s hp hf;generalize hz:runX V ⟨op,word,pl,ex,asw,asPl,undo,n,nPl,one,two⟩ s=z at h1 h2 h3;by_cases hg:z.over=0∧z.stop=false
   ·have hne:z.piles≠[]:=by rw[← hz] at hg ⊢;exact hx.ne hp hf hg.1 hg.2
    obtain ⟨g1,g2,g3⟩:=qi3 V rest z hne h2;exact ⟨g1.trans h1,g2,fun a b=>(g3 a b).trans (h3 hg.1 hg.2)⟩
   ·have hno:z.going=false:=by
     cases hh:z.going with
     | false=>rfl
     | true =>
      exfalso;unfold Rs.going at hh;rw[Bool.and_eq_true,Bool.and_eq_true,beq_iff_eq,Bool.not_eq_true',Bool.not_eq_true'] at hh;exact hg hh.1
    rw[qez V rest hno];exact ⟨h1,h2,h3⟩
  ·rename_i hg;rw[qez V rest (by simpa using hg)]
   exact ⟨rfl,hf,fun _ _=>rfl⟩
def O3 (f:Rs→Rs):Prop:=∀ s,s.over≤3→(f s).over≤3
theorem zkv (L:List (ByteArray×Int)):O3 (qch L):=by
 induction L with
 | nil=>intro s h;exact h
 | cons a L ih =>
  intro s h;obtain ⟨w,v⟩:=a;obtain ⟨_,_,k3,_⟩:=qgk w v true 3 1 s;rw[qch];cases ht:tries w v true 3 1 s with
  | mk o s1 =>
   rw[ht] at k3;dsimp only at k3;match o with
   | none=>show s1.over≤3;omega
   | some none=>exact Nat.le_refl 3
   | some (some _)=>exact ih s1 (by omega)
theorem qy7:O3 qb5:=fun s h=>zkv _ { s with piles:=s.piles.dropLast } h
theorem zo0 (V:Vs) (word:ByteArray) (ex:Option Ex) (asw undo:ByteArray) (n:Nat):O3 (qei V word ex asw undo n):=by
 intro s h;unfold qei;cases evO V s.held ex with
 | none=>exact h
 | some arg =>
  obtain ⟨_,_,k3,_⟩:=qgk word arg false n 1 s;dsimp only;cases ht:tries word arg false n 1 s with
  | mk o s1 =>
   rw[ht] at k3;dsimp only at k3;match o with
   | none=>show s1.over≤3;omega
   | some none=>show s1.over≤3;omega
   | some (some _)=>show s1.over≤3;omega
theorem ztz {f:Rs→Rs} (h:O3 f) (n:Nat):O3 (iter f n):=by
 induction n with
 | zero=>intro s h;exact h
 | succ n ih=>intro s hs;exact ih _ (h s hs)
theorem zr9 (V:Vs) (x:Sm) (h1:O3 (runS V x.one)) (h2:O3 (runS V x.two)):O3 (runX V x):=by
 intro s h0;unfold runX;by_cases o1:x.op=108
 ·simp only[if_pos o1];cases evO V s.held x.ex<;>exact h0
 ·simp only[if_neg o1];by_cases o2:x.op=99
  ·simp only[if_pos o2];exact zo0 V x.word x.ex x.asw x.undo x.n s h0
  ·simp only[if_neg o2];by_cases o3:x.op=105
   ·simp only[if_pos o3];cases evO V s.held x.ex with
    | none=>exact h0
    | some v =>
     dsimp only;by_cases hv:v=1
     ·rw[if_pos hv];exact h1 s h0
     ·rw[if_neg hv];exact h2 s h0
   ·simp only[if_neg o3];by_cases o4:x.op=116
    ·simp only[if_pos o4];have q1:(runS V x.one { s with piles:=s.piles++[[]] }).over≤3:=h1 { s with piles:=s.piles++[[]] } h0
     generalize runS V x.one { s with piles:=s.piles++[[]] }=s1 at q1 ⊢
     by_cases hb:s1.over≠0∨s1.stop=true
     ·rw[if_pos hb];exact q1
     ·rw[if_neg hb];by_cases hf:s1.failed=true
      ·rw[if_pos hf];have q2:(qb5 { s1 with failed:=false }).over≤3:=qy7 { s1 with failed:=false } q1
       generalize qb5 { s1 with failed:=false }=s2 at q2 ⊢
       by_cases hg:s2.going=true
       ·rw[if_pos hg];exact h2 s2 q2
       ·rw[if_neg hg];exact q2
      ·rw[if_neg hf];exact q1
    ·simp only[if_neg o4];by_cases o5:x.op=114
     ·simp only[if_pos o5];exact ztz h1 x.n s h0
     ·simp only[if_neg o5];exact h0
theorem qso (V:Vs) (l:List Sm):O3 (runS V l):=by
 match l with
 | []=>intro s h;rw[qdy];exact h
 | ⟨op,word,pl,ex,asw,asPl,undo,n,nPl,one,two⟩::rest =>
  intro s h;rw[qci];refine qso V rest _ ?_;split
  ·exact zr9 V ⟨op,word,pl,ex,asw,asPl,undo,n,nPl,one,two⟩ (qso V one) (qso V two) s h
  ·exact h
theorem zsg (V:Vs) (l:List Sm) (a:List Int):(play V l a).over≤3:=by
 have q:=qso V l ⟨List.replicate V.length 0,a,[],[[]],0,false,false⟩ (Nat.zero_le _);unfold play;generalize runS V l ⟨List.replicate V.length 0,a,[],[[]],0,false,false⟩=s at q ⊢;unfold ended;by_cases hb:s.over≠0∨s.stop=true
 ·rw[if_pos hb];exact q
 ·rw[if_neg hb];by_cases hf:s.failed=true
  ·rw[if_pos hf];have q2:=qy7 s q;generalize qb5 s=s2 at q2 ⊢;by_cases hg:s2.over=0∧s2.stop=false
   ·rw[if_pos hg];show 2≤3;decide
   ·rw[if_neg hg];exact q2
  ·rw[if_neg hf];show 1≤3;decide
end Px
end Go.Proofs.YthanmfbakpcigaaGreatDoor
