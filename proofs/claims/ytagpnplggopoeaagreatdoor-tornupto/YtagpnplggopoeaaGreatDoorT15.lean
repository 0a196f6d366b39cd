import Derived.Test.YtagpnplggopoeaaGreatDoorT10
import Derived.Test.YtagpnplggopoeaaGreatDoorT02
import Derived.Test.YtagpnplggopoeaaGreatDoorT05
set_option maxRecDepth 100000
namespace Go.Proofs.YtagpnplggopoeaaGreatDoor
namespace Px
theorem qta {c:Lk} (h:V3 c) (e p:Nat):V3 (qew e p c):=by unfold V3;rw[qj2];exact h
theorem za5 {c:Lk} (h:V3 c) {w:ByteArray} {p k:Nat} (hk:K3 k):V3 (qid w p k c):=by
 unfold qid;split
 ·intro v hv;rcases List.mem_append.1 hv with h1 | h1
  ·exact h v h1
  ·rw[List.mem_singleton] at h1;rw[h1];exact hk
 ·split
  ·exact h
  ·exact qta h _ _
theorem qn4 {c:Lk} (h:V3 c) (x:Ex) (k:Nat):V3 (qh4 x k c):=by
 unfold qh4;split
 ·exact qdp h
 ·exact qta (qdp h) _ _
theorem zj4 {c:Lk} (h:V3 c) (x:Option Ex):V3 (argP x c):=by
 cases x with
 | none=>exact h
 | some x=>exact qn4 h x 105
theorem zyb {c:Lk} (h:V3 c) (w:ByteArray) (p:Nat):V3 (asP w p c):=by
 unfold asP;split
 ·exact h
 ·exact za5 h (Or.inl rfl)
theorem qqa {c:Lk} (h:V3 c) (n p a b:Nat):V3 (countP n p a b c):=by
 unfold countP;split
 ·exact qta h _ _
 ·exact h
theorem qgg (l:List Sm):∀ c,V3 c→V3 (qbz l c):=by
 match l with
 | []=>intro c h;rw[qjh];exact h
 | ⟨op,word,pl,ex,asw,asPl,undo,n,nPl,one,two⟩::rest =>
  intro c h;rw[qhv];refine qgg rest _ ?_;unfold qef;simp only;split
  ·cases ex with
   | none=>exact h
   | some e=>exact za5 (qdp h) (qdq e c h)
  ·split
   ·exact qqa (zyb (zj4 h _) _ _) _ _ _ _
   ·split
    ·cases ex with
     | none=>exact h
     | some e=>exact qgg two _ (qgg one _ (qn4 h e 98))
    ·split
     ·exact qgg two _ (qgg one _ h)
     ·split
      ·exact qgg one _ (qqa h _ _ _ _)
      ·exact h
theorem znd (x:Sm) (c:Lk) (h:V3 c):V3 (qef x c):=by
 have:=qgg [x] c h
 rw[qhv,qjh] at this;exact this
def E4 (c:Lk):Prop:=c.e=0∨c.e=4∨c.e=5∨c.e=6
theorem qmp {c:Lk} (h:E4 c) {e:Nat} (he:e=4∨e=5∨e=6) (p:Nat):E4 (qew e p c):=by
 unfold qew;split
 ·exact Or.inr he
 ·exact h
theorem qib (x:Ex):∀ c,E4 c→E4 (qaj x c).2:=by
 match x with
 | ⟨op,n,word,pl,own,none,_⟩ =>
  intro c h;simp only[qaj,qv3];split
  ·exact h
  ·split
   ·exact h
   ·split
    ·exact qmp h (by omega) _
    ·exact h
 | ⟨op,n,word,pl,own,some l,none⟩ =>
  intro c h;simp only[qaj,notP];split
  ·exact qib l c h
  ·exact qmp (qib l c h) (by omega) _
 | ⟨op,n,word,pl,own,some l,some r⟩ =>
  intro c h;simp only[qaj,binP];split
  ·exact qib r _ (qib l c h)
  ·exact qmp (qib r _ (qib l c h)) (by omega) _
theorem zih {c:Lk} (h:E4 c) (w:ByteArray) (p k:Nat):E4 (qid w p k c):=by
 unfold qid;split
 ·exact h
 ·split
  ·exact h
  ·exact qmp h (by omega) _
theorem zfp {c:Lk} (h:E4 c) (x:Ex) (k:Nat):E4 (qh4 x k c):=by
 unfold qh4;split
 ·exact qib x c h
 ·exact qmp (qib x c h) (by omega) _
theorem zye {c:Lk} (h:E4 c) (x:Option Ex):E4 (argP x c):=by
 cases x with
 | none=>exact h
 | some x=>exact zfp h x 105
theorem asP_e {c:Lk} (h:E4 c) (w:ByteArray) (p:Nat):E4 (asP w p c):=by
 unfold asP;split
 ·exact h
 ·exact zih h _ _ _
theorem zbd {c:Lk} (h:E4 c) (n p a b:Nat):E4 (countP n p a b c):=by
 unfold countP;split
 ·exact qmp h (by omega) _
 ·exact h
theorem qks (l:List Sm):∀ c,E4 c→E4 (qbz l c):=by
 match l with
 | []=>intro c h;rw[qjh];exact h
 | ⟨op,word,pl,ex,asw,asPl,undo,n,nPl,one,two⟩::rest =>
  intro c h;rw[qhv];refine qks rest _ ?_;unfold qef;simp only;split
  ·cases ex with
   | none=>exact h
   | some e=>exact zih (qib e c h) _ _ _
  ·split
   ·exact zbd (asP_e (zye h _) _ _) _ _ _ _
   ·split
    ·cases ex with
     | none=>exact h
     | some e=>exact qks two _ (qks one _ (zfp h e 98))
    ·split
     ·exact qks two _ (qks one _ h)
     ·split
      ·exact qks one _ (zbd h _ _ _ _)
      ·exact h
theorem qsw {s:ByteArray} {c p:Nat} (hs:s.size≤300) (h:read s=.error (c,p)):c=2∨c=3:=by
 unfold read at h;rw[if_neg (by omega)] at h
 split at h
 ·cases h;exact Or.inl rfl
 ·split at h
  ·cases h;exact Or.inr rfl
  ·cases h
theorem qtw {s:ByteArray} {l:List Sm} (h:read s=.ok l):check s=(if (qbz l ⟨[],0,0⟩).e=0 then (0,0) else ((qbz l ⟨[],0,0⟩).e,(qbz l ⟨[],0,0⟩).pl)):=by
 unfold check;rw[h];simp only;rw[zft h]
theorem qf4 {s:ByteArray} {r:Nat×Nat} (h:read s=.error r):check s=r:=by
 unfold check;rw[h]
theorem qsg {s:ByteArray} {t:Tok} (h:Tk s t) (hk:t.k=110):valOf (txt s t).toList≤9999:=by
 obtain ⟨h1,h2⟩:=Ref.qkx h hk;have h3:=Ref.qou (txt s t).toList 0 (by
  intro c hc;rw[ByteArray.toList_eq] at hc;obtain ⟨i,hi,rfl⟩:=List.getElem_of_mem hc
  have:=h2 i hi
  unfold qba at this;simp at this;have h5:((txt s t).data.toList[i]).toNat=((s.extract t.a t.b)[i]'hi).toNat:=rfl;omega)
 have h4:(txt s t).toList.length≤4:=by rw[ByteArray.toList_eq];exact h1
 have h6:10 ^ (txt s t).toList.length≤10 ^ 4:=Nat.pow_le_pow_right (by decide) h4
 unfold valOf;omega
def szE:Ex→Nat
 | ⟨_,n,word,_,_,none,_⟩=>word.size+n+12
 | ⟨_,_,_,_,_,some l,none⟩=>szE l+12
 | ⟨_,_,_,_,_,some l,some r⟩=>szE l+szE r+12
def GdE:Ex→Prop
 | ⟨op,n,word,_,_,none,_⟩=>(op=119→0 < word.size)∧n≤9999
 | ⟨_,_,_,_,_,some l,none⟩=>GdE l
 | ⟨_,_,_,_,_,some l,some r⟩=>GdE l∧GdE r
theorem zez (x:Ex) (a:Nat):szE { x with pl:=a }=szE x:=by
 match x with
 | ⟨_,_,_,_,_,none,_⟩=>rfl
 | ⟨_,_,_,_,_,some _,none⟩=>rfl
 | ⟨_,_,_,_,_,some _,some _⟩=>rfl
theorem GdE.place {x:Ex} (h:GdE x) (a:Nat):GdE { x with pl:=a }:=by
 match x with
 | ⟨_,_,_,_,_,none,_⟩=>exact h
 | ⟨_,_,_,_,_,some _,none⟩=>exact h
 | ⟨_,_,_,_,_,some _,some _⟩=>exact h
def Sz (s:ByteArray) (g:Ps→Except Nat (Ex×Ps)):Prop:=∀ st x st',Tk s st.t→g st=.ok (x,st')→GdE x∧szE x+12000 * st.t.a≤12000 * st'.t.a
theorem zos {s:ByteArray} {g:Ps→Except Nat (Ex×Ps)} (hg:Goes s g) (hs:Sz s g) (a b:UInt8) (n:Nat):∀ (pl lo:Nat) (e:Ex) (st:Ps) (x:Ex) (st':Ps),Tk s st.t→GdE e→szE e+12000 * lo≤12000 * st.t.a→chain s g a b n pl e st=.ok (x,st')→GdE x∧szE x+12000 * lo≤12000 * st'.t.a:=by
 induction n with
 | zero=>intro pl lo e st x st' _ _ _ h;simp[chain] at h
 | succ n ih =>
  intro pl lo e st x st' ht he hle h;rw[chain] at h;split at h
  ·rename_i ho;have g0:=qaf ht ho;have l0:=g0.lt;cases hp:g (nx s st) with
   | error p=>rw[hp] at h;cases h
   | ok r =>
    obtain ⟨k,st1⟩:=r;rw[hp] at h;have g1:=hg _ _ _ g0.tk hp;obtain ⟨k1,k2⟩:=hs _ _ _ g0.tk hp;exact ih pl lo ⟨a.toNat,0,nowt,pl,st.t.a,some e,some k⟩ _ _ _ g1.tk ⟨he,k1⟩ (by simp only[szE];omega) h
  ·split at h
   ·rename_i ho;have g0:=qaf ht ho;have l0:=g0.lt;cases hp:g (nx s st) with
    | error p=>rw[hp] at h;cases h
    | ok r =>
     obtain ⟨k,st1⟩:=r;rw[hp] at h;have g1:=hg _ _ _ g0.tk hp;obtain ⟨k1,k2⟩:=hs _ _ _ g0.tk hp;exact ih pl lo ⟨b.toNat,0,nowt,pl,st.t.a,some e,some k⟩ _ _ _ g1.tk ⟨he,k1⟩ (by simp only[szE];omega) h
   ·cases h;exact ⟨he,hle⟩
theorem zp5 {s:ByteArray} {g:Ps→Except Nat (Ex×Ps)} (hg:Goes s g) (hs:Sz s g) (a b:UInt8):Sz s (row s g a b):=by
 intro st x st' ht h;unfold row at h;cases hp:g st with
 | error p=>rw[hp] at h;cases h
 | ok r =>
  obtain ⟨e,st1⟩:=r;rw[hp] at h;have g1:=hg _ _ _ ht hp;obtain ⟨k1,k2⟩:=hs _ _ _ ht hp;exact zos hg hs _ _ _ _ _ _ _ _ _ g1.tk k1 k2 h
theorem zpy {s:ByteArray} {g:Ps→Except Nat (Ex×Ps)} (hg:Goes s g) (hs:Sz s g):Sz s (sum s g):=zp5 (qgp hg) (zp5 hg hs _ _) _ _
theorem zir {s:ByteArray} {g:Ps→Except Nat (Ex×Ps)} (hg:Goes s g) (hs:Sz s g):Sz s (expr s g):=by
 intro st x st' ht h;unfold expr at h;cases hp:sum s g st with
 | error p=>rw[hp] at h;cases h
 | ok r =>
  obtain ⟨e,st1⟩:=r;rw[hp] at h;simp only at h;have g1:=qgb hg _ _ _ ht hp;obtain ⟨j1,j2⟩:=zpy hg hs _ _ _ ht hp;cases hc:qec s st1.t with
  | none=>rw[hc] at h;cases h;exact ⟨j1,j2⟩
  | some o =>
   rw[hc] at h;simp only at h;have hk:=qm5 hc;have g0:Good s st1 (nx s st1):=qe5 g1.tk (by rw[hk];decide) (by rw[hk];decide)
   have l0:=g0.lt;cases hq:sum s g (nx s st1) with
   | error p=>rw[hq] at h;cases h
   | ok r2 =>
    obtain ⟨k,st2⟩:=r2;rw[hq] at h;obtain ⟨i1,i2⟩:=zpy hg hs _ _ _ g0.tk hq;cases h;exact ⟨⟨j1,i1⟩,by simp only[szE];omega⟩
theorem zu8 (s:ByteArray) (n:Nat):Sz s (atom s n):=by
 induction n with
 | zero=>intro st x st' _ h;simp[atom] at h
 | succ n ih =>
  intro st x st' ht h;have hgo:=qbj s (n+1) _ _ _ ht h;have hlt:=hgo.lt;rw[atom] at h;split at h
  ·rename_i hk;cases h
   have:=qsg ht hk
   refine ⟨⟨fun h=>absurd h (by decide),this⟩,?_⟩
   simp only[leaf,szE]
   have:nowt.size=0:=rfl
   omega
  ·split at h
   ·rename_i hk;cases h;have h1:=ht.lt (by rw[hk];decide) (by rw[hk];decide)
    have h2:=ht.le;have h3:=(qfv s st.t.b h2).2;have h4:(txt s st.t).size=st.t.b - st.t.a:=by unfold txt;rw[ByteArray.size_extract];omega
    refine ⟨⟨fun _=>by rw[h4];omega,Nat.zero_le _⟩,?_⟩
    simp only[leaf,szE];rw[h4]
    have:st.t.b≤(nx s st).t.a:=h3
    omega
   ·split at h
    ·cases h;refine ⟨⟨fun h=>absurd h (by decide),by decide⟩,?_⟩
     simp only[leaf,szE]
     have:nowt.size=0:=rfl
     omega
    ·split at h
     ·cases h;refine ⟨⟨fun h=>absurd h (by decide),by decide⟩,?_⟩
      simp only[leaf,szE]
      have:nowt.size=0:=rfl
      omega
     ·split at h
      ·rename_i ho;have g0:=qaf ht ho;have l0:=g0.lt;cases hp:atom s n (nx s st) with
       | error p=>rw[hp] at h;cases h
       | ok r =>
        obtain ⟨k,st1⟩:=r;rw[hp] at h;obtain ⟨k1,k2⟩:=ih _ _ _ g0.tk hp;cases h;exact ⟨k1,by simp only[szE];omega⟩
      ·split at h
       ·rename_i ho;have g0:=qaf (st:=dn st) ht ho;have l0:st.t.a < (nx s (dn st)).t.a:=g0.lt;cases hp:expr s (atom s n) (nx s (dn st)) with
        | error p=>rw[hp] at h;cases h
        | ok r =>
         obtain ⟨k,st1⟩:=r;have g1:=qf3 (qbj s n) _ _ _ g0.tk hp;obtain ⟨k1,k2⟩:=zir (qbj s n) ih _ _ _ g0.tk hp;rw[hp] at h;simp only at h;split at h
         ·rename_i ho2;have g2:=qaf g1.tk ho2;have l2:=g2.lt;have l3:st1.t.a < (upp (nx s st1)).t.a:=l2;cases h;exact ⟨k1.place _,by rw[zez];omega⟩
         ·cases h
       ·cases h
theorem qp2 (s:ByteArray):Sz s (qa4 s):=zir (qbj s _) (zu8 s _)
def szO (x:Option Ex):Nat :=
 match x with
 | none=>0
 | some e=>szE e
def GdO (x:Option Ex):Prop:=∀ e,x=some e→GdE e
def szS:List Sm→Nat
 | []=>0
 | ⟨_,word,_,ex,asw,_,undo,n,_,one,two⟩::rest=>word.size+szO ex+asw.size+undo.size+n+100+szS one+szS two+szS rest
def GdS:List Sm→Prop
 | []=>True
 | ⟨op,word,_,ex,_,_,_,n,_,one,two⟩::rest=>(op=108∨op=99→0 < word.size)∧n≤9999∧GdO ex∧GdS one∧GdS two∧GdS rest
def szX (x:Sm):Nat:=x.word.size+szO x.ex+x.asw.size+x.undo.size+x.n+100+szS x.one+szS x.two
def GdX (x:Sm):Prop:=(x.op=108∨x.op=99→0 < x.word.size)∧x.n≤9999∧GdO x.ex∧GdS x.one∧GdS x.two
theorem qhj:szS []=0:=by rw[szS]
theorem qfq (x:Sm) (l:List Sm):szS (x::l)=szX x+szS l:=by
 obtain ⟨op,word,pl,ex,asw,asPl,undo,n,nPl,one,two⟩:=x;rw[szS]<;>rfl
theorem qc0:GdS []:=by rw[GdS];trivial
theorem qhi {x:Sm} {l:List Sm}:GdS (x::l)↔GdX x∧GdS l:=by
 obtain ⟨op,word,pl,ex,asw,asPl,undo,n,nPl,one,two⟩:=x;rw[GdS];unfold GdX;constructor
 ·rintro ⟨h1,h2,h3,h4,h5,h6⟩;exact ⟨⟨h1,h2,h3,h4,h5⟩,h6⟩
 ·rintro ⟨⟨h1,h2,h3,h4,h5⟩,h6⟩;exact ⟨h1,h2,h3,h4,h5,h6⟩
theorem zla (l:List Sm) (x:Sm):szS (l++[x])=szS l+szX x:=by
 induction l with
 | nil=>rw[List.nil_append,qfq,qhj];omega
 | cons y l ih=>rw[List.cons_append,qfq,qfq,ih];omega
theorem zbs {l:List Sm} {x:Sm} (h:GdS l) (hx:GdX x):GdS (l++[x]):=by
 induction l with
 | nil=>exact qhi.2 ⟨hx,qc0⟩
 | cons y l ih=>exact qhi.2 ⟨(qhi.1 h).1,ih (qhi.1 h).2⟩
def SzS (s:ByteArray) (g:Ps→Except Nat (Sm×Ps)):Prop:=∀ st x st',Tk s st.t→g st=.ok (x,st')→GdX x∧szX x+12000 * st.t.a≤12000 * st'.t.a
theorem qzm {s:ByteArray} {g:Ps→Except Nat (Sm×Ps)} (hg:Goes s g) (hs:SzS s g) (stop:Ps→Bool) (n:Nat):∀ (l:List Sm) (st:Ps) (x:List Sm) (st':Ps),Tk s st.t→GdS l→stmts s g stop n l st=.ok (x,st')→GdS x∧szS x+12000 * st.t.a≤12000 * st'.t.a+szS l:=by
 induction n with
 | zero=>intro l st x st' _ _ h;simp[stmts] at h
 | succ n ih =>
  intro l st x st' ht hl h;rw[stmts] at h;split at h
  ·cases h;exact ⟨hl,by omega⟩
  ·cases hp:g st with
   | error p=>rw[hp] at h;cases h
   | ok r =>
    obtain ⟨y,st1⟩:=r;rw[hp] at h;have g1:=hg _ _ _ ht hp;obtain ⟨m1,m2⟩:=hs _ _ _ ht hp;obtain ⟨i1,i2⟩:=ih _ _ _ _ g1.tk (zbs hl m1) h;rw[zla] at i2;exact ⟨i1,by omega⟩
theorem ql6 {s:ByteArray} {g:Ps→Except Nat (Sm×Ps)} (hg:Goes s g) (hs:SzS s g) {st:Ps} {x:List Sm} {st':Ps} (ht:Tk s st.t) (h:block s g st=.ok (x,st')):GdS x∧szS x+12000 * st.t.a≤12000 * st'.t.a:=by
 unfold block at h;split at h
 ·rename_i ho;have g0:=qaf (st:=dn st) ht ho;have l0:st.t.a < (nx s (dn st)).t.a:=g0.lt;cases hp:stmts s g (fun st=>onB s st.t ⟨#[125]⟩) (s.size+1) [] (nx s (dn st)) with
  | error p=>rw[hp] at h;cases h
  | ok r =>
   obtain ⟨l,st1⟩:=r;rw[hp] at h;obtain ⟨i1,i2⟩:=qzm hg hs _ _ _ _ _ _ g0.tk qc0 hp;obtain ⟨g1,g2⟩:=qcs hg _ _ _ _ _ _ g0.tk hp;have g3:=qaf g1.tk g2;have l3:st1.t.a < (upp (nx s st1)).t.a:=g3.lt;rw[qhj] at i2;cases h;exact ⟨i1,by omega⟩
 ·cases h
theorem qtj {s:ByteArray} {k:Nat} {st st':Ps} (h:kind s k st=.ok st'):st.t.k=k∧st'=nx s st:=by
 unfold kind at h;split at h
 ·rename_i hk;cases h;exact ⟨hk,rfl⟩
 ·cases h
theorem qiv {s:ByteArray} {st st':Ps} (ht:Tk s st.t) (h:kind s 119 st=.ok st'):0 < (txt s st.t).size∧(txt s st.t).size+st.t.a≤st'.t.a:=by
 obtain ⟨hk,rfl⟩:=qtj h;have h1:=ht.lt (by rw[hk];decide) (by rw[hk];decide)
 have h2:=ht.le;have h3:st.t.b≤(nx s st).t.a:=(qfv s st.t.b h2).2;have h4:(txt s st.t).size=st.t.b - st.t.a:=by unfold txt;rw[ByteArray.size_extract];omega
 rw[h4];omega
theorem zaa {s:ByteArray} {st st':Ps} (ht:Tk s st.t) (h:kind s 110 st=.ok st'):valOf (txt s st.t).toList≤9999:=qsg ht (qtj h).1
theorem qhf:GdO none:=fun e h=>by cases h
theorem qhe {e:Ex} (h:GdE e):GdO (some e):=fun e' h'=>by cases h';exact h
theorem ztk (s:ByteArray):SzS s (letS s):=by
 intro st x st' ht h;unfold letS at h;cases h1:kind s 119 st with
 | error p=>rw[h1] at h;cases h
 | ok st1 =>
  rw[h1] at h;simp only at h;have g1:=qa6 ht (by decide) (by decide) h1
  obtain ⟨w1,w2⟩:=qiv ht h1;cases h2:need s ⟨#[61]⟩ st1 with
  | error p=>rw[h2] at h;cases h
  | ok st2 =>
   rw[h2] at h;simp only at h;have g2:=qav g1.tk h2;cases h3:qa4 s st2 with
   | error p=>rw[h3] at h;cases h
   | ok r =>
    obtain ⟨e,st3⟩:=r;rw[h3] at h;simp only at h;have g3:=qbb s _ _ _ g2.tk h3;obtain ⟨e1,e2⟩:=qp2 s _ _ _ g2.tk h3;cases h4:need s ⟨#[59]⟩ st3 with
    | error p=>rw[h4] at h;cases h
    | ok st4 =>
     have g4:=qav g3.tk h4;rw[h4] at h;cases h;have l2:=g2.lt;have l4:=g4.lt;refine ⟨⟨fun _=>w1,Nat.zero_le _,qhe e1,qc0,qc0⟩,?_⟩
     unfold szX;simp only[qa8,qhj,szO]
     have:nowt.size=0:=rfl
     omega
theorem zux (s:ByteArray):SzS s (call s):=by
 intro st x st' ht h;unfold call at h;cases h1:kind s 119 st with
 | error p=>rw[h1] at h;cases h
 | ok st1 =>
  rw[h1] at h;simp only at h;have g1:=qa6 ht (by decide) (by decide) h1
  obtain ⟨w1,w2⟩:=qiv ht h1;cases h2:need s ⟨#[40]⟩ st1 with
  | error p=>rw[h2] at h;cases h
  | ok st2 =>
   rw[h2] at h;simp only at h;have g2:=qav g1.tk h2;generalize hz:({ qa8 with op:=99,word:=txt s st.t,pl:=st.t.a,n:=1 }:Sm)=x2 at h
   have z0:x2.word=txt s st.t∧x2.n=1∧x2.asw.size=0∧x2.undo.size=0∧x2.ex=none∧x2.one=[]∧x2.two=[]:=by rw[← hz];exact ⟨rfl,rfl,rfl,rfl,rfl,rfl,rfl⟩
   cases h3:qaw s x2 st2 with
   | error p=>rw[h3] at h;cases h
   | ok r =>
    obtain ⟨x3,st3⟩:=r;rw[h3] at h;simp only at h;have g3:=qet g2.tk h3;have z3:x3.word=txt s st.t∧x3.n=1∧x3.asw.size=0∧x3.undo.size=0∧x3.one=[]∧x3.two=[]∧GdO x3.ex∧szO x3.ex+12000 * st2.t.a≤12000 * st3.t.a:=by
     unfold qaw at h3;split at h3
     ·cases h3;exact ⟨z0.1,z0.2.1,z0.2.2.1,z0.2.2.2.1,z0.2.2.2.2.2.1,z0.2.2.2.2.2.2,by rw[z0.2.2.2.2.1];exact qhf,by rw[z0.2.2.2.2.1];simp[szO]⟩
     ·cases hp:qa4 s st2 with
      | error p=>rw[hp] at h3;cases h3
      | ok r =>
       obtain ⟨e,st3'⟩:=r;rw[hp] at h3;obtain ⟨e1,e2⟩:=qp2 s _ _ _ g2.tk hp;cases h3;exact ⟨z0.1,z0.2.1,z0.2.2.1,z0.2.2.2.1,z0.2.2.2.2.2.1,z0.2.2.2.2.2.2,qhe e1,e2⟩
    cases h4:need s ⟨#[41]⟩ st3 with
    | error p=>rw[h4] at h;cases h
    | ok st4 =>
     rw[h4] at h;simp only at h;have g4:=qav g3.tk h4;cases h5:qa9 s x3 st4 with
     | error p=>rw[h5] at h;cases h
     | ok r5 =>
      obtain ⟨x5,st5⟩:=r5;rw[h5] at h;simp only at h;have g5:=qfo g4.tk h5;have z5:x5.word=x3.word∧x5.n=1∧x5.undo.size=0∧x5.one=[]∧x5.two=[]∧x5.ex=x3.ex∧x5.asw.size+12000 * st4.t.a≤12000 * st5.t.a:=by
       unfold qa9 at h5;split at h5
       ·rename_i ho;have g0:=qaf g4.tk ho;have l0:=g0.lt;cases hp:kind s 119 (nx s st4) with
        | error p=>rw[hp] at h5;cases h5
        | ok st' =>
         rw[hp] at h5;obtain ⟨v1,v2⟩:=qiv g0.tk hp;cases h5;exact ⟨rfl,z3.2.1,z3.2.2.2.1,z3.2.2.2.2.1,z3.2.2.2.2.2.1,rfl,by simp only;omega⟩
       ·cases h5;exact ⟨rfl,z3.2.1,z3.2.2.2.1,z3.2.2.2.2.1,z3.2.2.2.2.2.1,rfl,by rw[z3.2.2.1];omega⟩
      cases h6:qat s x5 st5 with
      | error p=>rw[h6] at h;cases h
      | ok r6 =>
       obtain ⟨x6,st6⟩:=r6;rw[h6] at h;simp only at h;have g6:=qe6 g5.tk h6;have z6:x6.word=x5.word∧x6.n=1∧x6.one=[]∧x6.two=[]∧x6.ex=x5.ex∧x6.asw=x5.asw∧x6.undo.size+12000 * st5.t.a≤12000 * st6.t.a:=by
        unfold qat at h6;split at h6
        ·rename_i ho;have g0:=qaf g5.tk ho;have l0:=g0.lt;cases hp:kind s 119 (nx s st5) with
         | error p=>rw[hp] at h6;cases h6
         | ok st' =>
          rw[hp] at h6;obtain ⟨v1,v2⟩:=qiv g0.tk hp;cases h6;exact ⟨rfl,z5.2.1,z5.2.2.2.1,z5.2.2.2.2.1,rfl,rfl,by simp only;omega⟩
        ·cases h6;exact ⟨rfl,z5.2.1,z5.2.2.2.1,z5.2.2.2.2.1,rfl,rfl,by rw[z5.2.2.1];omega⟩
       cases h7:qas s x6 st6 with
       | error p=>rw[h7] at h;cases h
       | ok r7 =>
        obtain ⟨x7,st7⟩:=r7;rw[h7] at h;simp only at h;have g7:=qeh g6.tk h7;have z7:x7.word=x6.word∧x7.one=[]∧x7.two=[]∧x7.ex=x6.ex∧x7.asw=x6.asw∧x7.undo=x6.undo∧x7.n≤9999∧x7.n+12000 * st6.t.a≤12000 * st7.t.a+1:=by
         unfold qas at h7;split at h7
         ·rename_i ho;have g0:=qaf g6.tk ho;have l0:=g0.lt;cases hp:kind s 110 (nx s st6) with
          | error p=>rw[hp] at h7;cases h7
          | ok st' =>
           rw[hp] at h7;have v1:=zaa g0.tk hp;have g8:=qa6 g0.tk (by decide) (by decide) hp
           have l8:=g8.lt;cases h7;exact ⟨rfl,z6.2.2.1,z6.2.2.2.1,rfl,rfl,rfl,v1,by simp only;omega⟩
         ·cases h7;exact ⟨rfl,z6.2.2.1,z6.2.2.2.1,rfl,rfl,rfl,by rw[z6.2.1];decide,by rw[z6.2.1];omega⟩
        cases h8:need s ⟨#[59]⟩ st7 with
        | error p=>rw[h8] at h;cases h
        | ok st8 =>
         have g8:=qav g7.tk h8;rw[h8] at h;cases h;have l1:=g1.lt;have l2:=g2.lt;have l4:=g4.lt;have l8:=g8.lt;have hw:x.word=txt s st.t:=by rw[z7.1,z6.1,z5.1,z3.1]
         have he:x.ex=x3.ex:=by rw[z7.2.2.2.1,z6.2.2.2.2.1,z5.2.2.2.2.2.1]
         refine ⟨⟨fun _=>by rw[hw];exact w1,z7.2.2.2.2.2.2.1,by rw[he];exact z3.2.2.2.2.2.2.1,by rw[z7.2.1];exact qc0,by rw[z7.2.2.1];exact qc0⟩,?_⟩
         unfold szX;rw[hw,he,z7.2.1,z7.2.2.1,qhj,z7.2.2.2.2.1,z7.2.2.2.2.2.1,z6.2.2.2.2.2.1];have q3:=z3.2.2.2.2.2.2.2;have q5:=z5.2.2.2.2.2.2;have q6:=z6.2.2.2.2.2.2;have q7:=z7.2.2.2.2.2.2.2;omega
theorem zxh {s:ByteArray} {g:Ps→Except Nat (Sm×Ps)} (hg:Goes s g) (hs:SzS s g):∀ st x st',Tk s st.t→ifS s g st=.ok (x,st')→GdX x∧szX x+12000 * st.t.a≤12000 * st'.t.a+100:=by
 intro st x st' ht h;unfold ifS at h;cases h1:qa4 s st with
 | error p=>rw[h1] at h;cases h
 | ok r =>
  obtain ⟨e,st1⟩:=r;rw[h1] at h;simp only at h;have g1:=qbb s _ _ _ ht h1;obtain ⟨e1,e2⟩:=qp2 s _ _ _ ht h1;cases h2:block s g st1 with
  | error p=>rw[h2] at h;cases h
  | ok r =>
   obtain ⟨l,st2⟩:=r;rw[h2] at h;simp only at h;have g2:=qa0 hg _ _ _ g1.tk h2;obtain ⟨m1,m2⟩:=ql6 hg hs g1.tk h2;split at h
   ·rename_i ho;have g3:=qaf g2.tk ho;have l3:=g3.lt;cases h4:block s g (nx s st2) with
    | error p=>rw[h4] at h;cases h
    | ok r =>
     obtain ⟨m,st3⟩:=r;obtain ⟨m3,m4⟩:=ql6 hg hs g3.tk h4;rw[h4] at h;cases h;refine ⟨⟨fun h=>absurd h (by show ¬((105:Nat)=108∨(105:Nat)=99);decide),Nat.zero_le _,qhe e1,m1,m3⟩,?_⟩
     unfold szX;simp only[qa8,szO]
     have:nowt.size=0:=rfl
     omega
   ·cases h;refine ⟨⟨fun h=>absurd h (by show ¬((105:Nat)=108∨(105:Nat)=99);decide),Nat.zero_le _,qhe e1,m1,qc0⟩,?_⟩
    unfold szX;simp only[qa8,szO,qhj]
    have:nowt.size=0:=rfl
    omega
theorem zrf {s:ByteArray} {g:Ps→Except Nat (Sm×Ps)} (hg:Goes s g) (hs:SzS s g):∀ st x st',Tk s st.t→tryS s g st=.ok (x,st')→GdX x∧szX x+12000 * st.t.a≤12000 * st'.t.a+100:=by
 intro st x st' ht h;unfold tryS at h;cases h1:block s g st with
 | error p=>rw[h1] at h;cases h
 | ok r =>
  obtain ⟨l,st1⟩:=r;rw[h1] at h;simp only at h;have g1:=qa0 hg _ _ _ ht h1;obtain ⟨m1,m2⟩:=ql6 hg hs ht h1;cases h2:need s ⟨#[101,108,115,101]⟩ st1 with
  | error p=>rw[h2] at h;cases h
  | ok st2 =>
   rw[h2] at h;simp only at h;have g2:=qav g1.tk h2;have l2:=g2.lt;cases h3:block s g st2 with
   | error p=>rw[h3] at h;cases h
   | ok r =>
    obtain ⟨m,st3⟩:=r;obtain ⟨m3,m4⟩:=ql6 hg hs g2.tk h3;rw[h3] at h;cases h;refine ⟨⟨fun h=>absurd h (by show ¬((116:Nat)=108∨(116:Nat)=99);decide),Nat.zero_le _,qhf,m1,m3⟩,?_⟩
    unfold szX;simp only[qa8,szO]
    have:nowt.size=0:=rfl
    omega
theorem zcn {s:ByteArray} {g:Ps→Except Nat (Sm×Ps)} (hg:Goes s g) (hs:SzS s g):∀ st x st',Tk s st.t→qbu s g st=.ok (x,st')→GdX x∧szX x+12000 * st.t.a≤12000 * st'.t.a+100:=by
 intro st x st' ht h;unfold qbu at h;cases h1:kind s 110 st with
 | error p=>rw[h1] at h;cases h
 | ok st1 =>
  rw[h1] at h;simp only at h;have g1:=qa6 ht (by decide) (by decide) h1
  have l1:=g1.lt;have v1:=zaa ht h1;cases h2:block s g st1 with
  | error p=>rw[h2] at h;cases h
  | ok r =>
   obtain ⟨m,st3⟩:=r;obtain ⟨m1,m2⟩:=ql6 hg hs g1.tk h2;rw[h2] at h;cases h;refine ⟨⟨fun h=>absurd h (by show ¬((114:Nat)=108∨(114:Nat)=99);decide),v1,qhf,m1,qc0⟩,?_⟩
   unfold szX;simp only[qa8,szO,qhj]
   have:nowt.size=0:=rfl
   omega
theorem zrq (s:ByteArray) (n:Nat):SzS s (stmt s n):=by
 induction n with
 | zero=>intro st x st' _ h;simp[stmt] at h
 | succ n ih =>
  intro st x st' ht h;have hgo:=qam s (n+1) _ _ _ ht h;have hlt:=hgo.lt;rw[stmt] at h;split at h
  ·rename_i ho;have g1:=qaf ht ho;have l1:=g1.lt;obtain ⟨m1,m2⟩:=ztk s _ _ _ g1.tk h;exact ⟨m1,by omega⟩
  ·split at h
   ·rename_i ho;have g1:=qaf ht ho;have l1:=g1.lt;obtain ⟨m1,m2⟩:=zux s _ _ _ g1.tk h;exact ⟨m1,by omega⟩
   ·split at h
    ·rename_i ho;have g1:=qaf ht ho;have l1:=g1.lt;obtain ⟨m1,m2⟩:=zxh (qam s n) ih _ _ _ g1.tk h;exact ⟨m1,by omega⟩
    ·split at h
     ·rename_i ho;have g1:=qaf ht ho;have l1:=g1.lt;obtain ⟨m1,m2⟩:=zrf (qam s n) ih _ _ _ g1.tk h;exact ⟨m1,by omega⟩
     ·split at h
      ·rename_i ho;have g1:=qaf ht ho;have l1:=g1.lt;obtain ⟨m1,m2⟩:=zcn (qam s n) ih _ _ _ g1.tk h;exact ⟨m1,by omega⟩
      ·have ho:x={ qa8 with op:=102 }:=by
        unfold qig at h;cases h1:need s ⟨#[102,97,105,108]⟩ st with
        | error p=>rw[h1] at h;cases h
        | ok st1 =>
         rw[h1] at h;simp only at h;cases h2:need s ⟨#[59]⟩ st1 with
         | error p=>rw[h2] at h;cases h
         | ok st2=>rw[h2] at h;cases h;rfl
       rw[ho];refine ⟨⟨fun h=>absurd h (by decide),Nat.zero_le _,qhf,qc0,qc0⟩,?_⟩
       unfold szX;simp only[qa8,szO,qhj]
       have:nowt.size=0:=rfl
       omega
theorem qxo {s:ByteArray} {l:List Sm} (h:read s=.ok l):GdS l∧szS l≤3600000:=by
 unfold read at h;split at h
 ·cases h
 ·rename_i hz;cases hp:stmts s (stmt s (s.size+1)) (fun st=>st.t.k == 0) (s.size+1) [] ⟨tok s 0,0,-1⟩ with
  | error p=>rw[hp] at h;cases h
  | ok r =>
   obtain ⟨l',st⟩:=r;rw[hp] at h;simp only at h;split at h
   ·cases h
   ·cases h;have ht:=(qfv s 0 (Nat.zero_le _)).1;obtain ⟨i1,i2⟩:=qzm (qam s _) (zrq s _) _ _ _ _ _ _ ht qc0 hp;obtain ⟨g2,_⟩:=qcs (qam s _) _ _ _ _ _ _ ht hp;have h1:=g2.tk.ab;have h2:=g2.tk.le;rw[qhj] at i2;exact ⟨i1,by omega⟩
def lnO (x:Option Ex):Nat :=
 match x with
 | none=>0
 | some e=>coE e
def lnS:List Sm→Nat
 | []=>0
 | ⟨_,_,_,ex,_,_,_,_,_,one,two⟩::rest=>lnO ex+4+lnS one+lnS two+lnS rest
def lnX (x:Sm):Nat:=lnO x.ex+4+lnS x.one+lnS x.two
theorem qh9:lnS []=0:=by rw[lnS]
theorem qia (x:Sm) (l:List Sm):lnS (x::l)=lnX x+lnS l:=by
 obtain ⟨op,word,pl,ex,asw,asPl,undo,n,nPl,one,two⟩:=x;rw[lnS]<;>rfl
theorem zng (l:List Sm) (x:Sm):lnS (l++[x])=lnS l+lnX x:=by
 induction l with
 | nil=>rw[List.nil_append,qia,qh9];omega
 | cons y l ih=>rw[List.cons_append,qia,qia,ih];omega
def LnE (s:ByteArray) (g:Ps→Except Nat (Ex×Ps)):Prop:=∀ st x st',Tk s st.t→g st=.ok (x,st')→GdE x∧coE x+4 * st.t.a≤4 * st'.t.a
theorem zou {s:ByteArray} {g:Ps→Except Nat (Ex×Ps)} (hg:Goes s g) (hs:LnE s g) (a b:UInt8) (n:Nat):∀ (pl lo:Nat) (e:Ex) (st:Ps) (x:Ex) (st':Ps),Tk s st.t→GdE e→coE e+4 * lo≤4 * st.t.a→chain s g a b n pl e st=.ok (x,st')→GdE x∧coE x+4 * lo≤4 * st'.t.a:=by
 induction n with
 | zero=>intro pl lo e st x st' _ _ _ h;simp[chain] at h
 | succ n ih =>
  intro pl lo e st x st' ht he hle h;rw[chain] at h;split at h
  ·rename_i ho;have g0:=qaf ht ho;have l0:=g0.lt;cases hp:g (nx s st) with
   | error p=>rw[hp] at h;cases h
   | ok r =>
    obtain ⟨k,st1⟩:=r;rw[hp] at h;have g1:=hg _ _ _ g0.tk hp;obtain ⟨k1,k2⟩:=hs _ _ _ g0.tk hp;exact ih pl lo ⟨a.toNat,0,nowt,pl,st.t.a,some e,some k⟩ _ _ _ g1.tk ⟨he,k1⟩ (by simp only[coE];omega) h
  ·split at h
   ·rename_i ho;have g0:=qaf ht ho;have l0:=g0.lt;cases hp:g (nx s st) with
    | error p=>rw[hp] at h;cases h
    | ok r =>
     obtain ⟨k,st1⟩:=r;rw[hp] at h;have g1:=hg _ _ _ g0.tk hp;obtain ⟨k1,k2⟩:=hs _ _ _ g0.tk hp;exact ih pl lo ⟨b.toNat,0,nowt,pl,st.t.a,some e,some k⟩ _ _ _ g1.tk ⟨he,k1⟩ (by simp only[coE];omega) h
   ·cases h;exact ⟨he,hle⟩
theorem zp8 {s:ByteArray} {g:Ps→Except Nat (Ex×Ps)} (hg:Goes s g) (hs:LnE s g) (a b:UInt8):LnE s (row s g a b):=by
 intro st x st' ht h;unfold row at h;cases hp:g st with
 | error p=>rw[hp] at h;cases h
 | ok r =>
  obtain ⟨e,st1⟩:=r;rw[hp] at h;have g1:=hg _ _ _ ht hp;obtain ⟨k1,k2⟩:=hs _ _ _ ht hp;exact zou hg hs _ _ _ _ _ _ _ _ _ g1.tk k1 k2 h
theorem zp0 {s:ByteArray} {g:Ps→Except Nat (Ex×Ps)} (hg:Goes s g) (hs:LnE s g):LnE s (sum s g):=zp8 (qgp hg) (zp8 hg hs _ _) _ _
theorem ziv {s:ByteArray} {g:Ps→Except Nat (Ex×Ps)} (hg:Goes s g) (hs:LnE s g):LnE s (expr s g):=by
 intro st x st' ht h;unfold expr at h;cases hp:sum s g st with
 | error p=>rw[hp] at h;cases h
 | ok r =>
  obtain ⟨e,st1⟩:=r;rw[hp] at h;simp only at h;have g1:=qgb hg _ _ _ ht hp;obtain ⟨j1,j2⟩:=zp0 hg hs _ _ _ ht hp;cases hc:qec s st1.t with
  | none=>rw[hc] at h;cases h;exact ⟨j1,j2⟩
  | some o =>
   rw[hc] at h;simp only at h;have hk:=qm5 hc;have g0:Good s st1 (nx s st1):=qe5 g1.tk (by rw[hk];decide) (by rw[hk];decide)
   have l0:=g0.lt;cases hq:sum s g (nx s st1) with
   | error p=>rw[hq] at h;cases h
   | ok r2 =>
    obtain ⟨k,st2⟩:=r2;rw[hq] at h;obtain ⟨i1,i2⟩:=zp0 hg hs _ _ _ g0.tk hq;cases h;exact ⟨⟨j1,i1⟩,by simp only[coE];omega⟩
theorem zvb (s:ByteArray) (n:Nat):LnE s (atom s n):=by
 induction n with
 | zero=>intro st x st' _ h;simp[atom] at h
 | succ n ih =>
  intro st x st' ht h;have hgo:=qbj s (n+1) _ _ _ ht h;have hlt:=hgo.lt;rw[atom] at h;split at h
  ·rename_i hk;cases h
   have:=qsg ht hk
   refine ⟨⟨fun h=>absurd h (by decide),this⟩,?_⟩
   simp only[leaf,coE]
   have:nowt.size=0:=rfl
   omega
  ·split at h
   ·rename_i hk;cases h;have h1:=ht.lt (by rw[hk];decide) (by rw[hk];decide)
    have h2:=ht.le;have h3:=(qfv s st.t.b h2).2;have h4:(txt s st.t).size=st.t.b - st.t.a:=by unfold txt;rw[ByteArray.size_extract];omega
    refine ⟨⟨fun _=>by rw[h4];omega,Nat.zero_le _⟩,?_⟩
    simp only[leaf,coE];omega
   ·split at h
    ·cases h;refine ⟨⟨fun h=>absurd h (by decide),by decide⟩,?_⟩
     simp only[leaf,coE]
     have:nowt.size=0:=rfl
     omega
    ·split at h
     ·cases h;refine ⟨⟨fun h=>absurd h (by decide),by decide⟩,?_⟩
      simp only[leaf,coE]
      have:nowt.size=0:=rfl
      omega
     ·split at h
      ·rename_i ho;have g0:=qaf ht ho;have l0:=g0.lt;cases hp:atom s n (nx s st) with
       | error p=>rw[hp] at h;cases h
       | ok r =>
        obtain ⟨k,st1⟩:=r;rw[hp] at h;obtain ⟨k1,k2⟩:=ih _ _ _ g0.tk hp;cases h;exact ⟨k1,by simp only[coE];omega⟩
      ·split at h
       ·rename_i ho;have g0:=qaf (st:=dn st) ht ho;have l0:st.t.a < (nx s (dn st)).t.a:=g0.lt;cases hp:expr s (atom s n) (nx s (dn st)) with
        | error p=>rw[hp] at h;cases h
        | ok r =>
         obtain ⟨k,st1⟩:=r;have g1:=qf3 (qbj s n) _ _ _ g0.tk hp;obtain ⟨k1,k2⟩:=ziv (qbj s n) ih _ _ _ g0.tk hp;rw[hp] at h;simp only at h;split at h
         ·rename_i ho2;have g2:=qaf g1.tk ho2;have l2:=g2.lt;have l3:st1.t.a < (upp (nx s st1)).t.a:=l2;cases h;exact ⟨k1.place _,by rw[qwm];omega⟩
         ·cases h
       ·cases h
theorem qp4 (s:ByteArray):LnE s (qa4 s):=ziv (qbj s _) (zvb s _)
def LnG (s:ByteArray) (g:Ps→Except Nat (Sm×Ps)):Prop:=∀ st x st',Tk s st.t→g st=.ok (x,st')→GdX x∧lnX x+4 * st.t.a≤4 * st'.t.a
theorem qzo {s:ByteArray} {g:Ps→Except Nat (Sm×Ps)} (hg:Goes s g) (hs:LnG s g) (stop:Ps→Bool) (n:Nat):∀ (l:List Sm) (st:Ps) (x:List Sm) (st':Ps),Tk s st.t→GdS l→stmts s g stop n l st=.ok (x,st')→GdS x∧lnS x+4 * st.t.a≤4 * st'.t.a+lnS l:=by
 induction n with
 | zero=>intro l st x st' _ _ h;simp[stmts] at h
 | succ n ih =>
  intro l st x st' ht hl h;rw[stmts] at h;split at h
  ·cases h;exact ⟨hl,by omega⟩
  ·cases hp:g st with
   | error p=>rw[hp] at h;cases h
   | ok r =>
    obtain ⟨y,st1⟩:=r;rw[hp] at h;have g1:=hg _ _ _ ht hp;obtain ⟨m1,m2⟩:=hs _ _ _ ht hp;obtain ⟨i1,i2⟩:=ih _ _ _ _ g1.tk (zbs hl m1) h;rw[zng] at i2;exact ⟨i1,by omega⟩
theorem ql8 {s:ByteArray} {g:Ps→Except Nat (Sm×Ps)} (hg:Goes s g) (hs:LnG s g) {st:Ps} {x:List Sm} {st':Ps} (ht:Tk s st.t) (h:block s g st=.ok (x,st')):GdS x∧lnS x+4 * st.t.a≤4 * st'.t.a:=by
 unfold block at h;split at h
 ·rename_i ho;have g0:=qaf (st:=dn st) ht ho;have l0:st.t.a < (nx s (dn st)).t.a:=g0.lt;cases hp:stmts s g (fun st=>onB s st.t ⟨#[125]⟩) (s.size+1) [] (nx s (dn st)) with
  | error p=>rw[hp] at h;cases h
  | ok r =>
   obtain ⟨l,st1⟩:=r;rw[hp] at h;obtain ⟨i1,i2⟩:=qzo hg hs _ _ _ _ _ _ g0.tk qc0 hp;obtain ⟨g1,g2⟩:=qcs hg _ _ _ _ _ _ g0.tk hp;have g3:=qaf g1.tk g2;have l3:st1.t.a < (upp (nx s st1)).t.a:=g3.lt;rw[qh9] at i2;cases h;exact ⟨i1,by omega⟩
 ·cases h
theorem ztm (s:ByteArray):LnG s (letS s):=by
 intro st x st' ht h;unfold letS at h;cases h1:kind s 119 st with
 | error p=>rw[h1] at h;cases h
 | ok st1 =>
  rw[h1] at h;simp only at h;have g1:=qa6 ht (by decide) (by decide) h1
  obtain ⟨w1,w2⟩:=qiv ht h1;cases h2:need s ⟨#[61]⟩ st1 with
  | error p=>rw[h2] at h;cases h
  | ok st2 =>
   rw[h2] at h;simp only at h;have g2:=qav g1.tk h2;cases h3:qa4 s st2 with
   | error p=>rw[h3] at h;cases h
   | ok r =>
    obtain ⟨e,st3⟩:=r;rw[h3] at h;simp only at h;have g3:=qbb s _ _ _ g2.tk h3;obtain ⟨e1,e2⟩:=qp4 s _ _ _ g2.tk h3;cases h4:need s ⟨#[59]⟩ st3 with
    | error p=>rw[h4] at h;cases h
    | ok st4 =>
     have g4:=qav g3.tk h4;rw[h4] at h;cases h;have l2:=g2.lt;have l4:=g4.lt;refine ⟨⟨fun _=>w1,Nat.zero_le _,qhe e1,qc0,qc0⟩,?_⟩
     unfold lnX;simp only[qa8,qh9,lnO]
     have:nowt.size=0:=rfl
     omega
theorem zuz (s:ByteArray):LnG s (call s):=by
 intro st x st' ht h;unfold call at h;cases h1:kind s 119 st with
 | error p=>rw[h1] at h;cases h
 | ok st1 =>
  rw[h1] at h;simp only at h;have g1:=qa6 ht (by decide) (by decide) h1
  obtain ⟨w1,w2⟩:=qiv ht h1;cases h2:need s ⟨#[40]⟩ st1 with
  | error p=>rw[h2] at h;cases h
  | ok st2 =>
   rw[h2] at h;simp only at h;have g2:=qav g1.tk h2;generalize hz:({ qa8 with op:=99,word:=txt s st.t,pl:=st.t.a,n:=1 }:Sm)=x2 at h
   have z0:x2.word=txt s st.t∧x2.n=1∧x2.asw.size=0∧x2.undo.size=0∧x2.ex=none∧x2.one=[]∧x2.two=[]:=by rw[← hz];exact ⟨rfl,rfl,rfl,rfl,rfl,rfl,rfl⟩
   cases h3:qaw s x2 st2 with
   | error p=>rw[h3] at h;cases h
   | ok r =>
    obtain ⟨x3,st3⟩:=r;rw[h3] at h;simp only at h;have g3:=qet g2.tk h3;have z3:x3.word=txt s st.t∧x3.n=1∧x3.asw.size=0∧x3.undo.size=0∧x3.one=[]∧x3.two=[]∧GdO x3.ex∧lnO x3.ex+4 * st2.t.a≤4 * st3.t.a:=by
     unfold qaw at h3;split at h3
     ·cases h3;exact ⟨z0.1,z0.2.1,z0.2.2.1,z0.2.2.2.1,z0.2.2.2.2.2.1,z0.2.2.2.2.2.2,by rw[z0.2.2.2.2.1];exact qhf,by rw[z0.2.2.2.2.1];simp[lnO]⟩
     ·cases hp:qa4 s st2 with
      | error p=>rw[hp] at h3;cases h3
      | ok r =>
       obtain ⟨e,st3'⟩:=r;rw[hp] at h3;obtain ⟨e1,e2⟩:=qp4 s _ _ _ g2.tk hp;cases h3;exact ⟨z0.1,z0.2.1,z0.2.2.1,z0.2.2.2.1,z0.2.2.2.2.2.1,z0.2.2.2.2.2.2,qhe e1,e2⟩
    cases h4:need s ⟨#[41]⟩ st3 with
    | error p=>rw[h4] at h;cases h
    | ok st4 =>
     rw[h4] at h;simp only at h;have g4:=qav g3.tk h4;cases h5:qa9 s x3 st4 with
     | error p=>rw[h5] at h;cases h
     | ok r5 =>
      obtain ⟨x5,st5⟩:=r5;rw[h5] at h;simp only at h;have g5:=qfo g4.tk h5;have z5:x5.word=x3.word∧x5.n=1∧x5.undo.size=0∧x5.one=[]∧x5.two=[]∧x5.ex=x3.ex∧x5.asw.size+4 * st4.t.a≤4 * st5.t.a:=by
       unfold qa9 at h5;split at h5
       ·rename_i ho;have g0:=qaf g4.tk ho;have l0:=g0.lt;cases hp:kind s 119 (nx s st4) with
        | error p=>rw[hp] at h5;cases h5
        | ok st' =>
         rw[hp] at h5;obtain ⟨v1,v2⟩:=qiv g0.tk hp;cases h5;exact ⟨rfl,z3.2.1,z3.2.2.2.1,z3.2.2.2.2.1,z3.2.2.2.2.2.1,rfl,by simp only;omega⟩
       ·cases h5;exact ⟨rfl,z3.2.1,z3.2.2.2.1,z3.2.2.2.2.1,z3.2.2.2.2.2.1,rfl,by rw[z3.2.2.1];omega⟩
      cases h6:qat s x5 st5 with
      | error p=>rw[h6] at h;cases h
      | ok r6 =>
       obtain ⟨x6,st6⟩:=r6;rw[h6] at h;simp only at h;have g6:=qe6 g5.tk h6;have z6:x6.word=x5.word∧x6.n=1∧x6.one=[]∧x6.two=[]∧x6.ex=x5.ex∧x6.asw=x5.asw∧x6.undo.size+4 * st5.t.a≤4 * st6.t.a:=by
        unfold qat at h6;split at h6
        ·rename_i ho;have g0:=qaf g5.tk ho;have l0:=g0.lt;cases hp:kind s 119 (nx s st5) with
         | error p=>rw[hp] at h6;cases h6
         | ok st' =>
          rw[hp] at h6;obtain ⟨v1,v2⟩:=qiv g0.tk hp;cases h6;exact ⟨rfl,z5.2.1,z5.2.2.2.1,z5.2.2.2.2.1,rfl,rfl,by simp only;omega⟩
        ·cases h6;exact ⟨rfl,z5.2.1,z5.2.2.2.1,z5.2.2.2.2.1,rfl,rfl,by rw[z5.2.2.1];omega⟩
       cases h7:qas s x6 st6 with
       | error p=>rw[h7] at h;cases h
       | ok r7 =>
        obtain ⟨x7,st7⟩:=r7;rw[h7] at h;simp only at h;have g7:=qeh g6.tk h7;have z7:x7.word=x6.word∧x7.one=[]∧x7.two=[]∧x7.ex=x6.ex∧x7.asw=x6.asw∧x7.undo=x6.undo∧x7.n≤9999∧4 * st6.t.a≤4 * st7.t.a:=by
         unfold qas at h7;split at h7
         ·rename_i ho;have g0:=qaf g6.tk ho;have l0:=g0.lt;cases hp:kind s 110 (nx s st6) with
          | error p=>rw[hp] at h7;cases h7
          | ok st' =>
           rw[hp] at h7;have v1:=zaa g0.tk hp;have g8:=qa6 g0.tk (by decide) (by decide) hp
           have l8:=g8.lt;cases h7;exact ⟨rfl,z6.2.2.1,z6.2.2.2.1,rfl,rfl,rfl,v1,by omega⟩
         ·cases h7;exact ⟨rfl,z6.2.2.1,z6.2.2.2.1,rfl,rfl,rfl,by rw[z6.2.1];decide,Nat.le_refl _⟩
        cases h8:need s ⟨#[59]⟩ st7 with
        | error p=>rw[h8] at h;cases h
        | ok st8 =>
         have g8:=qav g7.tk h8;rw[h8] at h;cases h;have l1:=g1.lt;have l2:=g2.lt;have l4:=g4.lt;have l8:=g8.lt;have hw:x.word=txt s st.t:=by rw[z7.1,z6.1,z5.1,z3.1]
         have he:x.ex=x3.ex:=by rw[z7.2.2.2.1,z6.2.2.2.2.1,z5.2.2.2.2.2.1]
         refine ⟨⟨fun _=>by rw[hw];exact w1,z7.2.2.2.2.2.2.1,by rw[he];exact z3.2.2.2.2.2.2.1,by rw[z7.2.1];exact qc0,by rw[z7.2.2.1];exact qc0⟩,?_⟩
         unfold lnX;rw[he,z7.2.1,z7.2.2.1,qh9];have q3:=z3.2.2.2.2.2.2.2;have q5:=z5.2.2.2.2.2.2;have q6:=z6.2.2.2.2.2.2;have q7:=z7.2.2.2.2.2.2.2;omega
theorem zxj {s:ByteArray} {g:Ps→Except Nat (Sm×Ps)} (hg:Goes s g) (hs:LnG s g):∀ st x st',Tk s st.t→ifS s g st=.ok (x,st')→GdX x∧lnX x+4 * st.t.a≤4 * st'.t.a+4:=by
 intro st x st' ht h;unfold ifS at h;cases h1:qa4 s st with
 | error p=>rw[h1] at h;cases h
 | ok r =>
  obtain ⟨e,st1⟩:=r;rw[h1] at h;simp only at h;have g1:=qbb s _ _ _ ht h1;obtain ⟨e1,e2⟩:=qp4 s _ _ _ ht h1;cases h2:block s g st1 with
  | error p=>rw[h2] at h;cases h
  | ok r =>
   obtain ⟨l,st2⟩:=r;rw[h2] at h;simp only at h;have g2:=qa0 hg _ _ _ g1.tk h2;obtain ⟨m1,m2⟩:=ql8 hg hs g1.tk h2;split at h
   ·rename_i ho;have g3:=qaf g2.tk ho;have l3:=g3.lt;cases h4:block s g (nx s st2) with
    | error p=>rw[h4] at h;cases h
    | ok r =>
     obtain ⟨m,st3⟩:=r;obtain ⟨m3,m4⟩:=ql8 hg hs g3.tk h4;rw[h4] at h;cases h;refine ⟨⟨fun h=>absurd h (by show ¬((105:Nat)=108∨(105:Nat)=99);decide),Nat.zero_le _,qhe e1,m1,m3⟩,?_⟩
     unfold lnX;simp only[lnO]
     have:nowt.size=0:=rfl
     omega
   ·cases h;refine ⟨⟨fun h=>absurd h (by show ¬((105:Nat)=108∨(105:Nat)=99);decide),Nat.zero_le _,qhe e1,m1,qc0⟩,?_⟩
    unfold lnX;simp only[qa8,lnO,qh9]
    have:nowt.size=0:=rfl
    omega
theorem zrh {s:ByteArray} {g:Ps→Except Nat (Sm×Ps)} (hg:Goes s g) (hs:LnG s g):∀ st x st',Tk s st.t→tryS s g st=.ok (x,st')→GdX x∧lnX x+4 * st.t.a≤4 * st'.t.a+4:=by
 intro st x st' ht h;unfold tryS at h;cases h1:block s g st with
 | error p=>rw[h1] at h;cases h
 | ok r =>
  obtain ⟨l,st1⟩:=r;rw[h1] at h;simp only at h;have g1:=qa0 hg _ _ _ ht h1;obtain ⟨m1,m2⟩:=ql8 hg hs ht h1;cases h2:need s ⟨#[101,108,115,101]⟩ st1 with
  | error p=>rw[h2] at h;cases h
  | ok st2 =>
   rw[h2] at h;simp only at h;have g2:=qav g1.tk h2;have l2:=g2.lt;cases h3:block s g st2 with
   | error p=>rw[h3] at h;cases h
   | ok r =>
    obtain ⟨m,st3⟩:=r;obtain ⟨m3,m4⟩:=ql8 hg hs g2.tk h3;rw[h3] at h;cases h;refine ⟨⟨fun h=>absurd h (by show ¬((116:Nat)=108∨(116:Nat)=99);decide),Nat.zero_le _,qhf,m1,m3⟩,?_⟩
    unfold lnX;simp only[qa8,lnO]
    have:nowt.size=0:=rfl
    omega
theorem zcp {s:ByteArray} {g:Ps→Except Nat (Sm×Ps)} (hg:Goes s g) (hs:LnG s g):∀ st x st',Tk s st.t→qbu s g st=.ok (x,st')→GdX x∧lnX x+4 * st.t.a≤4 * st'.t.a+4:=by
 intro st x st' ht h;unfold qbu at h;cases h1:kind s 110 st with
 | error p=>rw[h1] at h;cases h
 | ok st1 =>
  rw[h1] at h;simp only at h;have g1:=qa6 ht (by decide) (by decide) h1
  have l1:=g1.lt;have v1:=zaa ht h1;cases h2:block s g st1 with
  | error p=>rw[h2] at h;cases h
  | ok r =>
   obtain ⟨m,st3⟩:=r;obtain ⟨m1,m2⟩:=ql8 hg hs g1.tk h2;rw[h2] at h;cases h;refine ⟨⟨fun h=>absurd h (by show ¬((114:Nat)=108∨(114:Nat)=99);decide),v1,qhf,m1,qc0⟩,?_⟩
   unfold lnX;simp only[qa8,lnO,qh9]
   have:nowt.size=0:=rfl
   omega
theorem zru (s:ByteArray) (n:Nat):LnG s (stmt s n):=by
 induction n with
 | zero=>intro st x st' _ h;simp[stmt] at h
 | succ n ih =>
  intro st x st' ht h;have hgo:=qam s (n+1) _ _ _ ht h;have hlt:=hgo.lt;rw[stmt] at h;split at h
  ·rename_i ho;have g1:=qaf ht ho;have l1:=g1.lt;obtain ⟨m1,m2⟩:=ztm s _ _ _ g1.tk h;exact ⟨m1,by omega⟩
  ·split at h
   ·rename_i ho;have g1:=qaf ht ho;have l1:=g1.lt;obtain ⟨m1,m2⟩:=zuz s _ _ _ g1.tk h;exact ⟨m1,by omega⟩
   ·split at h
    ·rename_i ho;have g1:=qaf ht ho;have l1:=g1.lt;obtain ⟨m1,m2⟩:=zxj (qam s n) ih _ _ _ g1.tk h;exact ⟨m1,by omega⟩
    ·split at h
     ·rename_i ho;have g1:=qaf ht ho;have l1:=g1.lt;obtain ⟨m1,m2⟩:=zrh (qam s n) ih _ _ _ g1.tk h;exact ⟨m1,by omega⟩
     ·split at h
      ·rename_i ho;have g1:=qaf ht ho;have l1:=g1.lt;obtain ⟨m1,m2⟩:=zcp (qam s n) ih _ _ _ g1.tk h;exact ⟨m1,by omega⟩
      ·have ho:x={ qa8 with op:=102 }:=by
        unfold qig at h;cases h1:need s ⟨#[102,97,105,108]⟩ st with
        | error p=>rw[h1] at h;cases h
        | ok st1 =>
         rw[h1] at h;simp only at h;cases h2:need s ⟨#[59]⟩ st1 with
         | error p=>rw[h2] at h;cases h
         | ok st2=>rw[h2] at h;cases h;rfl
       rw[ho];refine ⟨⟨fun h=>absurd h (by decide),Nat.zero_le _,qhf,qc0,qc0⟩,?_⟩
       unfold lnX;simp only[qa8,lnO,qh9]
       have:nowt.size=0:=rfl
       omega
theorem qxp {s:ByteArray} {l:List Sm} (h:read s=.ok l):GdS l∧lnS l≤1200:=by
 unfold read at h;split at h
 ·cases h
 ·rename_i hz;cases hp:stmts s (stmt s (s.size+1)) (fun st=>st.t.k == 0) (s.size+1) [] ⟨tok s 0,0,-1⟩ with
  | error p=>rw[hp] at h;cases h
  | ok r =>
   obtain ⟨l',st⟩:=r;rw[hp] at h;simp only at h;split at h
   ·cases h
   ·cases h;have ht:=(qfv s 0 (Nat.zero_le _)).1;obtain ⟨i1,i2⟩:=qzo (qam s _) (zru s _) _ _ _ _ _ _ ht qc0 hp;obtain ⟨g2,_⟩:=qcs (qam s _) _ _ _ _ _ _ ht hp;have h1:=g2.tk.ab;have h2:=g2.tk.le;rw[qh9] at i2;exact ⟨i1,by omega⟩
theorem zqg (iv:ByteArray→Nat) (x:Option Ex):(mkO iv x).length≤lnO x+1:=by
 rw[qfl];cases x with
 | none=>exact Nat.le_refl _
 | some e=>show coE e≤coE e+1;omega
theorem zqf (iw iv:ByteArray→Nat) (x:Sm) (h1:∀ p,(mkS iw iv x.one p).length≤lnS x.one) (h2:∀ p,(mkS iw iv x.two p).length≤lnS x.two) (p:Nat):(mkX iw iv x p).length≤lnX x:=by
 have e1:=zqg iv x.ex;have e2:(mkC iw iv x.word x.ex x.asw x.undo x.n).length≤lnO x.ex+4:=by
  unfold mkC;split<;>simp<;>omega
 unfold mkX lnX;split
 ·simp;omega
 ·split
  ·omega
  ·split
   ·have a1:=h1 (p+(mkO iv x.ex).length+1);have a2:=h2 (p+(mkO iv x.ex).length+1+(mkS iw iv x.one (p+(mkO iv x.ex).length+1)).length+1);dsimp only;split
    ·simp only[List.length_append,List.length_cons,List.length_nil];omega
    ·simp only[List.length_append,List.length_cons,List.length_nil];omega
   ·split
    ·have a1:=h1 (p+1);have a2:=h2 (p+1+(mkS iw iv x.one (p+1)).length+1);simp only[List.length_append,List.length_cons,List.length_nil];omega
    ·split
     ·have a1:=h1 (p+2);simp only[List.length_append,List.length_cons,List.length_nil];omega
     ·simp only[List.length_cons,List.length_nil];omega
theorem qiq (iw iv:ByteArray→Nat) (l:List Sm):∀ p,(mkS iw iv l p).length≤lnS l:=by
 match l with
 | []=>intro p;rw[qms,qh9];exact Nat.le_refl _
 | ⟨op,word,pl,ex,asw,asPl,undo,n,nPl,one,two⟩::rest =>
  intro p;rw[qh7,qia,List.length_append]
  have:=zqf iw iv ⟨op,word,pl,ex,asw,asPl,undo,n,nPl,one,two⟩ (qiq iw iv one) (qiq iw iv two) p
  have:=qiq iw iv rest (p+(mkX iw iv ⟨op,word,pl,ex,asw,asPl,undo,n,nPl,one,two⟩ p).length)
  omega
theorem qqm (ws:List ByteArray) (x:ByteArray):(addW ws x).length≤ws.length+1:=by
 unfold addW;split<;>simp
theorem qtq (ws:List ByteArray) (x:ByteArray):idxW ws x≤ws.length:=by
 induction ws with
 | nil=>rw[idxW];exact Nat.le_refl _
 | cons v r ih =>
  rw[idxW];split
  ·exact Nat.zero_le _
  ·rw[List.length_cons];omega
theorem qy3 (x:Ex) (vs:List ByteArray):(vsE x vs).length≤vs.length+coE x:=by
 match x with
 | ⟨op,n,word,pl,own,none,r⟩ =>
  have:=qqm vs word
  rw[vsE,coE];split<;>omega
 | ⟨op,n,word,pl,own,some l,none⟩ =>
  have:=qy3 l vs
  rw[vsE,coE];omega
 | ⟨op,n,word,pl,own,some l,some r⟩ =>
  have h1:=qy3 l vs
  have:=qy3 r (vsE l vs)
  rw[vsE,coE];omega
theorem zv0 (x:Option Ex) (vs:List ByteArray):(vsO x vs).length≤vs.length+lnO x:=by
 cases x with
 | none=>exact Nat.le_refl _
 | some e=>exact qy3 e vs
theorem zvv (x:Sm) (h1:∀ ws,(wsS x.one ws).length≤ws.length+lnS x.one) (h2:∀ ws,(wsS x.two ws).length≤ws.length+lnS x.two) (ws:List ByteArray):(wsX x ws).length≤ws.length+lnX x:=by
 have b1:=qqm ws x.word;have b2:=qqm (addW ws x.word) x.undo;have a1:=h1 ws;have a2:=h2 (wsS x.one ws);unfold wsX wsC lnX
 repeat' split
 all_goals omega
theorem qqz (l:List Sm):∀ ws,(wsS l ws).length≤ws.length+lnS l:=by
 match l with
 | []=>intro ws;rw[qoo];omega
 | ⟨op,word,pl,ex,asw,asPl,undo,n,nPl,one,two⟩::rest =>
  intro ws;rw[qhz,qia]
  have:=zvv ⟨op,word,pl,ex,asw,asPl,undo,n,nPl,one,two⟩ (qqz one) (qqz two) ws
  have:=qqz rest (wsX ⟨op,word,pl,ex,asw,asPl,undo,n,nPl,one,two⟩ ws)
  omega
theorem zvz (x:Sm) (h1:∀ ws,(vsS x.one ws).length≤ws.length+lnS x.one) (h2:∀ ws,(vsS x.two ws).length≤ws.length+lnS x.two) (vs:List ByteArray):(vsX x vs).length≤vs.length+lnX x:=by
 have a0:=zv0 x.ex vs;have a1:=qqm (vsO x.ex vs) x.word;have a2:=qqm (vsO x.ex vs) x.asw;have b1:=h1 vs;have b2:=h2 (vsS x.one vs);have b3:=h1 (vsO x.ex vs);have b4:=h2 (vsS x.one (vsO x.ex vs));unfold vsX lnX
 repeat' split
 all_goals omega
theorem quw (l:List Sm):∀ vs,(vsS l vs).length≤vs.length+lnS l:=by
 match l with
 | []=>intro ws;rw[qsc];omega
 | ⟨op,word,pl,ex,asw,asPl,undo,n,nPl,one,two⟩::rest =>
  intro ws;rw[qjx,qia]
  have:=zvz ⟨op,word,pl,ex,asw,asPl,undo,n,nPl,one,two⟩ (quw one) (quw two) ws
  have:=quw rest (vsX ⟨op,word,pl,ex,asw,asPl,undo,n,nPl,one,two⟩ ws)
  omega
theorem okI0 (k:Nat) (hk:k < 20):OkI ⟨k,0,0⟩:=⟨hk,by show 0 < 65536;decide,by show 0 < 65536;decide,fun _=>rfl,fun _=>rfl⟩
theorem okI1 (k a:Nat) (hk:k < 20) (hn:qfb k=1) (ha:a < 65536):OkI ⟨k,a,0⟩:=⟨hk,ha,by show 0 < 65536;decide,(fun h=>by rw[show qfb k=1 from hn] at h;cases h),fun _=>rfl⟩
theorem okI2 (a b:Nat) (ha:a < 65536) (hb:b < 65536):OkI ⟨18,a,b⟩:=⟨by show 18 < 20;decide,ha,hb,(fun h=>by cases h),fun h=>absurd rfl h⟩
theorem zhu (op:Nat):qdb op < 20:=by
 unfold qdb
 repeat' split
 all_goals decide
theorem qtg {iv:ByteArray→Nat} (hv:∀ w,iv w < 65536) (x:Ex) (hg:GdE x):∀ i∈mkE iv x,OkI i:=by
 match x,hg with
 | ⟨op,n,word,pl,own,none,r⟩,hg =>
  rw[GdE] at hg;rw[mkE];split
  ·intro i hi;rw[List.mem_singleton.1 hi];exact okI1 1 _ (by decide) rfl (hv _)
  ·intro i hi;rw[List.mem_singleton.1 hi];exact okI1 0 _ (by decide) rfl (by omega)
 | ⟨op,n,word,pl,own,some l,none⟩,hg =>
  rw[GdE] at hg;rw[mkE];intro i hi;rcases List.mem_append.1 hi with hi | hi
  ·exact qtg hv l hg i hi
  ·rw[List.mem_singleton.1 hi];exact okI0 11 (by decide)
 | ⟨op,n,word,pl,own,some l,some r⟩,hg =>
  rw[GdE] at hg;rw[mkE];intro i hi;rcases List.mem_append.1 hi with hi | hi
  ·rcases List.mem_append.1 hi with hi | hi
   ·exact qtg hv l hg.1 i hi
   ·exact qtg hv r hg.2 i hi
  ·rw[List.mem_singleton.1 hi];exact okI0 _ (zhu op)
theorem ztc {iv:ByteArray→Nat} (hv:∀ w,iv w < 65536) (x:Option Ex) (hg:GdO x):∀ i∈mkO iv x,OkI i:=by
 cases x with
 | none=>intro i hi;rw[List.mem_singleton.1 hi];exact okI1 0 _ (by decide) rfl (by decide)
 | some e=>exact qtg hv e (hg e rfl)
theorem qdx {a b:List Ins} (ha:∀ i∈a,OkI i) (hb:∀ i∈b,OkI i):∀ i∈a++b,OkI i:=fun i hi=>(List.mem_append.1 hi).elim (ha i) (hb i)
theorem qfj {j:Ins} (h:OkI j):∀ i∈[j],OkI i:=fun i hi=>by rw[List.mem_singleton.1 hi];exact h
theorem ztb {iw iv:ByteArray→Nat} (hw:∀ w,iw w < 65536) (hv:∀ w,iv w < 65536) (x:Sm) (hg:GdX x) (h1:∀ p,p+lnS x.one < 65536→∀ i∈mkS iw iv x.one p,OkI i) (h2:∀ p,p+lnS x.two < 65536→∀ i∈mkS iw iv x.two p,OkI i) (p:Nat) (hp:p+lnX x < 65536):∀ i∈mkX iw iv x p,OkI i:=by
 have e1:=zqg iv x.ex;have o:=ztc hv x.ex hg.2.2.1;have hn:=hg.2.1;unfold lnX at hp;unfold mkX;split
 ·exact qdx o (qfj (okI1 2 _ (by decide) rfl (hv _)))
 ·split
  ·unfold mkC;refine qdx o (qdx (qfj (okI2 _ _ (hw _) (by omega))) (qdx ?_ (qfj ?_)))
   ·split
    ·intro i hi;cases hi
    ·exact qfj (okI1 19 _ (by decide) rfl (hw _))
   ·split
    ·exact okI0 3 (by decide)
    ·exact okI1 2 _ (by decide) rfl (hv _)
  ·split
   ·have a1:=qiq iw iv x.one (p+(mkO iv x.ex).length+1);have a2:=qiq iw iv x.two (p+(mkO iv x.ex).length+1+(mkS iw iv x.one (p+(mkO iv x.ex).length+1)).length+1);dsimp only;split
    ·exact qdx o (qdx (qfj (okI1 13 _ (by decide) rfl (by omega))) (h1 _ (by omega)))
    ·exact qdx o (qdx (qfj (okI1 13 _ (by decide) rfl (by omega))) (qdx (h1 _ (by omega)) (qdx (qfj (okI1 12 _ (by decide) rfl (by omega))) (h2 _ (by omega)))))
   ·split
    ·have a1:=qiq iw iv x.one (p+1);have a2:=qiq iw iv x.two (p+1+(mkS iw iv x.one (p+1)).length+1);exact qdx (qfj (okI1 15 _ (by decide) rfl (by omega))) (qdx (h1 _ (by omega)) (qdx (qfj (okI1 16 _ (by decide) rfl (by omega))) (h2 _ (by omega))))
    ·split
     ·have a1:=qiq iw iv x.one (p+2);exact qdx (qfj (okI1 0 _ (by decide) rfl (by omega))) (qdx (qfj (okI1 14 _ (by decide) rfl (by omega))) (qdx (h1 _ (by omega)) (qfj (okI1 12 _ (by decide) rfl (by omega)))))
     ·exact qfj (okI0 17 (by decide))
theorem qpn {iw iv:ByteArray→Nat} (hw:∀ w,iw w < 65536) (hv:∀ w,iv w < 65536) (l:List Sm) (hg:GdS l):∀ p,p+lnS l < 65536→∀ i∈mkS iw iv l p,OkI i:=by
 match l,hg with
 | [],_=>intro p _ i hi;rw[qms] at hi;cases hi
 | ⟨op,word,pl,ex,asw,asPl,undo,n,nPl,one,two⟩::rest,hg =>
  intro p hp;obtain ⟨g1,g2⟩:=qhi.1 hg;rw[qia] at hp;rw[qh7];have a1:=zqf iw iv ⟨op,word,pl,ex,asw,asPl,undo,n,nPl,one,two⟩ (qiq iw iv one) (qiq iw iv two) p;exact qdx (ztb hw hv _ g1 (qpn hw hv one g1.2.2.2.1) (qpn hw hv two g1.2.2.2.2) p (by omega)) (qpn hw hv rest g2 _ (by omega))
abbrev Vst:=Nat×Option Nat
def qbf (k:Nat):Nat:=if k < 2 then 0 else if k < 4 then 1 else if k < 11 then 2 else if k=11 then 1 else if k=13∨k=14∨k=18∨k=19 then 1 else 0
def qdd (k:Nat):Nat:=if k < 2 then 1 else if k < 4 then 0 else if k < 12 then 1 else if k=14∨k=18∨k=19 then 1 else 0
def fitV (P:Pg) (i:Ins):Bool :=
 if i.k=1∨i.k=2 then i.a < P.nv else if i.k=18∨i.k=19 then i.a < P.words.length else if 12≤i.k∧i.k≤16 then i.a < P.ins.length+1 else true
def atV (S:List (Option Vst)) (p:Nat):Option Vst:=S.getD p none
def qcg (S:List (Option Vst)) (t:Option Nat):Nat :=
 match t with
 | none=>0
 | some q=>(match atV S q with
  | none=>0
  | some s=>s.1)
def qbs (S:List (Option Vst)) (p:Nat) (s:Vst):Option (List (Option Vst)) :=
 match atV S p with
 | none=>some (S.set p (some s))
 | some t=>if t=s then some S else none
def znm (S:List (Option Vst)) (at_:Nat) (i:Ins) (now:Vst):Option (List (Option Vst)) :=
 let next:Vst:=(now.1+qdd i.k - qbf i.k,now.2)
 if i.k=12 then qbs S i.a next
 else if i.k=13 then (qbs S i.a next).bind fun S=>qbs S (at_+1) next
 else if i.k=14 then (qbs S i.a (next.1 - 1,next.2)).bind fun S=>qbs S (at_+1) next
 else if i.k=15 then (qbs S i.a now).bind fun S=>qbs S (at_+1) (next.1,some at_)
 else if i.k=16 then qbs S i.a ((atV S (now.2.getD 0)).getD (0,none))
 else qbs S (at_+1) next
def qhl (P:Pg) (S:List (Option Vst)) (at_:Nat) (i:Ins):Option (List (Option Vst)) :=
 match atV S at_ with
 | none=>none
 | some now =>
  if !fitV P i then none
  else if now.1 < qbf i.k+qcg S now.2 then none
  else if i.k=16∧(now.2=none∨now.1≠qcg S now.2) then none
  else znm S at_ i now
def qdv (P:Pg):List (Option Vst)→Nat→List Ins→Option (List (Option Vst))
 | S,_,[]=>some S
 | S,p,i::l=>(qhl P S p i).bind fun S=>qdv P S (p+1) l
def qi1 (n:Nat):List (Option Vst):=some (0,none)::List.replicate n none
def verV (P:Pg):Bool :=
 match qdv P (qi1 P.ins.length) 0 P.ins with
 | none=>false
 | some S=>(match atV S P.ins.length with
  | none=>true
  | some s=>s == (0,none))
theorem qmt (P:Pg) (a b:List Ins):∀ (S:List (Option Vst)) (p:Nat),qdv P S p (a++b)=(qdv P S p a).bind fun S=>qdv P S (p+a.length) b:=by
 induction a with
 | nil=>intro S p;rfl
 | cons i a ih =>
  intro S p;rw[List.cons_append,qdv,qdv];cases h:qhl P S p i with
  | none=>rfl
  | some S1 =>
   show qdv P S1 (p+1) (a++b)=(qdv P S1 (p+1) a).bind _
   rw[ih S1 (p+1),List.length_cons,show p+1+a.length=p+(a.length+1) by omega]
theorem quh (S:List (Option Vst)) (p q:Nat) (s:Vst) (hp:p < S.length):atV (S.set p (some s)) q=if q=p then some s else atV S q:=by
 unfold atV;rw[List.getD_eq_getElem?_getD,List.getD_eq_getElem?_getD,List.getElem?_set];by_cases h:p=q
 ·rw[if_pos h,if_pos h.symm,if_pos (by omega)]<;>rfl
 ·rw[if_neg h,if_neg (fun e=>h e.symm)]
theorem qe1 {S:List (Option Vst)} {p:Nat} {s:Vst} (hp:p < S.length) (h:atV S p=none∨atV S p=some s):∃ S',qbs S p s=some S'∧S'.length=S.length∧∀ q,atV S' q=if q=p then some s else atV S q:=by
 unfold qbs;rcases h with h | h
 ·rw[h];exact ⟨_,rfl,List.length_set,fun q=>quh S p q s hp⟩
 ·rw[h];simp only[if_true];refine ⟨S,rfl,rfl,fun q=>?_⟩
  by_cases hq:q=p
  ·rw[if_pos hq,hq,h]
  ·rw[if_neg hq]
def GoesV (P:Pg) (F:Nat) (l:List Ins) (p:Nat) (s t:Vst):Prop:=∀ S:List (Option Vst),S.length=P.ins.length+1→p+l.length≤P.ins.length→atV S p=some s→qcg S s.2≤F→(∀ q,s.2=some q→q < p) →
 (∀ q,p < q→q < p+l.length→atV S q=none)→(l≠[]→atV S (p+l.length)=none∨atV S (p+l.length)=some t) →
 ∃ S',qdv P S p l=some S'∧S'.length=S.length∧atV S' (p+l.length)=some t∧∀ q,q≤p∨p+l.length < q→atV S' q=atV S q
theorem GoesV.nil (P:Pg) (F p:Nat) (s:Vst):GoesV P F [] p s s:=by
 intro S hS hp h0 h1 _ h2 h3;exact ⟨S,rfl,rfl,h0,fun _ _=>rfl⟩
theorem qep {S S':List (Option Vst)} {t:Option Nat} {p:Nat} (ht:∀ q,t=some q→q < p) (h:∀ q,q≤p→atV S' q=atV S q):qcg S' t=qcg S t:=by
 cases t with
 | none=>rfl
 | some q =>
  unfold qcg;simp only;rw[h q (by have:=ht q rfl;omega)]
theorem GoesV.app {P:Pg} {F:Nat} {a b:List Ins} {p:Nat} {s t u:Vst} (ha:GoesV P F a p s t) (hb:GoesV P F b (p+a.length) t u) (hst:t.2=s.2) (hbe:b=[]→t=u):GoesV P F (a++b) p s u:=by
 by_cases hne:a=[]
 ·subst hne;intro S hS hp h0 h1 hq h2 h3;obtain ⟨S1,e1,l1,k1,f1⟩:=ha S hS (by simp;omega) h0 h1 hq (fun q g1 g2=>absurd g2 (by simp;omega)) (fun h=>absurd rfl h)
  cases e1;have k2:atV S p=some t:=k1;exact hb S hS hp k2 (by rw[hst];exact h1) (fun q g=>hq q (by rw[← hst];exact g)) h2 h3
 ·by_cases hnb:b=[]
  ·have:=hbe hnb
   subst hnb this;rw[List.append_nil];exact ha
  ·intro S hS hp h0 h1 hq h2 h3;rw[List.length_append] at hp h2 h3;have la:0 < a.length:=List.length_pos_iff.2 hne;have lb:0 < b.length:=List.length_pos_iff.2 hnb;obtain ⟨S1,e1,l1,k1,f1⟩:=ha S hS (by omega) h0 h1 hq (fun q g1 g2=>h2 q g1 (by omega)) (fun _=>Or.inl (h2 _ (by omega) (by omega)))
   obtain ⟨S2,e2,l2,k2,f2⟩:=hb S1 (by omega) (by omega) k1 (by rw[hst,qep hq (fun q g=>f1 q (Or.inl g))];omega) (fun q g=>by have:=hq q (by rw[← hst];exact g);omega) (fun q g1 g2=>by rw[f1 q (Or.inr g1)];exact h2 q (by omega) (by omega)) (fun _=>by
    rw[f1 _ (Or.inr (by omega)),show p+a.length+b.length=p+(a.length+b.length) by omega]
    exact h3 (by simp[hne]))
   refine ⟨S2,by rw[qmt,e1];exact e2,by omega,?_,?_⟩
   ·rw[List.length_append,← Nat.add_assoc];exact k2
   ·intro q hq';rw[List.length_append] at hq';rw[f2 q (by omega),f1 q (by omega)]
theorem GoesV.one {P:Pg} {F:Nat} {i:Ins} {p:Nat} {s:Vst} (hk:i.k < 12∨16 < i.k) (hf:fitV P i=true) (hh:qbf i.k+F≤s.1):GoesV P F [i] p s (s.1+qdd i.k - qbf i.k,s.2):=by
 intro S hS hp h0 h1 hq h2 h3;have hp':p+1≤P.ins.length:=hp;obtain ⟨S',e1,e2,e3⟩:=qe1 (S:=S) (p:=p+1) (s:=(s.1+qdd i.k - qbf i.k,s.2)) (by omega) (h3 (by simp))
 refine ⟨S',?_,e2,?_,?_⟩
 ·show (qhl P S p i).bind (fun S=>qdv P S (p+1) [])=some S'
  unfold qhl;rw[h0];simp only;rw[hf,if_neg (by simp),if_neg (by omega),if_neg (by omega)]
  unfold znm;simp only;rw[if_neg (by omega),if_neg (by omega),if_neg (by omega),if_neg (by omega),if_neg (by omega),e1]
  all_goals rfl
 ·show atV S' (p+1)=_
  rw[e3,if_pos rfl]
 ·intro q hq'
  have:q≠p+1:=by
   have:[i].length=1:=rfl
   omega
  rw[e3,if_neg this]
theorem qdw {P:Pg} {i:Ins} (h1:i.k=1∨i.k=2→i.a < P.nv) (h2:i.k=18∨i.k=19→i.a < P.words.length) (h3:12≤i.k∧i.k≤16→i.a < P.ins.length+1):fitV P i=true:=by
 unfold fitV;split
 ·rename_i h;simpa using h1 h
 ·split
  ·rename_i h;simpa using h2 h
  ·split
   ·rename_i h;simpa using h3 h
   ·rfl
theorem zht (op:Nat):4≤qdb op∧qdb op≤10:=by
 unfold qdb
 repeat' split
 all_goals omega
def InE (V:List ByteArray):Ex→Prop
 | ⟨op,_,word,_,_,none,_⟩=>op=119→hasW V word=true
 | ⟨_,_,_,_,_,some l,none⟩=>InE V l
 | ⟨_,_,_,_,_,some l,some r⟩=>InE V l∧InE V r
theorem qn8 {P:Pg} {V:List ByteArray} (hV:V.length=P.nv) (F h:Nat) (t:Option Nat) (hF:F≤h) (x:Ex) (hx:InE V x):∀ p,GoesV P F (mkE (idxW V) x) p (h,t) (h+1,t):=by
 match x,hx with
 | ⟨op,n,word,pl,own,none,r⟩,hx =>
  intro p;rw[InE] at hx;rw[mkE];split
  ·rename_i ho
   have:=qpt (hx ho)
   exact GoesV.one (i:=⟨1,idxW V word,0⟩) (s:=(h,t)) (Or.inl (by show 1 < 12;decide)) (qdw (fun _=>by show idxW V word < P.nv;omega) (fun h=>by rcases h with h | h<;>cases h) (fun h=>absurd h (by show ¬ (12≤1∧1≤16);decide))) (by show 0+F≤h;omega)
  ·exact GoesV.one (i:=⟨0,n,0⟩) (s:=(h,t)) (Or.inl (by show 0 < 12;decide)) (qdw (fun h=>by rcases h with h | h<;>cases h) (fun h=>by rcases h with h | h<;>cases h) (fun h=>absurd h (by show ¬ (12≤0∧0≤16);decide))) (by show 0+F≤h;omega)
 | ⟨op,n,word,pl,own,some l,none⟩,hx =>
  intro p;rw[InE] at hx;rw[mkE];refine GoesV.app (t:=(h+1,t)) (qn8 hV F h t hF l hx p) ?_ rfl (fun h=>by cases h)
  exact GoesV.one (i:=⟨11,0,0⟩) (s:=(h+1,t)) (Or.inl (by show 11 < 12;decide)) (qdw (fun h=>by rcases h with h | h<;>cases h) (fun h=>by rcases h with h | h<;>cases h) (fun h=>absurd h (by show ¬ (12≤11∧11≤16);decide))) (by show 1+F≤h+1;omega)
 | ⟨op,n,word,pl,own,some l,some r⟩,hx =>
  intro p;rw[InE] at hx;rw[mkE];have hr:=zht op;have e1:qbf (qdb op)=2:=by unfold qbf;rw[if_neg (by omega),if_neg (by omega),if_pos (by omega)]
  have e2:qdd (qdb op)=1:=by unfold qdd;rw[if_neg (by omega),if_neg (by omega),if_pos (by omega)]
  refine GoesV.app (t:=(h+2,t)) (GoesV.app (t:=(h+1,t)) (qn8 hV F h t hF l hx.1 p) (qn8 hV F (h+1) t (by omega) r hx.2 _) rfl (fun e=>?_)) ?_ rfl (fun h=>by cases h)
  ·exfalso
   have:=qeo (idxW V) r
   rw[e] at this
   have:0 < coE r:=by
    match r with
    | ⟨_,_,_,_,_,none,_⟩=>rw[coE];decide
    | ⟨_,_,_,_,_,some l,none⟩=>rw[coE];omega
    | ⟨_,_,_,_,_,some l,some r⟩=>rw[coE];omega
   simp at *;omega
  ·have:=GoesV.one (P:=P) (F:=F) (i:=⟨qdb op,0,0⟩) (p:=p+(mkE (idxW V) l++mkE (idxW V) r).length) (s:=(h+2,t)) (Or.inl (by show qdb op < 12;omega)) (qdw (fun h=>by show _ < _;exfalso;simp at h;omega) (fun h=>by exfalso;simp at h;omega) (fun h=>by exfalso;simp at h;omega)) (by show qbf (qdb op)+F≤h+2;omega)
   have e3:((h+2,t).1+qdd (qdb op) - qbf (qdb op),(h+2,t).2)=(h+1,t):=by rw[e1,e2]<;>rfl
   rw[e3] at this;exact this
structure LeV (S S':List (Option Vst)):Prop where
 len:S'.length=S.length
 keep:∀ q s,atV S q=some s→atV S' q=some s
theorem LeV.refl (S:List (Option Vst)):LeV S S:=⟨rfl,fun _ _ h=>h⟩
theorem LeV.trans {S S1 S2:List (Option Vst)} (h:LeV S S1) (k:LeV S1 S2):LeV S S2:=⟨k.len.trans h.len,fun q s e=>k.keep q s (h.keep q s e)⟩
theorem zfv {S S':List (Option Vst)} {p:Nat} {s:Vst} (h:qbs S p s=some S') (hp:p < S.length):LeV S S'∧atV S' p=some s∧∀ q t,atV S' q=some t→atV S q=some t∨t=s:=by
 unfold qbs at h;split at h
 ·rename_i hn;cases h;refine ⟨⟨List.length_set,fun q t e=>?_⟩,by rw[quh S p p s hp,if_pos rfl],fun q t e=>?_⟩
  ·rw[quh S p q s hp];by_cases hq:q=p
   ·subst hq;rw[hn] at e;cases e
   ·rw[if_neg hq];exact e
  ·rw[quh S p q s hp] at e;by_cases hq:q=p
   ·rw[if_pos hq] at e;cases e;exact Or.inr rfl
   ·rw[if_neg hq] at e;exact Or.inl e
 ·rename_i t hn;split at h
  ·rename_i ht;cases h;exact ⟨LeV.refl _,by rw[hn,ht],fun q t e=>Or.inl e⟩
  ·cases h
def TryV (P:Pg) (S:List (Option Vst)):Prop:=∀ p h q,atV S p=some (h,some q)→(∃ i,P.ins[q]?=some i∧i.k=15)∧∃ s,atV S q=some s∧s.1≤h
theorem TryV.add {P:Pg} {S S':List (Option Vst)} (h:TryV P S) (hl:LeV S S') {s:Vst} (hs:∀ q,s.2=some q→(∃ i,P.ins[q]?=some i∧i.k=15)∧∃ t,atV S q=some t∧t.1≤s.1) (hn:∀ q t,atV S' q=some t→atV S q=some t∨t=s):TryV P S':=by
 intro p h' q e;rcases hn p _ e with g | g
 ·obtain ⟨a,t,b,c⟩:=h p h' q g;exact ⟨a,t,hl.keep _ _ b,c⟩
 ·subst g;obtain ⟨a,t,b,c⟩:=hs q rfl;exact ⟨a,t,hl.keep _ _ b,c⟩
theorem qde {P:Pg} {S S':List (Option Vst)} (h:TryV P S) (hl:LeV S S') {p:Nat} {now:Vst} (e:atV S p=some now):qcg S' now.2=qcg S now.2∧qcg S now.2≤now.1:=by
 obtain ⟨h0,t⟩:=now;cases t with
 | none=>exact ⟨rfl,Nat.zero_le _⟩
 | some q =>
  obtain ⟨_,s,b,c⟩:=h p h0 q e;unfold qcg;simp only;rw[b,hl.keep _ _ b];exact ⟨rfl,c⟩
def LeadsV (S:List (Option Vst)) (p:Nat) (i:Ins) (now:Vst):Prop :=
 (i.k=12→atV S i.a=some now) ∧
 (i.k=13→atV S i.a=some (now.1 - 1,now.2)∧atV S (p+1)=some (now.1 - 1,now.2)) ∧
 (i.k=14→atV S i.a=some (now.1 - 1,now.2)∧atV S (p+1)=some now) ∧
 (i.k=15→atV S i.a=some now∧atV S (p+1)=some (now.1,some p)) ∧
 (i.k=16→∃ q s,now.2=some q∧atV S q=some s∧now.1=s.1∧atV S i.a=some s) ∧
 (i.k < 12∨16 < i.k→atV S (p+1)=some (now.1+qdd i.k - qbf i.k,now.2))
def OkV (P:Pg) (S:List (Option Vst)) (p:Nat) (i:Ins):Prop:=∃ now,atV S p=some now∧fitV P i=true∧qbf i.k+qcg S now.2≤now.1∧LeadsV S p i now
theorem LeadsV.le {S S':List (Option Vst)} (hl:LeV S S') {p:Nat} {i:Ins} {now:Vst} (h:LeadsV S p i now):LeadsV S' p i now:=by
 obtain ⟨a,b,c,d,e,f⟩:=h;refine ⟨fun k=>hl.keep _ _ (a k),fun k=>⟨hl.keep _ _ (b k).1,hl.keep _ _ (b k).2⟩,fun k=>⟨hl.keep _ _ (c k).1,hl.keep _ _ (c k).2⟩,fun k=>⟨hl.keep _ _ (d k).1,hl.keep _ _ (d k).2⟩,fun k=>?_,fun k=>hl.keep _ _ (f k)⟩
 obtain ⟨q,s,e1,e2,e3,e4⟩:=e k;exact ⟨q,s,e1,hl.keep _ _ e2,e3,hl.keep _ _ e4⟩
theorem OkV.le {P:Pg} {S S':List (Option Vst)} (hT:TryV P S) (hl:LeV S S') {p:Nat} {i:Ins} (h:OkV P S p i):OkV P S' p i:=by
 obtain ⟨now,a,b,c,d⟩:=h;exact ⟨now,hl.keep _ _ a,b,by rw[(qde hT hl a).1];exact c,d.le hl⟩
def HighV (S:List (Option Vst)) (c:Nat):Prop:=∀ q s,atV S q=some s→s.1≤c
theorem HighV.add {S S':List (Option Vst)} {c:Nat} (h:HighV S c) {s:Vst} (hs:s.1≤c) (hn:∀ q t,atV S' q=some t→atV S q=some t∨t=s):HighV S' c:=by
 intro q t e;rcases hn q t e with g | g
 ·exact h q t g
 ·rw[g];exact hs
theorem zoh (k:Nat):qdd k≤1:=by
 unfold qdd
 repeat' split
 all_goals omega
theorem qe0 {P:Pg} {S S':List (Option Vst)} {p c:Nat} {s:Vst} (h:qbs S p s=some S') (hp:p < S.length) (hT:TryV P S) (hH:HighV S c) (hs:∀ q,s.2=some q→(∃ i,P.ins[q]?=some i∧i.k=15)∧∃ t,atV S q=some t∧t.1≤s.1) (hc:s.1≤c):LeV S S'∧atV S' p=some s∧TryV P S'∧HighV S' c:=by
 obtain ⟨a,b,d⟩:=zfv h hp;exact ⟨a,b,hT.add a hs d,hH.add hc d⟩
theorem look_ok {P:Pg} {S S':List (Option Vst)} {p:Nat} {i:Ins} (h:qhl P S p i=some S') (hS:S.length=P.ins.length+1) (hp:P.ins[p]?=some i) (hT:TryV P S) (hH:HighV S p):LeV S S'∧OkV P S' p i∧TryV P S'∧HighV S' (p+1):=by
 have hpl:p < P.ins.length:=(List.getElem?_eq_some_iff.1 hp).1;have hH1:HighV S (p+1):=fun q s e=>by have:=hH q s e;omega
 unfold qhl at h;split at h
 ·cases h
 ·rename_i now hnow;have hn1:=hH p now hnow;split at h
  ·cases h
  ·rename_i hf;have hf:fitV P i=true:=by simpa using hf
   split at h
   ·cases h
   ·rename_i ht;split at h
    ·cases h
    ·rename_i hk;have hfl:=qde hT (LeV.refl S) hnow;have htr:∀ x:Nat,qcg S now.2≤x→∀ q,now.2=some q→(∃ i,P.ins[q]?=some i∧i.k=15)∧∃ t,atV S q=some t∧t.1≤x:=by
      intro x hx q hq;obtain ⟨h0,t⟩:=now;subst hq;obtain ⟨g1,s,g2,g3⟩:=hT p h0 q hnow;refine ⟨g1,s,g2,?_⟩;unfold qcg at hx;simp only[g2] at hx;exact hx
     have hfa:12≤i.k∧i.k≤16→i.a < S.length:=by
      intro hr;unfold fitV at hf;rw[if_neg (by omega),if_neg (by omega),if_pos hr] at hf
      have:=of_decide_eq_true hf
      omega
     unfold znm at h;simp only at h;split at h
     ·rename_i k;have e1:qdd i.k=0:=by rw[k]<;>rfl
      have e2:qbf i.k=0:=by rw[k]<;>rfl
      rw[e1,e2] at h;obtain ⟨a,b,c,d⟩:=qe0 h (hfa (by omega)) hT hH1 (htr _ (by show _≤now.1+0 - 0;omega)) (by show now.1+0 - 0≤_;omega)
      refine ⟨a,⟨now,a.keep _ _ hnow,hf,by rw[(qde hT a hnow).1];omega,fun _=>b,by omega,by omega,by omega,by omega,by omega⟩,c,d⟩
     ·split at h
      ·rename_i k;have e1:qdd i.k=0:=by rw[k]<;>rfl
       have e2:qbf i.k=1:=by rw[k]<;>rfl
       rw[e2] at ht;rw[e1,e2] at h;cases h1:qbs S i.a (now.1+0 - 1,now.2) with
       | none=>rw[h1] at h;cases h
       | some S1 =>
        rw[h1] at h
        replace h:qbs S1 (p+1) (now.1+0 - 1,now.2)=some S':=h
        obtain ⟨a,b,c,d⟩:=qe0 h1 (hfa (by omega)) hT hH1 (htr _ (by show _≤now.1+0 - 1;omega)) (by show now.1+0 - 1≤_;omega)
        obtain ⟨a',b',c',d'⟩:=qe0 h (by rw[a.len];omega) c d (fun q hq=>by obtain ⟨u,s,v,x⟩:=htr _ (by show _≤now.1+0 - 1;omega) q hq;exact ⟨u,s,a.keep _ _ v,x⟩) (by show now.1+0 - 1≤_;omega)
        have aa:=a.trans a';refine ⟨aa,⟨now,aa.keep _ _ hnow,hf,by rw[(qde hT aa hnow).1,e2];omega,by omega,fun _=>⟨a'.keep _ _ b,b'⟩,by omega,by omega,by omega,by omega⟩,c',d'⟩
      ·split at h
       ·rename_i k;have e1:qdd i.k=1:=by rw[k]<;>rfl
        have e2:qbf i.k=1:=by rw[k]<;>rfl
        rw[e2] at ht;rw[e1,e2] at h;cases h1:qbs S i.a (now.1+1 - 1 - 1,now.2) with
        | none=>rw[h1] at h;cases h
        | some S1 =>
         rw[h1] at h
         replace h:qbs S1 (p+1) (now.1+1 - 1,now.2)=some S':=h
         obtain ⟨a,b,c,d⟩:=qe0 h1 (hfa (by omega)) hT hH1 (htr _ (by show _≤now.1+1 - 1 - 1;omega)) (by show now.1+1 - 1 - 1≤_;omega)
         obtain ⟨a',b',c',d'⟩:=qe0 h (by rw[a.len];omega) c d (fun q hq=>by obtain ⟨u,s,v,x⟩:=htr _ (by show _≤now.1+1 - 1;omega) q hq;exact ⟨u,s,a.keep _ _ v,x⟩) (by show now.1+1 - 1≤_;omega)
         have aa:=a.trans a';refine ⟨aa,⟨now,aa.keep _ _ hnow,hf,by rw[(qde hT aa hnow).1,e2];omega,by omega,by omega,fun _=>⟨a'.keep _ _ b,b'⟩,by omega,by omega,by omega⟩,c',d'⟩
       ·split at h
        ·rename_i k;have e1:qdd i.k=0:=by rw[k]<;>rfl
         have e2:qbf i.k=0:=by rw[k]<;>rfl
         rw[e1,e2] at h;cases h1:qbs S i.a now with
         | none=>rw[h1] at h;cases h
         | some S1 =>
          rw[h1] at h
          replace h:qbs S1 (p+1) (now.1+0 - 0,some p)=some S':=h
          obtain ⟨a,b,c,d⟩:=qe0 h1 (hfa (by omega)) hT hH1 (htr _ hfl.2) (by omega)
          obtain ⟨a',b',c',d'⟩:=qe0 h (by rw[a.len];omega) c d (fun q hq=>by cases hq;exact ⟨⟨i,hp,k⟩,now,a.keep _ _ hnow,by show now.1≤now.1+0 - 0;omega⟩) (by show now.1+0 - 0≤_;omega)
          have aa:=a.trans a';refine ⟨aa,⟨now,aa.keep _ _ hnow,hf,by rw[(qde hT aa hnow).1,e2];omega,by omega,by omega,by omega,fun _=>⟨a'.keep _ _ b,b'⟩,by omega,by omega⟩,c',d'⟩
        ·split at h
         ·rename_i k;obtain ⟨h0,t⟩:=now;cases t with
          | none=>exact absurd ⟨k,Or.inl rfl⟩ hk
          | some q =>
           obtain ⟨g1,s,g2,g3⟩:=hT p h0 q hnow;have hs0:h0=s.1:=by
            by_cases e:h0=s.1
            ·exact e
            ·exact absurd ⟨k,Or.inr (by unfold qcg;simp only[g2];exact e)⟩ hk
           replace h:qbs S i.a ((atV S q).getD (0,none))=some S':=h
           rw[g2] at h
           replace h:qbs S i.a s=some S':=h
           obtain ⟨a,b,c,d⟩:=qe0 h (hfa (by omega)) hT hH1 (fun r hr=>by
            obtain ⟨s1,s2⟩:=s;subst hr;exact hT q s1 r g2) (by have:=hH q s g2;omega)
           have ht':=(qde hT a hnow).1;exact ⟨a,⟨(h0,some q),a.keep _ _ hnow,hf,by rw[ht'];omega,by omega,by omega,by omega,by omega,fun _=>⟨q,s,rfl,a.keep _ _ g2,hs0,b⟩,by omega⟩,c,d⟩
         ·have hg:=zoh i.k;obtain ⟨a,b,c,d⟩:=qe0 h (by omega) hT hH1 (htr _ (by show _≤now.1+qdd i.k - qbf i.k;omega)) (by show now.1+qdd i.k - qbf i.k≤_;omega)
          exact ⟨a,⟨now,a.keep _ _ hnow,hf,by rw[(qde hT a hnow).1];omega,by omega,by omega,by omega,by omega,by omega,fun _=>b⟩,c,d⟩
theorem qlk {P:Pg}:∀ (l:List Ins) (S S':List (Option Vst)) (p:Nat),qdv P S p l=some S'→S.length=P.ins.length+1→(∀ j,l[j]?=P.ins[p+j]?)→TryV P S→HighV S p→LeV S S'∧(∀ j i,l[j]?=some i→OkV P S' (p+j) i)∧TryV P S'∧HighV S' (p+l.length):=by
 intro l;induction l with
 | nil=>intro S S' p h hS _ hT hH;cases h;exact ⟨LeV.refl _,fun j i e=>by simp at e,hT,hH⟩
 | cons i l ih =>
  intro S S' p h hS hl hT hH;rw[qdv] at h;cases h1:qhl P S p i with
  | none=>rw[h1] at h;cases h
  | some S1 =>
   rw[h1] at h
   replace h:qdv P S1 (p+1) l=some S':=h
   obtain ⟨a,b,c,d⟩:=look_ok h1 hS (by have:=hl 0;simpa using this.symm) hT hH
   obtain ⟨a',b',c',d'⟩:=ih S1 S' (p+1) h (by rw[a.len];exact hS) (fun j=>by have:=hl (j+1);rw[List.getElem?_cons_succ] at this;rw[this];congr 1;omega) c d
   refine ⟨a.trans a',fun j i' e=>?_,c',by rw[List.length_cons,show p+(l.length+1)=p+1+l.length by omega];exact d'⟩
   cases j with
   | zero=>simp at e;subst e;exact b.le c a'
   | succ j=>rw[show p+(j+1)=p+1+j by omega];exact b' j i' (by simpa using e)
structure qnp (P:Pg) (S:List (Option Vst)):Prop where
 len:S.length=P.ins.length+1
 ok:∀ p i,P.ins[p]?=some i→OkV P S p i
 try_:TryV P S
 high:∀ q s,atV S q=some s→s.1≤P.ins.length
 start:atV S 0=some (0,none)
 fin:∀ s,atV S P.ins.length=some s→s=(0,none)
theorem zkm {P:Pg} (h:verV P=true):∃ S,qnp P S:=by
 unfold verV at h;split at h
 ·cases h
 ·rename_i S hS;have h0:atV (qi1 P.ins.length) 0=some (0,none):=rfl;have hs:∀ q s,atV (qi1 P.ins.length) q=some s→s=(0,none):=by
   intro q s e;unfold atV qi1 at e;cases q with
   | zero=>simp at e;exact e.symm
   | succ q =>
    rw[List.getD_eq_getElem?_getD,List.getElem?_cons_succ,List.getElem?_replicate] at e;split at e<;>cases e
  obtain ⟨a,b,c,d⟩:=qlk P.ins _ S 0 hS (by simp[qi1]) (fun j=>by rw[Nat.zero_add]) (fun p h q e=>by have:=hs _ _ e;cases this) (fun q s e=>by rw[hs _ _ e];exact Nat.le_refl _)
  refine ⟨S,by rw[a.len];simp[qi1],fun p i e=>by have:=b p i e;rwa [Nat.zero_add] at this,c,fun q s e=>by have:=d q s e;omega,a.keep _ _ h0,fun s e=>?_⟩
  rw[e] at h;exact beq_iff_eq.1 h
open Go.RowKit
def zki (P:Pg) (S:List (Option Vst)):List (Nat×Nat×Nat)→Option Nat→Prop
 | [],t=>t=none
 | b::r,t=>∃ q i s,t=some q∧P.ins[q]?=some i∧i.k=15∧atV S q=some s∧b.2.1=s.1∧b.2.2=i.a∧zki P S r s.2
def FlV:List (Nat×Nat×Nat)→Nat→Prop
 | [],_=>True
 | b::r,n=>b.1≤n∧FlV r b.1
theorem FlV.le {l:List (Nat×Nat×Nat)} {n n':Nat} (h:FlV l n) (hn:n≤n'):FlV l n':=by
 cases l with
 | nil=>trivial
 | cons b r=>exact ⟨Nat.le_trans h.1 hn,h.2⟩
def R64 (v:Int):Prop:=-9223372036854775808≤v∧v≤9223372036854775807
theorem qus (v:Int):R64 (wrap64 v):=by unfold R64 wrap64;omega
theorem qw2 (b:Bool):R64 (truth b):=by cases b<;>exact ⟨by decide,by decide⟩
theorem zpm:R64 0:=⟨by decide,by decide⟩
structure InvM (P:Pg) (S:List (Option Vst)) (c:Nat) (m:Ms):Prop where
 vars:m.vars.length=P.nv
 rst:∀ v∈m.st,R64 v
 rvars:∀ v∈m.vars,R64 v
 rleft:∀ v∈m.left,R64 v
 rund:∀ u∈m.undos,R64 u.2∧u.1 < P.words.length
 fl:FlV m.begun m.undos.length
 tried:m.tried < 65536
 at_:∃ t,zki P S m.begun t∧qcg S t≤m.st.length∧(m.qak=false→atV S m.place=some (m.st.length,t))
 pl:m.place≤P.ins.length
 fin:m.fin=0
 c1:m.st.length≤c
 c2:m.undos.length≤c
 c3:m.begun.length≤c
 c4:m.asks.length≤c
theorem InvM.up {P:Pg} {S:List (Option Vst)} {c c':Nat} {m:Ms} (h:InvM P S c m) (hc:c≤c'):InvM P S c' m :=
 ⟨h.vars,h.rst,h.rvars,h.rleft,h.rund,h.fl,h.tried,h.at_,h.pl,h.fin,Nat.le_trans h.c1 hc,Nat.le_trans h.c2 hc,Nat.le_trans h.c3 hc,Nat.le_trans h.c4 hc⟩
theorem qhg {P:Pg} {i:Nat} {arg:Int} {most:Nat} {und:Bool} {m:Ms} {e:Nat} {v:Int} {m':Ms} (h:askM P i arg most und m=(e,v,m')) :
  ∃ a l t,m'={ m with asks:=m.asks++[a],left:=l,tried:=t }∧(∀ x∈l,x∈m.left)∧(t≤m.tried∨t < most)∧(e=0→v∈m.left∧0≤v)∧(e≠0→v=0)∧e≤3:=by
 unfold askM at h;split at h
 ·rename_i hl;cases h;exact ⟨_,m.left,m.tried,rfl,fun _ h=>h,Or.inl (Nat.le_refl _),(fun h=>by cases h),fun _=>rfl,by decide⟩
 ·rename_i v0 r hl;have hr:∀ x∈r,x∈m.left:=fun x hx=>by rw[hl];exact List.mem_cons_of_mem _ hx
  split at h
  ·rename_i hc;cases h;exact ⟨_,r,_,rfl,hr,Or.inr hc.2,(fun h=>by cases h),fun _=>rfl,by decide⟩
  ·split at h
   ·cases h;exact ⟨_,r,0,rfl,hr,Or.inl (Nat.zero_le _),(fun h=>by cases h),fun _=>rfl,by decide⟩
   ·rename_i hv;cases h;exact ⟨_,r,0,rfl,hr,Or.inl (Nat.zero_le _),fun _=>⟨by rw[hl];exact List.mem_cons_self,by omega⟩,fun h=>absurd rfl h,by decide⟩
theorem InvM.ask {P:Pg} {S:List (Option Vst)} {c:Nat} {m:Ms} (h:InvM P S c m) {i:Nat} {arg:Int} {most:Nat} {und:Bool} {e:Nat} {v:Int} {m':Ms} (he:askM P i arg most und m=(e,v,m')) (hm:most≤65536):InvM P S (c+1) m':=by
 obtain ⟨a,l,t,rfl,h1,h2,_⟩:=qhg he
 have:=h.tried
 exact ⟨h.vars,h.rst,h.rvars,fun v hv=>h.rleft v (h1 v hv),h.rund,h.fl,by show t < 65536;omega,h.at_,h.pl,h.fin,Nat.le_succ_of_le h.c1,Nat.le_succ_of_le h.c2,Nat.le_succ_of_le h.c3,by have:=h.c4;simp;omega⟩
theorem InvM.stp {P:Pg} {S:List (Option Vst)} {c:Nat} {m:Ms} (h:InvM P S c m) (hS:qnp P S) {st:List Int} {p:Nat} {t:Option Nat} (hr:∀ v∈st,R64 v) (hl:st.length≤c+1) (hc:zki P S m.begun t) (hs:atV S p=some (st.length,t)) (hp:p≤P.ins.length):InvM P S (c+1) { m with st:=st,place:=p } :=
 ⟨h.vars,hr,h.rvars,h.rleft,h.rund,h.fl,h.tried,⟨t,hc,(qde hS.try_ (LeV.refl _) hs).2,fun _=>hs⟩,hp,h.fin,hl,Nat.le_succ_of_le h.c2,Nat.le_succ_of_le h.c3,Nat.le_succ_of_le h.c4⟩
theorem qjp {P:Pg} {i:Ins} (h:fitV P i=true) (h1:12≤i.k) (h2:i.k≤16):i.a≤P.ins.length:=by
 unfold fitV at h;rw[if_neg (by omega),if_neg (by omega),if_pos ⟨h1,h2⟩] at h
 have:=of_decide_eq_true h
 omega
theorem qye {P:Pg} {i:Ins} (h:fitV P i=true) (h1:i.k=1∨i.k=2):i.a < P.nv:=by
 unfold fitV at h;rw[if_pos h1] at h;exact of_decide_eq_true h
theorem zba {P:Pg} {i:Ins} (h:fitV P i=true) (h1:i.k=18∨i.k=19):i.a < P.words.length:=by
 unfold fitV at h;rw[if_neg (by omega),if_pos h1] at h
 exact of_decide_eq_true h
theorem qwa {l:List Int} (h:0 < l.length):l.headD 0∈l:=by
 cases l with
 | nil=>simp at h
 | cons a l=>simp
structure CanM (P:Pg) (i:Ins) (m:Ms):Prop where
 k:i.k < 20
 a:i.a < 65536
 b:i.b < 65536
 st:qbf i.k≤m.st.length
 fit:fitV P i=true
 keep:i.k=16→m.begun≠[]
theorem InvM.can {P:Pg} {S:List (Option Vst)} {c:Nat} {m:Ms} (h:InvM P S c m) (hS:qnp P S) (ho:∀ i∈P.ins,OkI i) (hu:m.qak=false) {i:Ins} (hi:P.ins[m.place]?=some i):CanM P i m:=by
 obtain ⟨t,h1,h2,h3⟩:=h.at_;obtain ⟨now,e1,e2,e3,e4⟩:=hS.ok _ _ hi;rw[h3 hu] at e1;cases e1;have ok:=ho i (List.mem_of_getElem? hi);refine ⟨ok.k,ok.a,ok.b,by show _≤m.st.length;exact Nat.le_trans (Nat.le_add_right _ _) e3,e2,fun hk hb=>?_⟩
 obtain ⟨q,s,g1,_⟩:=e4.2.2.2.2.1 hk;rw[hb] at h1
 replace h1:t=none:=h1
 rw[h1] at g1;cases g1
theorem zxw {P:Pg} {S:List (Option Vst)} {c:Nat} {m:Ms} (h:InvM P S c m) (hS:qnp P S) (ho:∀ i∈P.ins,OkI i) (hu:m.qak=false) {i:Ins} (hi:P.ins[m.place]?=some i) {e:Nat} {m':Ms} (he:doM P i { m with place:=m.place+1 }=(e,m')) :
  (e=0→InvM P S (c+1) m')∧(e≠0→InvM P S (c+1) { m' with place:=m.place }):=by
 have hcan:=h.can hS ho hu hi;have hpl:m.place < P.ins.length:=(List.getElem?_eq_some_iff.1 hi).1;obtain ⟨t,h1,h2,h3⟩:=h.at_;obtain ⟨now,e1,e2,e3,e4⟩:=hS.ok _ _ hi;have h3:=h3 hu;rw[h3] at e1;cases e1;obtain ⟨l12,l13,l14,l15,l16,lo⟩:=e4;have hk:=hcan.k;have hst:=hcan.st;have hc1:=h.c1;have rt:∀ v∈m.st.tail,R64 v:=fun v hv=>h.rst v (List.mem_of_mem_tail hv)
 have rtt:∀ v∈m.st.tail.tail,R64 v:=fun v hv=>rt v (List.mem_of_mem_tail hv)
 have cons:∀ {v:Int} {l:List Int},R64 v→(∀ x∈l,R64 x)→∀ x∈v::l,R64 x:=fun hv hl x hx=>by
  rw[List.mem_cons] at hx;rcases hx with rfl | hx
  ·exact hv
  ·exact hl x hx
 have none0:∀ {x:Ms},e=0→InvM P S (c+1) x→((0:Nat)=0→InvM P S (c+1) x):=fun _ h _=>h
 unfold doM at he;by_cases k0:i.k=0
 ·rw[if_pos k0] at he;cases he;refine ⟨fun _=>?_,fun h=>absurd rfl h⟩
  have hn:=lo (by omega)
  rw[show qdd i.k=1 by rw[k0]<;>rfl,show qbf i.k=0 by rw[k0]<;>rfl] at hn
  exact h.stp hS (cons ⟨by omega,by have:=hcan.a;omega⟩ h.rst) (by simp;omega) h1 (by simpa using hn) hpl
 rw[if_neg k0] at he;by_cases k1:i.k=1
 ·rw[if_pos k1] at he;cases he;refine ⟨fun _=>?_,fun h=>absurd rfl h⟩
  have hn:=lo (by omega)
  rw[show qdd i.k=1 by rw[k1]<;>rfl,show qbf i.k=0 by rw[k1]<;>rfl] at hn
  have hv:=qye e2 (Or.inl k1);refine h.stp hS (cons ?_ h.rst) (by simp;omega) h1 (by simpa using hn) hpl
  have:i.a < m.vars.length:=by rw[h.vars];exact hv
  show R64 (m.vars.getD i.a 0)
  rw[List.getD_eq_getElem?_getD,List.getElem?_eq_getElem this];exact h.rvars _ (List.getElem_mem this)
 rw[if_neg k1] at he;by_cases k2:i.k=2
 ·rw[if_pos k2] at he;cases he;refine ⟨fun _=>?_,fun h=>absurd rfl h⟩
  have hn:=lo (by omega)
  rw[show qdd i.k=0 by rw[k2]<;>rfl,show qbf i.k=1 by rw[k2]<;>rfl] at hn
  rw[show qbf i.k=1 by rw[k2]<;>rfl] at hst
  have:=h.stp (st:=m.st.tail) (p:=m.place+1) hS rt (by simp;omega) h1 (by rw[List.length_tail];exact hn) hpl
  refine ⟨by simpa using h.vars,this.rst,fun v hv=>?_,this.rleft,this.rund,this.fl,this.tried,this.at_,this.pl,this.fin,this.c1,this.c2,this.c3,this.c4⟩
  rcases List.mem_or_eq_of_mem_set hv with hv | rfl
  ·exact h.rvars v hv
  ·exact h.rst _ (qwa hst)
 rw[if_neg k2] at he;by_cases k3:i.k=3
 ·rw[if_pos k3] at he;cases he;refine ⟨fun _=>?_,fun h=>absurd rfl h⟩
  have hn:=lo (by omega)
  rw[show qdd i.k=0 by rw[k3]<;>rfl,show qbf i.k=1 by rw[k3]<;>rfl] at hn
  exact h.stp hS rt (by simp;omega) h1 (by rw[List.length_tail];exact hn) hpl
 rw[if_neg k3] at he;by_cases k7:i.k=7
 ·rw[if_pos k7] at he;have hn:=lo (by omega)
  rw[show qdd i.k=1 by rw[k7]<;>rfl,show qbf i.k=2 by rw[k7]<;>rfl] at hn
  rw[show qbf i.k=2 by rw[k7]<;>rfl] at hst
  split at he
  ·cases he;exact ⟨(fun h=>by cases h),fun _=>h.up (Nat.le_succ c)⟩
  ·cases he;exact ⟨fun _=>h.stp hS (cons (qus _) rtt) (by simp;omega) h1 (by simp only[List.length_cons,List.length_tail];rw[show m.st.length - 1 - 1+1=m.st.length+1 - 2 by omega];exact hn) hpl,fun h=>absurd rfl h⟩
 rw[if_neg k7] at he;by_cases k10:i.k≤10
 ·rw[if_pos k10] at he;cases he;refine ⟨fun _=>?_,fun h=>absurd rfl h⟩
  have hn:=lo (by omega)
  have g1:qdd i.k=1:=by unfold qdd;rw[if_neg (by omega),if_neg (by omega),if_pos (by omega)]
  have g2:qbf i.k=2:=by unfold qbf;rw[if_neg (by omega),if_neg (by omega),if_pos (by omega)]
  rw[g1,g2] at hn;rw[g2] at hst;refine h.stp hS (cons ?_ rtt) (by simp;omega) h1 (by simp only[List.length_cons,List.length_tail];rw[show m.st.length - 1 - 1+1=m.st.length+1 - 2 by omega];exact hn) hpl
  unfold op2M
  repeat' split
  all_goals first | exact qus _ | exact qw2 _
 rw[if_neg k10] at he;by_cases k11:i.k=11
 ·rw[if_pos k11] at he;cases he;refine ⟨fun _=>?_,fun h=>absurd rfl h⟩
  have hn:=lo (by omega)
  rw[show qdd i.k=1 by rw[k11]<;>rfl,show qbf i.k=1 by rw[k11]<;>rfl] at hn
  rw[show qbf i.k=1 by rw[k11]<;>rfl] at hst
  exact h.stp hS (cons (qw2 _) rt) (by simp;omega) h1 (by simp only[List.length_cons,List.length_tail];rw[show m.st.length - 1+1=m.st.length+1 - 1 by omega];exact hn) hpl
 rw[if_neg k11] at he;by_cases k12:i.k=12
 ·rw[if_pos k12] at he;cases he;exact ⟨fun _=>h.stp hS h.rst (Nat.le_succ_of_le hc1) h1 (l12 k12) (qjp e2 (by omega) (by omega)),fun h=>absurd rfl h⟩
 rw[if_neg k12] at he;by_cases k13:i.k=13
 ·rw[if_pos k13] at he;cases he;refine ⟨fun _=>?_,fun h=>absurd rfl h⟩
  obtain ⟨a1,a2⟩:=l13 k13;refine h.stp hS rt (by simp;omega) h1 ?_ ?_
  ·rw[List.length_tail];split
   ·exact a1
   ·exact a2
  ·have:=qjp e2 (by omega) (by omega)
   split
   ·exact this
   ·exact hpl
 rw[if_neg k13] at he;by_cases k14:i.k=14
 ·rw[if_pos k14] at he;obtain ⟨a1,a2⟩:=l14 k14;rw[show qbf i.k=1 by rw[k14]<;>rfl] at hst
  split at he
  ·cases he;refine ⟨fun _=>h.stp hS (cons (qus _) rt) (by simp;omega) h1 ?_ hpl,fun h=>absurd rfl h⟩
   simp only[List.length_cons,List.length_tail];rw[show m.st.length - 1+1=m.st.length by omega]
   exact a2
  ·cases he;exact ⟨fun _=>h.stp hS rt (by simp;omega) h1 (by rw[List.length_tail];exact a1) (qjp e2 (by omega) (by omega)),fun h=>absurd rfl h⟩
 rw[if_neg k14] at he;by_cases k15:i.k=15
 ·rw[if_pos k15] at he;cases he;obtain ⟨a1,a2⟩:=l15 k15
  have:=h.c3
  exact ⟨fun _=>⟨h.vars,h.rst,h.rvars,h.rleft,h.rund,⟨Nat.le_refl _,h.fl⟩,h.tried,⟨some m.place,⟨m.place,i,_,rfl,hi,k15,h3,rfl,rfl,h1⟩,(qde hS.try_ (LeV.refl _) a2).2,fun _=>a2⟩,hpl,h.fin,Nat.le_succ_of_le h.c1,Nat.le_succ_of_le h.c2,by simpa using this,Nat.le_succ_of_le h.c4⟩,fun h=>absurd rfl h⟩
 rw[if_neg k15] at he;by_cases k16:i.k=16
 ·rw[if_pos k16] at he;cases he;obtain ⟨q,s,b1,b2,b3,b4⟩:=l16 k16
  replace b1:t=some q:=b1
  replace b3:m.st.length=s.1:=b3
  refine ⟨fun _=>?_,fun h=>absurd rfl h⟩
  subst b1;cases hb:m.begun with
  | nil=>rw[hb] at h1;cases h1
  | cons b r =>
   rw[hb] at h1;obtain ⟨q',i',s',x1,x2,x3,x4,x5,x6,x7⟩:=h1;cases x1;rw[b2] at x4;cases x4;have b4':atV S i.a=some (m.st.length,s.2):=by rw[b4,b3]
   have hfl:=h.fl;rw[hb] at hfl;have hc3:=h.c3;rw[hb,List.length_cons] at hc3;exact ⟨h.vars,h.rst,h.rvars,h.rleft,h.rund,hfl.2.le hfl.1,h.tried,⟨s.2,x7,(qde hS.try_ (LeV.refl _) b4').2,fun _=>b4'⟩,qjp e2 (by omega) (by omega),h.fin,Nat.le_succ_of_le h.c1,Nat.le_succ_of_le h.c2,by show r.length≤_;omega,Nat.le_succ_of_le h.c4⟩
 rw[if_neg k16] at he;by_cases k17:i.k=17
 ·rw[if_pos k17] at he;cases he;exact ⟨(fun h=>by cases h),fun _=>h.up (Nat.le_succ c)⟩
 rw[if_neg k17] at he;by_cases k18:i.k=18
 ·rw[if_pos k18] at he;have hn:=lo (by omega)
  rw[show qdd i.k=1 by rw[k18]<;>rfl,show qbf i.k=1 by rw[k18]<;>rfl] at hn
  rw[show qbf i.k=1 by rw[k18]<;>rfl] at hst
  cases ha:askM P i.a (m.st.headD 0) i.b false { m with place:=m.place+1 } with
  | mk ea va =>
   obtain ⟨va,ma⟩:=va;obtain ⟨a,l,t',rfl,g1,g2,g3,g4,g5⟩:=qhg ha;have hbb:=hcan.b;have htr:=h.tried;have hc4:=h.c4
   replace g2:t'≤m.tried∨t' < i.b:=g2
   have key:∀ (st:List Int) (p:Nat),(∀ v∈st,R64 v)→st.length=m.st.length→(p=m.place∨p=m.place+1)→InvM P S (c+1) { m with st:=st,place:=p,asks:=m.asks++[a],left:=l,tried:=t' }:=by
    intro st p hr hl hp;have hs:atV S p=some (st.length,t):=by
     rw[hl];rcases hp with rfl | rfl
     ·exact h3
     ·exact hn
    exact ⟨h.vars,hr,h.rvars,fun v hv=>h.rleft v (g1 v hv),h.rund,h.fl,by show t' < 65536;omega,⟨t,h1,by show qcg S t≤st.length;omega,fun _=>hs⟩,by show p≤_;omega,h.fin,by show st.length≤_;omega,Nat.le_succ_of_le h.c2,Nat.le_succ_of_le h.c3,by simp;omega⟩
   rw[show askM P i.a (({ m with place:=m.place+1 }:Ms).st.headD 0) i.b false { m with place:=m.place+1 }=(ea,va,{ m with place:=m.place+1,asks:=m.asks++[a],left:=l,tried:=t' }) from ha] at he
   by_cases hz:ea=0
   ·subst hz;cases he;refine ⟨fun _=>?_,fun h=>absurd rfl h⟩
    exact key (va::m.st.tail) (m.place+1) (cons (h.rleft _ (g3 rfl).1) rt) (by simp;omega) (Or.inr rfl)
   ·have he':((ea,{ m with place:=m.place+1,asks:=m.asks++[a],left:=l,tried:=t' }):Nat×Ms)=(e,m'):=by
     rw[← he];cases ea with
     | zero=>exact absurd rfl hz
     | succ n=>rfl
    cases he';exact ⟨fun h=>absurd h hz,fun _=>key m.st m.place h.rst rfl (Or.inl rfl)⟩
 rw[if_neg k18] at he;cases he;have hk19:i.k=19:=by omega
 have hn:=lo (by omega)
 rw[show qdd i.k=1 by rw[hk19]<;>rfl,show qbf i.k=1 by rw[hk19]<;>rfl] at hn
 rw[show qbf i.k=1 by rw[hk19]<;>rfl] at hst
 refine ⟨fun _=>?_,fun h=>absurd rfl h⟩
 have hn':atV S (m.place+1)=some (m.st.length,t):=hn
 have:=h.c2
 refine ⟨h.vars,h.rst,h.rvars,h.rleft,fun u hu=>?_,h.fl.le (by simp),h.tried,⟨t,h1,h2,fun _=>hn'⟩,hpl,h.fin,Nat.le_succ_of_le h.c1,by simp;omega,Nat.le_succ_of_le h.c3,Nat.le_succ_of_le h.c4⟩
 rw[List.mem_cons] at hu;rcases hu with rfl | hu
 ·exact ⟨h.rst _ (qwa hst),zba e2 (Or.inr hk19)⟩
 ·exact h.rund u hu
end Px
end Go.Proofs.YtagpnplggopoeaaGreatDoor
