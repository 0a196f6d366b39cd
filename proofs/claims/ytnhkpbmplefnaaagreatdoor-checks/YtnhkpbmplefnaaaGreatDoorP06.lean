import Derived.Test.YtnhkpbmplefnaaaGreatDoorP05
import Derived.Test.YtnhkpbmplefnaaaGreatDoorP04
import Derived.Laws.Strings
import Derived.Test.YtnhkpbmplefnaaaGreatDoorP00
import Derived.MapKept
import Derived.Deep.RegionWith
namespace Go.Proofs.YtnhkpbmplefnaaaGreatDoor
namespace Px
def Ss:List Sm→Nat→Nat→Prop
 | [],lo,hi=>lo≤hi
 | ⟨op,_,pl,ex,asw,asPl,_,n,nPl,one,two⟩::rest,lo,hi=>∃ md,Ss rest md hi∧lo≤md ∧
   ((op=108∧∃ x,ex=some x∧Sp x lo md∧pl < md) ∨
    (op=99∧∃ m1 m2,lo≤m1∧m1≤m2∧m2≤md∧(∀ x,ex=some x→Sp x lo m1∧x.pl < m1)∧(asw.size=0∨asPl < m2)∧((1≤n∧n≤5)∨(m2≤nPl∧nPl < md))) ∨
    (op=105∧∃ x a b c d m1,ex=some x∧Sp x lo m1∧x.pl < m1∧m1≤a∧Ss one a b∧b≤c∧Ss two c d∧d≤md) ∨
    (op=116∧∃ a b c d,lo≤a∧Ss one a b∧b≤c∧Ss two c d∧d≤md) ∨
    (op=114∧∃ a b,lo≤nPl∧nPl < a∧Ss one a b∧b≤md)∨op=102)
def S1 (x:Sm) (lo md:Nat):Prop:=lo≤md ∧
   ((x.op=108∧∃ e,x.ex=some e∧Sp e lo md∧x.pl < md) ∨
    (x.op=99∧∃ m1 m2,lo≤m1∧m1≤m2∧m2≤md∧(∀ e,x.ex=some e→Sp e lo m1∧e.pl < m1)∧(x.asw.size=0∨x.asPl < m2)∧((1≤x.n∧x.n≤5)∨(m2≤x.nPl∧x.nPl < md))) ∨
    (x.op=105∧∃ e a b c d m1,x.ex=some e∧Sp e lo m1∧e.pl < m1∧m1≤a∧Ss x.one a b∧b≤c∧Ss x.two c d∧d≤md) ∨
    (x.op=116∧∃ a b c d,lo≤a∧Ss x.one a b∧b≤c∧Ss x.two c d∧d≤md) ∨
    (x.op=114∧∃ a b,lo≤x.nPl∧x.nPl < a∧Ss x.one a b∧b≤md)∨x.op=102)
theorem Ss_nil {lo hi:Nat}:Ss [] lo hi↔lo≤hi:=by rw[Ss]
theorem Ss_cons {x:Sm} {l:List Sm} {lo hi:Nat}:Ss (x::l) lo hi↔∃ md,Ss l md hi∧S1 x lo md:=by
 obtain ⟨op,word,pl,ex,asw,asPl,undo,n,nPl,one,two⟩:=x
 rw[Ss]
 rfl
def Spans (s:ByteArray) (g:Ps→Except Nat (Ex×Ps)):Prop:=∀ st x st',Tk s st.t→g st=.ok (x,st')→Sp x st.t.a st'.t.a
theorem chain_spans {s:ByteArray} {g:Ps→Except Nat (Ex×Ps)} (hg:Goes s g) (hs:Spans s g) (a b:UInt8) (n:Nat):∀ (pl lo:Nat) (e:Ex) (st:Ps) (x:Ex) (st':Ps),Tk s st.t→lo≤st.t.a→Sp e lo st.t.a→chain s g a b n pl e st=.ok (x,st')→Sp x lo st'.t.a:=by
 induction n with
 | zero=>intro pl lo e st x st' _ _ _ h;simp[chain] at h
 | succ n ih =>
  intro pl lo e st x st' ht hlo he h
  rw[chain] at h
  split at h
  ·rename_i ho
   have g0:=good_on ht ho
   have l0:=g0.lt
   cases hp:g (nx s st) with
   | error p=>rw[hp] at h;cases h
   | ok r =>
    obtain ⟨k,st1⟩:=r
    rw[hp] at h
    have g1:=hg _ _ _ g0.tk hp
    have l1:=g1.lt
    exact ih pl lo ⟨a.toNat,0,nowt,pl,st.t.a,some e,some k⟩ _ _ _ g1.tk (by omega) ⟨hlo,by omega,(nx s st).t.a,by omega,by omega,he.mono (Nat.le_refl _) (by omega),hs _ _ _ g0.tk hp⟩ h
  ·split at h
   ·rename_i ho
    have g0:=good_on ht ho
    have l0:=g0.lt
    cases hp:g (nx s st) with
    | error p=>rw[hp] at h;cases h
    | ok r =>
     obtain ⟨k,st1⟩:=r
     rw[hp] at h
     have g1:=hg _ _ _ g0.tk hp
     have l1:=g1.lt
     exact ih pl lo ⟨b.toNat,0,nowt,pl,st.t.a,some e,some k⟩ _ _ _ g1.tk (by omega) ⟨hlo,by omega,(nx s st).t.a,by omega,by omega,he.mono (Nat.le_refl _) (by omega),hs _ _ _ g0.tk hp⟩ h
   ·cases h;exact he
theorem row_spans {s:ByteArray} {g:Ps→Except Nat (Ex×Ps)} (hg:Goes s g) (hs:Spans s g) (a b:UInt8):Spans s (row s g a b):=by
 intro st x st' ht h
 unfold row at h
 cases hp:g st with
 | error p=>rw[hp] at h;cases h
 | ok r =>
  obtain ⟨e,st1⟩:=r
  rw[hp] at h
  have g1:=hg _ _ _ ht hp
  exact chain_spans hg hs _ _ _ _ _ _ _ _ _ g1.tk (Nat.le_of_lt g1.lt) (hs _ _ _ ht hp) h
theorem sum_spans {s:ByteArray} {g:Ps→Except Nat (Ex×Ps)} (hg:Goes s g) (hs:Spans s g):Spans s (sum s g):=row_spans (term_goes hg) (row_spans hg hs _ _) _ _
theorem expr_spans {s:ByteArray} {g:Ps→Except Nat (Ex×Ps)} (hg:Goes s g) (hs:Spans s g):Spans s (expr s g):=by
 intro st x st' ht h
 unfold expr at h
 cases hp:sum s g st with
 | error p=>rw[hp] at h;cases h
 | ok r =>
  obtain ⟨e,st1⟩:=r
  rw[hp] at h
  simp only at h
  have g1:=sum_goes hg _ _ _ ht hp
  have s1:=sum_spans hg hs _ _ _ ht hp
  have l1:=g1.lt
  cases hc:cmpOf s st1.t with
  | none=>rw[hc] at h;cases h;exact s1
  | some o =>
   rw[hc] at h
   simp only at h
   have hk:=cmpOf_k hc
   have g0:Good s st1 (nx s st1):=good_nx g1.tk (by rw[hk];decide) (by rw[hk];decide)
   have l0:=g0.lt
   cases hq:sum s g (nx s st1) with
   | error p=>rw[hq] at h;cases h
   | ok r2 =>
    obtain ⟨k,st2⟩:=r2
    rw[hq] at h
    have g2:=sum_goes hg _ _ _ g0.tk hq
    have s2:=sum_spans hg hs _ _ _ g0.tk hq
    have l2:=g2.lt
    cases h
    exact ⟨by omega,by omega,(nx s st1).t.a,by omega,by omega,s1.mono (Nat.le_refl _) (by omega),s2⟩
theorem atom_spans (s:ByteArray) (n:Nat):Spans s (atom s n):=by
 induction n with
 | zero=>intro st x st' _ h;simp[atom] at h
 | succ n ih =>
  intro st x st' ht h
  have hgo:=atom_goes s (n+1) _ _ _ ht h
  have hlt:=hgo.lt
  rw[atom] at h
  split at h
  ·cases h;exact ⟨Nat.le_refl _,hlt⟩
  ·split at h
   ·cases h;exact ⟨Nat.le_refl _,hlt⟩
   ·split at h
    ·cases h;exact ⟨Nat.le_refl _,hlt⟩
    ·split at h
     ·cases h;exact ⟨Nat.le_refl _,hlt⟩
     ·split at h
      ·rename_i ho
       have g0:=good_on ht ho
       cases hp:atom s n (nx s st) with
       | error p=>rw[hp] at h;cases h
       | ok r =>
        obtain ⟨k,st1⟩:=r
        rw[hp] at h
        cases h
        exact ⟨Nat.le_refl _,hlt,(ih _ _ _ g0.tk hp).mono (Nat.le_of_lt g0.lt) (Nat.le_refl _)⟩
      ·split at h
       ·rename_i ho
        have g0:=good_on (st:=dn st) ht ho
        have l0:st.t.a < (nx s (dn st)).t.a:=g0.lt
        cases hp:expr s (atom s n) (nx s (dn st)) with
        | error p=>rw[hp] at h;cases h
        | ok r =>
         obtain ⟨k,st1⟩:=r
         have g1:=expr_goes (atom_goes s n) _ _ _ g0.tk hp
         have s1:=expr_spans (atom_goes s n) ih _ _ _ g0.tk hp
         rw[hp] at h
         simp only at h
         split at h
         ·rename_i ho2
          have g2:=good_on g1.tk ho2
          have l2:=g2.lt
          cases h
          exact (s1.mono (Nat.le_of_lt l0) (Nat.le_of_lt l2)).place _
         ·cases h
       ·cases h
theorem exprOf_spans (s:ByteArray):Spans s (exprOf s):=expr_spans (atom_goes s _) (atom_spans s _)
def SpansS (s:ByteArray) (g:Ps→Except Nat (Sm×Ps)):Prop:=∀ st x st',Tk s st.t→g st=.ok (x,st')→S1 x st.t.a st'.t.a
theorem stmts_spans {s:ByteArray} {g:Ps→Except Nat (Sm×Ps)} (hg:Goes s g) (hs:SpansS s g) (stop:Ps→Bool) (n:Nat):∀ (l:List Sm) (st:Ps) (x:List Sm) (st':Ps),Tk s st.t→stmts s g stop n l st=.ok (x,st')→∃ r,x=l++r∧Ss r st.t.a st'.t.a:=by
 induction n with
 | zero=>intro l st x st' _ h;simp[stmts] at h
 | succ n ih =>
  intro l st x st' ht h
  rw[stmts] at h
  split at h
  ·cases h;exact ⟨[],by simp,Ss_nil.2 (Nat.le_refl _)⟩
  ·cases hp:g st with
   | error p=>rw[hp] at h;cases h
   | ok r =>
    obtain ⟨y,st1⟩:=r
    rw[hp] at h
    have g1:=hg _ _ _ ht hp
    obtain ⟨r,hr,h2⟩:=ih _ _ _ _ g1.tk h
    exact ⟨y::r,by rw[hr];simp,Ss_cons.2 ⟨_,h2,hs _ _ _ ht hp⟩⟩
theorem block_spans {s:ByteArray} {g:Ps→Except Nat (Sm×Ps)} (hg:Goes s g) (hs:SpansS s g) {st:Ps} {x:List Sm} {st':Ps} (ht:Tk s st.t) (h:block s g st=.ok (x,st')):∃ a b,st.t.a < a∧Ss x a b∧b≤st'.t.a:=by
 unfold block at h
 split at h
 ·rename_i ho
  have g0:=good_on (st:=dn st) ht ho
  cases hp:stmts s g (fun st=>onB s st.t ⟨#[125]⟩) (s.size+1) [] (nx s (dn st)) with
  | error p=>rw[hp] at h;cases h
  | ok r =>
   obtain ⟨l,st1⟩:=r
   rw[hp] at h
   obtain ⟨r,hr,h2⟩:=stmts_spans hg hs _ _ _ _ _ _ g0.tk hp
   obtain ⟨g1,g2⟩:=stmts_goes hg _ _ _ _ _ _ g0.tk hp
   have g3:=good_on g1.tk g2
   cases h
   rw[List.nil_append] at hr
   subst hr
   exact ⟨_,_,g0.lt,h2,Nat.le_of_lt g3.lt⟩
 ·cases h
theorem letS_spans (s:ByteArray):SpansS s (letS s):=by
 intro st x st' ht h
 unfold letS at h
 cases h1:kind s 119 st with
 | error p=>rw[h1] at h;cases h
 | ok st1 =>
  rw[h1] at h;simp only at h
  have g1:=kind_good ht (by decide) (by decide) h1
  cases h2:need s ⟨#[61]⟩ st1 with
  | error p=>rw[h2] at h;cases h
  | ok st2 =>
   rw[h2] at h;simp only at h
   have g2:=need_good g1.tk h2
   cases h3:exprOf s st2 with
   | error p=>rw[h3] at h;cases h
   | ok r =>
    obtain ⟨e,st3⟩:=r
    rw[h3] at h;simp only at h
    have g3:=exprOf_goes s _ _ _ g2.tk h3
    have s3:=exprOf_spans s _ _ _ g2.tk h3
    cases h4:need s ⟨#[59]⟩ st3 with
    | error p=>rw[h4] at h;cases h
    | ok st4 =>
     have g4:=need_good g3.tk h4
     rw[h4] at h;cases h
     have l1:=g1.lt;have l2:=g2.lt;have l3:=g3.lt;have l4:=g4.lt
     exact ⟨by omega,Or.inl ⟨rfl,e,rfl,s3.mono (by omega) (by omega),by show st.t.a < _;omega⟩⟩
theorem call_spans (s:ByteArray):SpansS s (call s):=by
 intro st x st' ht h
 unfold call at h
 cases h1:kind s 119 st with
 | error p=>rw[h1] at h;cases h
 | ok st1 =>
  rw[h1] at h;simp only at h
  have g1:=kind_good ht (by decide) (by decide) h1
  cases h2:need s ⟨#[40]⟩ st1 with
  | error p=>rw[h2] at h;cases h
  | ok st2 =>
   rw[h2] at h;simp only at h
   have g2:=need_good g1.tk h2
   generalize hz:({ zeroS with op:=99,word:=txt s st.t,pl:=st.t.a,n:=1 }:Sm)=x2 at h
   have z0:x2.op=99∧x2.n=1∧x2.asw.size=0∧x2.ex=none:=by rw[← hz];exact ⟨rfl,rfl,rfl,rfl⟩
   cases h3:callArg s x2 st2 with
   | error p=>rw[h3] at h;cases h
   | ok r =>
    obtain ⟨x3,st3⟩:=r
    rw[h3] at h;simp only at h
    have g3:=callArg_goes g2.tk h3
    have z3:x3.op=99∧x3.n=1∧x3.asw.size=0∧(∀ e,x3.ex=some e→Sp e st2.t.a st3.t.a∧e.pl < st3.t.a):=by
     unfold callArg at h3
     split at h3
     ·cases h3;exact ⟨z0.1,z0.2.1,z0.2.2.1,fun e he=>by rw[z0.2.2.2] at he;cases he⟩
     ·cases hp:exprOf s st2 with
      | error p=>rw[hp] at h3;cases h3
      | ok r =>
       obtain ⟨e,st3'⟩:=r
       rw[hp] at h3
       cases h3
       refine ⟨z0.1,z0.2.1,z0.2.2.1,fun e' he=>?_⟩
       cases he
       exact ⟨exprOf_spans s _ _ _ g2.tk hp,by rw[Lg.exprOf_plc s _ _ _ hp];exact (exprOf_goes s _ _ _ g2.tk hp).lt⟩
    cases h4:need s ⟨#[41]⟩ st3 with
    | error p=>rw[h4] at h;cases h
    | ok st4 =>
     rw[h4] at h;simp only at h
     have g4:=need_good g3.tk h4
     cases h5:callAs s x3 st4 with
     | error p=>rw[h5] at h;cases h
     | ok r5 =>
      obtain ⟨x5,st5⟩:=r5
      rw[h5] at h;simp only at h
      have g5:=callAs_goes g4.tk h5
      have z5:x5.op=99∧x5.n=1∧x5.ex=x3.ex∧(x5.asw.size=0∨x5.asPl < st5.t.a):=by
       unfold callAs at h5
       split at h5
       ·rename_i ho
        have g0:=good_on g4.tk ho
        cases hp:kind s 119 (nx s st4) with
        | error p=>rw[hp] at h5;cases h5
        | ok st' =>
         rw[hp] at h5
         have g6:=kind_good g0.tk (by decide) (by decide) hp
         cases h5
         exact ⟨z3.1,z3.2.1,rfl,Or.inr g6.lt⟩
       ·cases h5;exact ⟨z3.1,z3.2.1,rfl,Or.inl z3.2.2.1⟩
      cases h6:callUndo s x5 st5 with
      | error p=>rw[h6] at h;cases h
      | ok r6 =>
       obtain ⟨x6,st6⟩:=r6
       rw[h6] at h;simp only at h
       have g6:=callUndo_goes g5.tk h6
       have z6:x6.op=99∧x6.n=1∧x6.ex=x5.ex∧x6.asw=x5.asw∧x6.asPl=x5.asPl:=by
        unfold callUndo at h6
        split at h6
        ·cases hp:kind s 119 (nx s st5) with
         | error p=>rw[hp] at h6;cases h6
         | ok st' =>
          rw[hp] at h6
          cases h6
          exact ⟨z5.1,z5.2.1,rfl,rfl,rfl⟩
        ·cases h6;exact ⟨z5.1,z5.2.1,rfl,rfl,rfl⟩
       cases h7:callTries s x6 st6 with
       | error p=>rw[h7] at h;cases h
       | ok r7 =>
        obtain ⟨x7,st7⟩:=r7
        rw[h7] at h;simp only at h
        have g7:=callTries_goes g6.tk h7
        have z7:x7.op=99∧x7.ex=x6.ex∧x7.asw=x6.asw∧x7.asPl=x6.asPl∧((1≤x7.n∧x7.n≤5)∨(st6.t.a≤x7.nPl∧x7.nPl < st7.t.a)):=by
         unfold callTries at h7
         split at h7
         ·rename_i ho
          have g0:=good_on g6.tk ho
          cases hp:kind s 110 (nx s st6) with
          | error p=>rw[hp] at h7;cases h7
          | ok st' =>
           rw[hp] at h7
           have g8:=kind_good g0.tk (by decide) (by decide) hp
           cases h7
           exact ⟨z6.1,rfl,rfl,rfl,Or.inr ⟨Nat.le_of_lt g0.lt,g8.lt⟩⟩
         ·cases h7;exact ⟨z6.1,rfl,rfl,rfl,Or.inl ⟨by rw[z6.2.1];decide,by rw[z6.2.1];decide⟩⟩
        cases h8:need s ⟨#[59]⟩ st7 with
        | error p=>rw[h8] at h;cases h
        | ok st8 =>
         have g8:=need_good g7.tk h8
         rw[h8] at h;cases h
         have l1:=g1.lt;have l2:=g2.lt;have l3:=g3.le;have l4:=g4.lt;have l5:=g5.le;have l6:=g6.le;have l7:=g7.le;have l8:=g8.lt
         refine ⟨by omega,Or.inr (Or.inl ⟨z7.1,st3.t.a,st6.t.a,by omega,by omega,by omega,?_,?_,?_⟩)⟩
         ·intro e he
          rw[z7.2.1,z6.2.2.1,z5.2.2.1] at he
          obtain ⟨e1,e2⟩:=z3.2.2.2 e he
          exact ⟨e1.mono (by omega) (Nat.le_refl _),e2⟩
         ·rw[z7.2.2.1,z7.2.2.2.1,z6.2.2.2.1,z6.2.2.2.2]
          rcases z5.2.2.2 with h | h
          ·exact Or.inl h
          ·exact Or.inr (by omega)
         ·rcases z7.2.2.2.2 with h | h
          ·exact Or.inl h
          ·exact Or.inr ⟨h.1,by omega⟩
theorem ifS_spans {s:ByteArray} {g:Ps→Except Nat (Sm×Ps)} (hg:Goes s g) (hs:SpansS s g):SpansS s (ifS s g):=by
 intro st x st' ht h
 unfold ifS at h
 cases h1:exprOf s st with
 | error p=>rw[h1] at h;cases h
 | ok r =>
  obtain ⟨e,st1⟩:=r
  rw[h1] at h;simp only at h
  have g1:=exprOf_goes s _ _ _ ht h1
  have w1:=exprOf_spans s _ _ _ ht h1
  have p1:e.pl < st1.t.a:=by rw[Lg.exprOf_plc s _ _ _ h1];exact g1.lt
  have l1:=g1.lt
  cases h2:block s g st1 with
  | error p=>rw[h2] at h;cases h
  | ok r =>
   obtain ⟨l,st2⟩:=r
   rw[h2] at h;simp only at h
   have g2:=block_goes hg _ _ _ g1.tk h2
   have l2:=g2.lt
   obtain ⟨a,b,m1,m2,m3⟩:=block_spans hg hs g1.tk h2
   split at h
   ·rename_i ho
    have g3:=good_on g2.tk ho
    have l3:=g3.lt
    cases h4:block s g (nx s st2) with
    | error p=>rw[h4] at h;cases h
    | ok r =>
     obtain ⟨m,st3⟩:=r
     have g4:=block_goes hg _ _ _ g3.tk h4
     have l4:=g4.lt
     obtain ⟨c,d,m4,m5,m6⟩:=block_spans hg hs g3.tk h4
     rw[h4] at h;cases h
     exact ⟨by omega,Or.inr (Or.inr (Or.inl ⟨rfl,e,a,b,c,d,st1.t.a,rfl,w1,p1,by omega,m2,by omega,m5,m6⟩))⟩
   ·cases h
    exact ⟨by omega,Or.inr (Or.inr (Or.inl ⟨rfl,e,a,b,b,b,st1.t.a,rfl,w1,p1,by omega,m2,Nat.le_refl _,Ss_nil.2 (Nat.le_refl _),m3⟩))⟩
theorem tryS_spans {s:ByteArray} {g:Ps→Except Nat (Sm×Ps)} (hg:Goes s g) (hs:SpansS s g):SpansS s (tryS s g):=by
 intro st x st' ht h
 unfold tryS at h
 cases h1:block s g st with
 | error p=>rw[h1] at h;cases h
 | ok r =>
  obtain ⟨l,st1⟩:=r
  rw[h1] at h;simp only at h
  have g1:=block_goes hg _ _ _ ht h1
  have l1:=g1.lt
  obtain ⟨a,b,m1,m2,m3⟩:=block_spans hg hs ht h1
  cases h2:need s ⟨#[101,108,115,101]⟩ st1 with
  | error p=>rw[h2] at h;cases h
  | ok st2 =>
   rw[h2] at h;simp only at h
   have g2:=need_good g1.tk h2
   have l2:=g2.lt
   cases h3:block s g st2 with
   | error p=>rw[h3] at h;cases h
   | ok r =>
    obtain ⟨m,st3⟩:=r
    have g3:=block_goes hg _ _ _ g2.tk h3
    have l3:=g3.lt
    obtain ⟨c,d,m4,m5,m6⟩:=block_spans hg hs g2.tk h3
    rw[h3] at h;cases h
    exact ⟨by omega,Or.inr (Or.inr (Or.inr (Or.inl ⟨rfl,a,b,c,d,by omega,m2,by omega,m5,m6⟩)))⟩
theorem repeatS_spans {s:ByteArray} {g:Ps→Except Nat (Sm×Ps)} (hg:Goes s g) (hs:SpansS s g):SpansS s (repeatS s g):=by
 intro st x st' ht h
 unfold repeatS at h
 cases h1:kind s 110 st with
 | error p=>rw[h1] at h;cases h
 | ok st1 =>
  rw[h1] at h;simp only at h
  have g1:=kind_good ht (by decide) (by decide) h1
  have l1:=g1.lt
  cases h2:block s g st1 with
  | error p=>rw[h2] at h;cases h
  | ok r =>
   obtain ⟨m,st3⟩:=r
   have g2:=block_goes hg _ _ _ g1.tk h2
   have l2:=g2.lt
   obtain ⟨a,b,m1,m2,m3⟩:=block_spans hg hs g1.tk h2
   rw[h2] at h;cases h
   exact ⟨by omega,Or.inr (Or.inr (Or.inr (Or.inr (Or.inl ⟨rfl,a,b,Nat.le_refl _,by show st.t.a < a;omega,m2,m3⟩))))⟩
theorem S1.down {x:Sm} {lo lo' md:Nat} (h:S1 x lo md) (hl:lo'≤lo):S1 x lo' md:=by
 obtain ⟨h0,h⟩:=h
 refine ⟨by omega,?_⟩
 rcases h with ⟨o,e,h1,h2,h3⟩ | ⟨o,m1,m2,h1,h2,h3,h4,h5,h6⟩ | ⟨o,e,a,b,c,d,m1,h1,h2,h3,h4,h5,h6,h7,h8⟩ | ⟨o,a,b,c,d,h1,h2,h3,h4,h5⟩ | ⟨o,a,b,h1,h2,h3,h4⟩ | o
 ·exact Or.inl ⟨o,e,h1,h2.mono hl (Nat.le_refl _),h3⟩
 ·exact Or.inr (Or.inl ⟨o,m1,m2,by omega,h2,h3,fun e he=>⟨(h4 e he).1.mono hl (Nat.le_refl _),(h4 e he).2⟩,h5,h6⟩)
 ·exact Or.inr (Or.inr (Or.inl ⟨o,e,a,b,c,d,m1,h1,h2.mono hl (Nat.le_refl _),h3,h4,h5,h6,h7,h8⟩))
 ·exact Or.inr (Or.inr (Or.inr (Or.inl ⟨o,a,b,c,d,by omega,h2,h3,h4,h5⟩)))
 ·exact Or.inr (Or.inr (Or.inr (Or.inr (Or.inl ⟨o,a,b,by omega,h2,h3,h4⟩))))
 ·exact Or.inr (Or.inr (Or.inr (Or.inr (Or.inr o))))
theorem stmt_spans (s:ByteArray) (n:Nat):SpansS s (stmt s n):=by
 induction n with
 | zero=>intro st x st' _ h;simp[stmt] at h
 | succ n ih =>
  intro st x st' ht h
  have hgo:=stmt_goes s (n+1) _ _ _ ht h
  have hlt:=hgo.lt
  rw[stmt] at h
  split at h
  ·rename_i ho
   have g1:=good_on ht ho
   exact (letS_spans s _ _ _ g1.tk h).down (Nat.le_of_lt g1.lt)
  ·split at h
   ·rename_i ho
    have g1:=good_on ht ho
    exact (call_spans s _ _ _ g1.tk h).down (Nat.le_of_lt g1.lt)
   ·split at h
    ·rename_i ho
     have g1:=good_on ht ho
     exact (ifS_spans (stmt_goes s n) ih _ _ _ g1.tk h).down (Nat.le_of_lt g1.lt)
    ·split at h
     ·rename_i ho
      have g1:=good_on ht ho
      exact (tryS_spans (stmt_goes s n) ih _ _ _ g1.tk h).down (Nat.le_of_lt g1.lt)
     ·split at h
      ·rename_i ho
       have g1:=good_on ht ho
       exact (repeatS_spans (stmt_goes s n) ih _ _ _ g1.tk h).down (Nat.le_of_lt g1.lt)
      ·have ho:x.op=102:=by
        unfold failS at h
        cases h1:need s ⟨#[102,97,105,108]⟩ st with
        | error p=>rw[h1] at h;cases h
        | ok st1 =>
         rw[h1] at h;simp only at h
         cases h2:need s ⟨#[59]⟩ st1 with
         | error p=>rw[h2] at h;cases h
         | ok st2=>rw[h2] at h;cases h;rfl
       exact ⟨Nat.le_of_lt hlt,Or.inr (Or.inr (Or.inr (Or.inr (Or.inr ho))))⟩
theorem read_spans {s:ByteArray} {l:List Sm} (h:read s=.ok l):∃ lo hi,Ss l lo hi:=by
 unfold read at h
 split at h
 ·cases h
 ·cases hp:stmts s (stmt s (s.size+1)) (fun st=>st.t.k == 0) (s.size+1) [] ⟨tok s 0,0,-1⟩ with
  | error p=>rw[hp] at h;cases h
  | ok r =>
   obtain ⟨l',st⟩:=r
   rw[hp] at h
   simp only at h
   split at h
   ·cases h
   ·cases h
    have ht:=(tok_tk s 0 (Nat.zero_le _)).1
    obtain ⟨r,hr,h2⟩:=stmts_spans (stmt_goes s _) (stmt_spans s _) _ _ _ _ _ _ ht hp
    rw[List.nil_append] at hr
    subst hr
    exact ⟨_,_,h2⟩
theorem V3.give {c:Lk} (h:V3 c) {w:ByteArray} {p k:Nat} (hk:K3 k):V3 (giveV w p k c):=by
 unfold giveV
 split
 ·intro v hv
  rcases List.mem_append.1 hv with h1 | h1
  ·exact h v h1
  ·rw[List.mem_singleton] at h1;rw[h1];exact hk
 ·split
  ·exact h.say _ _
  ·exact h
theorem giveP_eq {c:Lk} {n m:Nat} (w:ByteArray) (p k:Nat) (h:Inv c n) (hp:p < m) (hm:n≤m):giveP w p k c=giveV w p k c∧Inv (giveV w p k c) m:=by
 unfold giveP giveV
 cases hf:findV c.vars w with
 | none =>
  refine ⟨rfl,?_⟩
  have:=h.mono hm
  exact ⟨this.e,this.p⟩
 | some i =>
  simp only
  rw[fits_unlike]
  cases hu:unlike (kindAt c.vars i) k
  ·exact ⟨rfl,h.mono hm⟩
  ·exact ⟨note_say6 _ h,h.say (by omega) hp hm⟩
theorem rootP_eq {c:Lk} {x:Ex} {lo m k:Nat} (hw:WfE x) (hs:Sp x lo m) (hp:x.pl < m) (h:Inv c lo) (hv:V3 c) (hk:k≠63):rootP x k c=mustE (some x) k c∧Inv (mustE (some x) k c) m∧V3 (mustE (some x) k c):=by
 obtain ⟨e1,e2,e3,e4⟩:=kindP_eq x c lo m hw hs h hv
 unfold rootP mustE
 simp only
 rw[e1,fits_isK _ _ hk]
 split
 ·exact ⟨rfl,e2,e3⟩
 ·exact ⟨note_say6 _ e2,e2.say (by omega) hp (Nat.le_refl _),e3.say _ _⟩
theorem asP_eq {c:Lk} {n m:Nat} (w:ByteArray) (p:Nat) (h:Inv c n) (hp:w.size=0∨p < m) (hm:n≤m) (hv:V3 c):asP w p c=(if w.toList.isEmpty then c else giveV w p 105 c)∧Inv (asP w p c) m∧V3 (asP w p c):=by
 unfold asP
 have hz:w.toList.isEmpty=true↔w.size=0:=by
  rw[ByteArray.toList_eq,List.isEmpty_iff,← List.length_eq_zero_iff]
  exact Iff.rfl
 by_cases h0:w.size=0
 ·rw[if_pos h0,if_pos (hz.2 h0)]
  exact ⟨rfl,h.mono hm,hv⟩
 ·rw[if_neg h0,if_neg (fun h'=>h0 (hz.1 h'))]
  obtain ⟨g1,g2⟩:=giveP_eq w p 105 h (by omega) hm
  rw[g1]
  exact ⟨rfl,g2,hv.give (Or.inl rfl)⟩
def lookX' (x:Sm) (c:Lk):Lk :=
 if x.op=108 then
  match x.ex with
  | none=>c
  | some e=>giveP x.word x.pl (kindP e c).1 (kindP e c).2
 else if x.op=99 then countP x.n x.nPl 1 5 (asP x.asw x.asPl (argP x.ex c))
 else if x.op=105 then
  match x.ex with
  | none=>c
  | some e=>lookP x.two (lookP x.one (rootP e 98 c))
 else if x.op=116 then lookP x.two (lookP x.one c)
 else if x.op=114 then lookP x.one (countP x.n x.nPl 0 9 c)
 else c
theorem lookP_nil (c:Lk):lookP [] c=c:=by rw[lookP]
theorem lookP_cons (x:Sm) (l:List Sm) (c:Lk):lookP (x::l) c=lookP l (lookX' x c):=by
 obtain ⟨op,word,pl,ex,asw,asPl,undo,n,nPl,one,two⟩:=x
 rw[lookP.eq_def]
 rfl
theorem lookP_eq (l:List Sm):∀ (c:Lk) (lo hi:Nat),WfS l→Ss l lo hi→Inv c lo→V3 c→lookP l c=lookS l c∧Inv (lookS l c) hi∧V3 (lookS l c):=by
 match l with
 | [] =>
  intro c lo hi _ hs h hv
  rw[lookP_nil,lookS_nil]
  exact ⟨rfl,h.mono (Ss_nil.1 hs),hv⟩
 | ⟨op,word,pl,ex,asw,asPl,undo,n,nPl,one,two⟩::rest =>
  intro c lo hi hw hs h hv
  obtain ⟨w0,w1,w2,w3⟩:=WfS_cons.1 hw
  obtain ⟨md,s1,h0,s2⟩:=Ss_cons.1 hs
  rw[lookP_cons,lookS_cons]
  have H:lookX' ⟨op,word,pl,ex,asw,asPl,undo,n,nPl,one,two⟩ c=lookX ⟨op,word,pl,ex,asw,asPl,undo,n,nPl,one,two⟩ c∧Inv (lookX ⟨op,word,pl,ex,asw,asPl,undo,n,nPl,one,two⟩ c) md∧V3 (lookX ⟨op,word,pl,ex,asw,asPl,undo,n,nPl,one,two⟩ c):=by
   unfold lookX lookX'
   simp only at w0 w1 w2 s2 ⊢
   rcases s2 with ⟨o,e,h1,h2,h3⟩ | ⟨o,m1,m2,h1,h2,h3,h4,h5,h6⟩ | ⟨o,e,a,b,c',d,m1,h1,h2,h3,h4,h5,h6,h7,h8⟩ | ⟨o,a,b,c',d,h1,h2,h3,h4,h5⟩ | ⟨o,a,b,h1,h2,h3,h4⟩ | o
   ·subst o h1
    have hwe:=w0.1 e rfl
    obtain ⟨e1,e2,e3,e4⟩:=kindP_eq e c lo md hwe h2 h hv
    simp only[if_true]
    rw[e1]
    obtain ⟨g1,g2⟩:=giveP_eq word pl (kindE e c).1 e2 h3 (Nat.le_refl _)
    exact ⟨g1,g2,e3.give e4⟩
   ·subst o
    simp only[if_true,if_neg (by decide:¬(99:Nat)=108)]
    have ha:argP ex c=mustE ex 105 c∧Inv (mustE ex 105 c) m1∧V3 (mustE ex 105 c):=by
     cases ex with
     | none=>exact ⟨rfl,h.mono h1,hv⟩
     | some e=>exact rootP_eq (w0.1 e rfl) (h4 e rfl).1 (h4 e rfl).2 h hv (by decide)
    obtain ⟨a1,a2,a3⟩:=ha
    rw[a1]
    obtain ⟨b1,b2,b3⟩:=asP_eq asw asPl a2 h5 h2 a3
    rw[← b1]
    generalize asP asw asPl (mustE ex 105 c)=c2 at b1 b2 b3
    unfold countP
    by_cases hn:n < 1∨5 < n
    ·rw[if_pos hn,if_pos hn]
     have h7:m2≤nPl∧nPl < md:=by omega
     exact ⟨note_say b2 h7.1,b2.say (by omega) h7.2 h3,b3.say _ _⟩
    ·rw[if_neg hn,if_neg hn]
     exact ⟨rfl,b2.mono h3,b3⟩
   ·subst o h1
    simp only[if_true,if_neg (by decide:¬(105:Nat)=108),if_neg (by decide:¬(105:Nat)=99)]
    obtain ⟨a1,a2,a3⟩:=rootP_eq (k:=98) (w0.1 e rfl) h2 h3 h hv (by decide)
    rw[a1]
    obtain ⟨b1,b2,b3⟩:=lookP_eq one _ a b w1 h5 (a2.mono h4) a3
    rw[b1]
    obtain ⟨d1,d2,d3⟩:=lookP_eq two _ c' d w2 h7 (b2.mono h6) b3
    exact ⟨d1,d2.mono h8,d3⟩
   ·subst o
    simp only[if_true,if_neg (by decide:¬(116:Nat)=108),if_neg (by decide:¬(116:Nat)=99),if_neg (by decide:¬(116:Nat)=105)]
    obtain ⟨b1,b2,b3⟩:=lookP_eq one _ a b w1 h2 (h.mono h1) hv
    rw[b1]
    obtain ⟨d1,d2,d3⟩:=lookP_eq two _ c' d w2 h4 (b2.mono h3) b3
    exact ⟨d1,d2.mono h5,d3⟩
   ·subst o
    simp only[if_true,if_neg (by decide:¬(114:Nat)=108),if_neg (by decide:¬(114:Nat)=99),if_neg (by decide:¬(114:Nat)=105),if_neg (by decide:¬(114:Nat)=116)]
    have ha:countP n nPl 0 9 c=(if 9 < n then say 4 nPl c else c)∧Inv (if 9 < n then say 4 nPl c else c) a∧V3 (if 9 < n then say 4 nPl c else c):=by
     unfold countP
     by_cases hn:9 < n
     ·rw[if_pos (Or.inr hn),if_pos hn]
      exact ⟨note_say h h1,h.say (by omega) h2 (by omega),hv.say _ _⟩
     ·rw[if_neg (by omega),if_neg hn]
      exact ⟨rfl,h.mono (by omega),hv⟩
    obtain ⟨a1,a2,a3⟩:=ha
    rw[a1]
    obtain ⟨b1,b2,b3⟩:=lookP_eq one _ a b w1 h3 a2 a3
    exact ⟨b1,b2.mono h4,b3⟩
   ·subst o
    simp only[if_neg (by decide:¬(102:Nat)=108),if_neg (by decide:¬(102:Nat)=99),if_neg (by decide:¬(102:Nat)=105),if_neg (by decide:¬(102:Nat)=116),if_neg (by decide:¬(102:Nat)=114)]
    exact ⟨trivial,h.mono h0,hv⟩
  obtain ⟨H1,H2,H3⟩:=H
  rw[H1]
  exact lookP_eq rest _ md hi w3 s1 H2 H3
theorem read_look {s:ByteArray} {l:List Sm} (h:read s=.ok l):lookP l ⟨[],0,0⟩=lookS l ⟨[],0,0⟩:=by
 obtain ⟨lo,hi,hs⟩:=read_spans h
 exact (lookP_eq l _ lo hi (read_makes h).1 hs ⟨by decide,Or.inl rfl⟩ (fun v hv=>by cases hv)).1
end Px
open Go.RowKit
namespace Lg
def FltAt (w:World) (f p:Nat) (e:Addr):Prop:=w.heap[f]?=some (.cells #[.int .i64 (p:Int),.iface 357 (.pointer (some e))] 92)
def kk (k:Nat):Nat:=if k=105 then 1 else if k=98 then 2 else 0
def pairs (l:List (ByteArray×Nat)):List (Value×Value):=l.map fun v=>(.string v.1,.int .i64 (kk v.2:Int))
def KMap (w:World) (m:Nat) (l:List (ByteArray×Nat)):Prop:=∃ es clock,w.heap[m]?=some (.map es clock)∧es.toList.map (fun e=>(e.key,e.val))=pairs l
theorem same_bytes (a b:ByteArray):(a == b)=(b.toList == a.toList):=by
 rw[ByteArray.toList_eq,ByteArray.toList_eq]
 by_cases h:a=b
 ·rw[h];simp[MapKept.bytes_beq]
 ·have h1:¬ b.data.toList=a.data.toList:=fun e=>h (WideShapes.bytes_inj e).symm
  have h2:(a == b)=false:=by
   cases hb:(a == b)
   ·rfl
   ·exact absurd ((MapKept.bytes_beq _ _).1 hb) h
  rw[h2]
  simpa using h1
theorem findNow_eq (x:ByteArray) (l:List (ByteArray×Nat)):∀ (es:List MapEntry) (i:Nat),es.map (fun e=>(e.key,e.val))=pairs l →
  Instr.findNow .string (.string x) es i=some (match Px.findV l x with
   | none=>none
   | some j=>some (i+j,.int .i64 (kk (Px.kindAt l j):Int))):=by
 induction l with
 | nil =>
  intro es i h
  cases es with
  | nil=>rfl
  | cons e es=>cases h
 | cons v l ih =>
  intro es i h
  cases es with
  | nil=>cases h
  | cons e es =>
   obtain ⟨v,k⟩:=v
   simp only[pairs,List.map_cons,List.cons.injEq,Prod.mk.injEq] at h
   obtain ⟨⟨h1,h2⟩,h3⟩:=h
   rw[Instr.findNow,h1,h2]
   simp only[Instr.sameNow]
   rw[same_bytes,Px.findV]
   cases hb:(v.toList == x.toList)
   ·simp only[Bool.false_eq_true,if_false]
    rw[ih es (i+1) h3]
    cases Px.findV l x with
    | none=>rfl
    | some j=>simp[Px.kindAt];omega
   ·simp[Px.kindAt]
def foundV (l:List (ByteArray×Nat)) (x:ByteArray):Nat :=
 match Px.findV l x with
 | none=>0
 | some j=>kk (Px.kindAt l j)
theorem run_lookup {P:Program} {w:World} {m:Nat} {l:List (ByteArray×Nat)} {T kt et:TypeId} (h:KMap w m l) (hT:P.underlying T=some (.map kt et)) (hk:P.underlying kt=some .string) (hz:(zeroValue et).run P w=.ok (.int .i64 0) w) (x:ByteArray) :
  (Instr.lookup T (.map (some m)) (.string x) true).run P w=.ok (.tuple #[.int .i64 (foundV l x:Int),.bool (Px.findV l x).isSome]) w:=by
 obtain ⟨es,clock,hb,hp⟩:=h
 have h1:=MapKept.run_findKey (w:=w) hk (findNow_eq x l es.toList 0 hp)
 have h2:=fun e=>MapKept.run_checkKey (P:=P) (w:=w) (kt:=kt) (k:=.string x) hk (by simp[MapKept.IsKey]) e 9999
 unfold foundV
 cases hf:Px.findV l x with
 | none =>
  rw[hf] at h1
  simp[Instr.lookup,run_underlying hT,MapKept.run_getObj_map hb,h2,h1,hz,Result.andThen]
 | some j =>
  rw[hf] at h1
  simp[Instr.lookup,run_underlying hT,MapKept.run_getObj_map hb,h2,h1,Result.andThen]
theorem run_update {P:Program} {w:World} {m:Nat} {l:List (ByteArray×Nat)} {T kt et:TypeId} (h:KMap w m l) (hT:P.underlying T=some (.map kt et)) (hk:P.underlying kt=some .string) (x:ByteArray) (hf:Px.findV l x=none) (k:Nat) :
  ∃ o,(Instr.mapUpdate T (.map (some m)) (.string x) (.int .i64 (kk k:Int))).run P w=.ok () { w with heap:=w.heap.setIfInBounds m o }∧KMap { w with heap:=w.heap.setIfInBounds m o } m (l++[(x,k)]):=by
 obtain ⟨es,clock,hb,hp⟩:=h
 have h1:=MapKept.run_findKey (w:=w) hk (findNow_eq x l es.toList 0 hp)
 have h2:=fun e=>MapKept.run_checkKey (P:=P) (w:=w) (kt:=kt) (k:=.string x) hk (by simp[MapKept.IsKey]) e 9999
 rw[hf] at h1
 refine ⟨.map (es.push ⟨.string x,.int .i64 (kk k:Int),clock⟩) (clock+1),?_,_,_,(MapKept.heap_set hb).1,?_⟩
 ·simp[Instr.mapUpdate,run_underlying hT,MapKept.run_getObj_map hb,h2,h1,MapKept.run_setObj_map _ hb,Result.andThen]
 ·simp[pairs] at hp ⊢
  rw[hp]
open Go.RowKit
def ParsePost (s:ByteArray) (eT eN:Addr) (w:World) (e:Ending) (w':World):Prop :=
 Below w.heap.size w w'∧∃ v er,e=.returned (.tuple #[v,er]) ∧
  match Px.read s with
  | .ok l=>er=.nilIface∧∃ vs,SlL w' v vs (Ref.In w w')∧LsAt w' l (Ref.In w w') vs
  | .error (c,p)=>v=.slice none 0 0∧∃ f,er=.iface 87 (Ref.ptr f)∧FltAt w' f p (if c=2 then eT else eN)
theorem Rd.setU {w:World} {b k o:Nat} {s:ByteArray} {st:Px.Ps} {eT eN:Addr} {c:Array Value} {t:TypeId} (r:Rd w b s st eT eN) (h:w.heap[k]?=some (.cells c t)) (ht:t≠92) (hk:20≤k) (hbk:b≠k) (v:Value):Rd (w.setCell ⟨k,o,none⟩ v) b s st eT eN:=by
 obtain ⟨td,a,d⟩:=r.mem
 refine ⟨r.tk,r.k63,r.gl.setN hk,td,⟨by rw[Below.heap_setCell _ _ _ _ hbk];exact a.h⟩,?_⟩
 rcases d with d | ⟨d1,f,d2,d3,d4⟩
 ·exact Or.inl d
 ·refine Or.inr ⟨d1,f,d2,d3,?_⟩
  rw[Below.heap_setCell _ _ _ _ (by show f≠k;rintro rfl;rw[h] at d4;simp at d4;exact ht d4.2)]
  exact d4
theorem kd_zero {k:Nat} (hk:k=0∨k=63∨k=107∨k=110∨k=119) (h63:k≠63):((kd k:Int) != 0)=!(k == 0):=by
 rcases hk with rfl | rfl | rfl | rfl | rfl
 ·rfl
 ·exact absurd rfl h63
 ·rfl
 ·rfl
 ·rfl
def listR (s:ByteArray):Except Nat (List Px.Sm×Px.Ps):=Px.stmts s (Px.stmt s (s.size+1)) (fun st=>st.t.k == 0) (s.size+1) [] ⟨Px.tok s 0,0,-1⟩
theorem read_eq {s:ByteArray} (hs3:s.size≤300):Px.read s=match listR s with
  | .error p=>.error (2,p)
  | .ok (l,st)=>if 0≤st.deep then .error (3,st.deep.toNat) else .ok l:=by
 rw[Px.read,if_neg (by omega)];unfold listR
 cases Px.stmts s (Px.stmt s (s.size+1)) (fun st=>st.t.k == 0) (s.size+1) [] ⟨Px.tok s 0,0,-1⟩<;>rfl
theorem list_fin {s:ByteArray} {p:Nat} (h:fin (listR s)=.error p):listR s=.error p:=by
 rcases fin_cases h with h | ⟨l,st,h1,h2,_⟩
 ·exact h
 ·have h3:=(Px.stmts_goes (Px.stmt_goes s _) _ _ _ _ _ _ (show Px.Tk s (⟨Px.tok s 0,0,-1⟩:Px.Ps).t from (Px.tok_tk s 0 (Nat.zero_le _)).1) h1).2
  simp[h2] at h3
def parseW (s:ByteArray) (w:World):World :=
 ((((w.alloc (.cells #[.slice none 0 0] 54)).alloc (.cells #[.nilIface] 56)).alloc (.cells #[.string s,.int .i64 0,.string ⟨#[]⟩,.int .i64 0,.int .i64 0,.pointer none] 149)).alloc (.cells #[.pointer (some ⟨w.heap.size+1+1,0,none⟩)] 144))
theorem parseW_at (s:ByteArray) (w:World):(parseW s w).heap.size=w.heap.size+4∧(parseW s w).heap[w.heap.size]?=some (.cells #[.slice none 0 0] 54)∧(parseW s w).heap[w.heap.size+1]?=some (.cells #[.nilIface] 56) ∧
  (parseW s w).heap[w.heap.size+2]?=some (.cells #[.string s,.int .i64 0,.string ⟨#[]⟩,.int .i64 0,.int .i64 0,.pointer none] 149)∧(parseW s w).heap[w.heap.size+3]?=some (.cells #[.pointer (some ⟨w.heap.size+1+1,0,none⟩)] 144)∧Below w.heap.size w (parseW s w):=by
 have h:(parseW s w).heap=(((w.heap.push (.cells #[.slice none 0 0] 54)).push (.cells #[.nilIface] 56)).push (.cells #[.string s,.int .i64 0,.string ⟨#[]⟩,.int .i64 0,.int .i64 0,.pointer none] 149)).push (.cells #[.pointer (some ⟨w.heap.size+1+1,0,none⟩)] 144):=rfl
 refine ⟨by rw[h];simp,?_,?_,?_,?_,((((Below.refl _ _).alloc (Nat.le_refl _) _).alloc (by simp) _).alloc (by simp;omega) _).alloc (by simp;omega) _⟩
 ·rw[h,Array.getElem?_push,if_neg (by simp<;>omega),Array.getElem?_push,if_neg (by simp<;>omega),Array.getElem?_push,if_neg (by simp<;>omega),Array.getElem?_push,if_pos rfl]
 ·rw[h,Array.getElem?_push,if_neg (by simp<;>omega),Array.getElem?_push,if_neg (by simp<;>omega),Array.getElem?_push,if_pos (by simp)]
 ·rw[h,Array.getElem?_push,if_neg (by simp<;>omega),Array.getElem?_push,if_pos (by simp)]
 ·rw[h,Array.getElem?_push,if_pos (by simp)]
theorem two_set {w:World} {n:Nat} {x y:Value} {t u:TypeId} (h1:w.heap[n]?=some (.cells #[x] t)) (h2:w.heap[n+1]?=some (.cells #[y] u)) (a b:Value) :
  ((w.setCell ⟨n,0,none⟩ a).setCell ⟨n+1,0,none⟩ b).cell? ⟨n,0,none⟩=some a∧((w.setCell ⟨n,0,none⟩ a).setCell ⟨n+1,0,none⟩ b).cell? ⟨n+1,0,none⟩=some b:=by
 have e1:=Ref.heap_set (o:=0) a h1
 have e1':((w.setCell ⟨n,0,none⟩ a).setCell ⟨n+1,0,none⟩ b).heap[n]?=_:=(Ref.heap_set_ne _ (by omega)).trans e1
 have e2:(w.setCell ⟨n,0,none⟩ a).heap[n+1]?=_:=(Ref.heap_set_ne _ (by omega)).trans h2
 have e3:=Ref.heap_set (o:=0) b e2
 exact ⟨by simp[World.cell?,e1'],by simp[World.cell?,e3]⟩
theorem thrown_post {s:ByteArray} {eT eN:Addr} {w w1:World} {f p:Nat} (hb:Below w.heap.size w w1) (hf:w.heap.size+2≤f) (hF:FltAt w1 f p eT) (hR:Px.read s=.error (2,p)) :
  ParsePost s eT eN w (.returned (.tuple #[.slice none 0 0,.iface 87 (.pointer (some ⟨f,0,none⟩))])) ((w1.setCell ⟨w.heap.size,0,none⟩ (.slice none 0 0)).setCell ⟨w.heap.size+1,0,none⟩ (.iface 87 (.pointer (some ⟨f,0,none⟩)))):=by
 refine ⟨(hb.setCell (Nat.le_refl _) _).setCell (by show w.heap.size≤w.heap.size+1;omega) _,_,_,rfl,?_⟩
 rw[hR]
 refine ⟨rfl,f,rfl,?_⟩
 show FltAt _ f p (if 2=2 then eT else eN)
 rw[if_pos rfl]
 unfold FltAt
 rw[Ref.heap_set_ne _ (by omega),Ref.heap_set_ne _ (by omega)]
 exact hF
theorem ok_post {s:ByteArray} {eT eN:Addr} {w w1 w2 W:World} {l:List Px.Sm} {v:Value} {vs:List Value} (hR:Px.read s=.ok l) (h1:SlL w2 v vs (Ref.In w1 w2)) (h2:LsAt w2 l (Ref.In w1 w2) vs) (hz:w.heap.size+4≤w1.heap.size) (hB:Below w.heap.size w W)
  (hk:∀ i,w.heap.size+4≤i→W.heap[i]?=w2.heap[i]?) (hs:W.heap.size=w2.heap.size):ParsePost s eT eN w (.returned (.tuple #[v,.nilIface])) W:=by
 refine ⟨hB,_,_,rfl,?_⟩
 rw[hR]
 have hk':∀ i,Ref.In w1 w2 i→W.heap[i]?=w2.heap[i]?:=fun i hi=>hk i (by have:=hi.1;omega)
 have hm:∀ i,Ref.In w1 w2 i→Ref.In w W i:=fun i hi=>⟨by have:=hi.1;omega,by rw[hs];exact hi.2⟩
 exact ⟨rfl,vs,(h1.keep hk').mono hm,(h2.keep hk').mono hm⟩
theorem deep_post {s:ByteArray} {eT eN:Addr} {w W:World} {f:Nat} {d:Int} (hd:0≤d) (hR:Px.read s=.error (3,d.toNat)) (hB:Below w.heap.size w W) (hF:W.heap[f]?=some (.cells #[.int .i64 d,.iface 357 (.pointer (some eN))] 92)) :
  ParsePost s eT eN w (.returned (.tuple #[.slice none 0 0,.iface 87 (.pointer (some ⟨f,0,none⟩))])) W:=by
 refine ⟨hB,_,_,rfl,?_⟩
 rw[hR]
 refine ⟨rfl,f,rfl,?_⟩
 show FltAt _ f d.toNat (if 3=2 then eT else eN)
 rw[if_neg (by decide)]
 unfold FltAt
 rw[Int.toNat_of_nonneg hd]
 exact hF
set_option maxRecDepth 100000 in
set_option maxHeartbeats 4000000 in
theorem parse_any (s:ByteArray) (eT eN:Addr) (w:World) (hs3:s.size≤300) (hlo:20≤w.heap.size) (g:Gl w (w.heap.size+2) eT eN) :
  Calls Tryz.prog 37 #[.string s] w (ParsePost s eT eN w):=by
 have hmf:∀ (fn:Fn) (first cap:Array Value) (w:World),(Instr.makeFunc fn first cap).run Tryz.prog w=.ok (.func fn first cap) w:=fun _ _ _ _=>rfl
 have hs:s.size≤maxLen:=by unfold maxLen;omega
 have G:Hid (Gl w (w.heap.size+2) eT eN):=g
 clear g
 go_enter_defers Tryz.func37,Tryz.ntmps37
 go_wp2_with fail
 change Calls _ _ _ (parseW s w) _
 obtain ⟨z0,a0,a1,a2,a3,bW⟩:=parseW_at s w
 have GW:Gl (parseW s w) (w.heap.size+2) eT eN:=G.out.keep ⟨bW.os,bW.tape,bW.output,bW.size,fun k hk _=>bW.block k hk⟩
 generalize parseW s w=W at *
 have eb:w.heap.size+1+1=w.heap.size+2:=rfl
 have ec:w.heap.size+1+1+1=w.heap.size+3:=rfl
 rw[eb] at a3 ⊢
 simp only[ec]
 have H0:Hid (Below w.heap.size w W∧Gl W (w.heap.size+2) eT eN∧W.heap[w.heap.size]?=_∧W.heap[w.heap.size+1]?=_∧W.heap[w.heap.size+3]?=_):=⟨bW,GW,a0,a1,a3⟩
 have A2:Hid (_):=a2
 clear a0 a1 a2 a3 bW GW eb ec
 refine (moveTo_any (w.heap.size+2) s 0 _ _ _ 0 none eT eN _ A2.out H0.out.2.1 (Nat.zero_le _) hs).mono ?_
 rintro e w1 ⟨k1,h1,h2⟩
 have b1:w1.heap[w.heap.size]?=_:=(k1.block _ (by omega) (by omega)).trans H0.out.2.2.1
 have b2:w1.heap[w.heap.size+1]?=_:=(k1.block _ (by omega) (by omega)).trans H0.out.2.2.2.1
 have b3:w1.heap[w.heap.size+3]?=_:=(k1.block _ (by omega) (by omega)).trans H0.out.2.2.2.2
 have bB:Below w.heap.size w w1:=H0.out.1.trans (k1.toBelow (by omega) (by omega))
 by_cases hk:(Px.tok s 0).k=63
 ·obtain ⟨f,hf,rfl,hF⟩:=h2 hk
  refine leaves_cons (f:=57) (args:=#[.pointer (some ⟨w.heap.size,0,none⟩),.pointer (some ⟨w.heap.size+1,0,none⟩),.pointer (some ⟨w.heap.size+3,0,none⟩)]) (by simp) (by simp[go_sem]) ?_
  refine (catch_panicking _ _ _ f (.slice none 0 0) .nilIface [] _ (by simp[World.cell?,b1]) (by simp[World.frozen?,b1]) (by simp[World.cell?,b2]) (by simp[World.frozen?,b2]) (by omega)).mono ?_
  rintro e u' w'' ⟨rfl,rfl,rfl⟩
  have hR:Px.read s=.error (2,(Px.tok s 0).a):=by
   rw[read_eq hs3,list_fin (p:=(Px.tok s 0).a)]
   unfold listR
   rw[Px.stmts,if_neg (by simp[hk]),stmt_off (starts_63 hk)]
   rfl
  have T:Hid (_):=thrown_post (eN:=eN) bB (by omega) hF hR
  obtain ⟨c0,c1⟩:=two_set b1 b2 (.slice none 0 0) (.iface 87 (.pointer (some ⟨f,0,none⟩)))
  generalize (w1.setCell ⟨w.heap.size,0,none⟩ (.slice none 0 0)).setCell ⟨w.heap.size+1,0,none⟩ (.iface 87 (.pointer (some ⟨f,0,none⟩)))=W2 at *
  clear h1 h2 k1 b1 b2 b3 bB hF hR
  simp[Leaves,settle,results,Tryz.results37,go_sem,c0,c1]
  exact T.out
 ·obtain ⟨rfl,ra⟩:=h1 hk
  have r1:Rd w1 (w.heap.size+2) s ⟨Px.tok s 0,0,-1⟩ eT eN:=⟨(Px.tok_tk s 0 (Nat.zero_le _)).1,hk,H0.out.2.1.keep k1,none,ra,Or.inl ⟨by show (-1:Int) < 0;decide,rfl⟩⟩
  have dC:w1.cell? ⟨w.heap.size+3,0,none⟩=some (.pointer (some ⟨w.heap.size+2,0,none⟩)):=by simp[World.cell?,b3]
  have z1:=k1.size
  have H1:Hid (Below w.heap.size w w1∧Rd w1 (w.heap.size+2) s ⟨Px.tok s 0,0,-1⟩ eT eN∧w1.heap[w.heap.size]?=_∧w1.heap[w.heap.size+1]?=_∧w1.heap[w.heap.size+3]?=_):=⟨bB,r1,b1,b2,b3⟩
  have D1:Hid (Ref.DomS s (s.size+1) ⟨Px.tok s 0,0,-1⟩):=⟨(Px.tok_tk s 0 (Nat.zero_le _)).1,by simp;omega,by simp,by simp;omega⟩
  clear h1 h2 k1 b1 b2 b3 bB ra r1 hk H0 A2
  go_wp2_with fail
  refine (stmts_any (w.heap.size+2) s (s.size+1) eT eN _ (stmt_any _ s eT eN hs3 _) (Px.stmt_goes s _) (fun st h=>stmt_off h) hs3 _ _ D1.out H1.out.2.1).mono ?_
  rintro e w2 ⟨k2,hres⟩
  have b1:w2.heap[w.heap.size]?=_:=(k2.block _ (by omega) (by omega)).trans H1.out.2.2.1
  have b2:w2.heap[w.heap.size+1]?=_:=(k2.block _ (by omega) (by omega)).trans H1.out.2.2.2.1
  have b3:w2.heap[w.heap.size+3]?=_:=(k2.block _ (by omega) (by omega)).trans H1.out.2.2.2.2
  have bB:Below w.heap.size w w2:=H1.out.1.trans (k2.toBelow (by omega) (by omega))
  have z2:=k2.size
  rcases hres with ⟨l,st2,v,rfl,⟨vs,hv1,hv2⟩,r2,hst2,G2,CH⟩ | ⟨p,hp,ht⟩
  ·have ch:=CH _ (stp_end s) (s.size+1) (by simp;omega)
   obtain ⟨va,vn,vc,rfl⟩:=hv1.form
   obtain ⟨td,ra,rd⟩:=r2.mem
   obtain ⟨c0,c1,c2,c3,c4,c5,cf⟩:=Ref.cells6 ra.h
   have eC:w2.cell? ⟨w.heap.size+3,0,none⟩=some (.pointer (some ⟨w.heap.size+2,0,none⟩)):=by simp[World.cell?,b3]
   have eA:w2.cell? ⟨w.heap.size,0,none⟩=some (.slice none 0 0):=by simp[World.cell?,b1]
   have fA:∀ o,w2.frozen? ⟨w.heap.size,o,none⟩=false:=by intro o;simp[World.frozen?,b1]
   have eB:w2.cell? ⟨w.heap.size+1,0,none⟩=some .nilIface:=by simp[World.cell?,b2]
   have fB:∀ o,w2.frozen? ⟨w.heap.size+1,o,none⟩=false:=by intro o;simp[World.frozen?,b2]
   have H2:Hid (Below w.heap.size w w2∧Rd w2 (w.heap.size+2) s st2 eT eN∧SlL w2 (.slice va vn vc) vs (Ref.In w1 w2)∧LsAt w2 l (Ref.In w1 w2) vs∧(listR s=if (st2.t.k == 0)=true then .ok (l,st2) else .error st2.t.a)∧w2.heap[w.heap.size]?=_∧w2.heap[w.heap.size+1]?=_):=⟨bB,r2,hv1,hv2,ch,b1,b2⟩
   have hkd:=kd_zero r2.tk.kinds r2.k63
   have RD:Hid (DeepAt w2 (w.heap.size+2) eN st2.deep td):=rd
   clear hv1 hv2 ch CH r2 bB b1 b2 b3 hst2 G2 k2 dC ra rd
   cases hk0:(st2.t.k == 0)
   ·rw[hk0] at hkd
    have hR:Hid (Px.read s=.error (2,st2.t.a)):=by unfold Hid;rw[read_eq hs3,H2.out.2.2.2.2.1,if_neg (by simp[hk0])]
    go_wp2_with fail
    refine (refuse_rd (w.heap.size+2) s st2 eT eN _ (H2.out.2.1.setU H2.out.2.2.2.2.2.1 (by decide) hlo (by omega) _)).mono ?_
    rintro e w3 ⟨⟨f,hf,rfl,hF⟩,k3⟩
    have hsz:=Ref.size_set w2 ⟨w.heap.size,0,none⟩ (.slice va vn vc)
    have b1:w3.heap[w.heap.size]?=some (.cells #[.slice va vn vc] 54):=(k3.block _ (by omega) (by omega)).trans ((Ref.heap_set _ H2.out.2.2.2.2.2.1).trans (by simp))
    have b2:w3.heap[w.heap.size+1]?=_:=(k3.block _ (by omega) (by omega)).trans ((Ref.heap_set_ne _ (by omega)).trans H2.out.2.2.2.2.2.2)
    have bB:Below w.heap.size w w3:=(H2.out.1.setCell (Nat.le_refl _) _).trans (k3.toBelow (by omega) (by omega))
    refine leaves_cons (f:=57) (args:=#[.pointer (some ⟨w.heap.size,0,none⟩),.pointer (some ⟨w.heap.size+1,0,none⟩),.pointer (some ⟨w.heap.size+3,0,none⟩)]) (by simp) (by simp[go_sem]) ?_
    refine (catch_panicking _ _ _ f (.slice va vn vc) .nilIface [] _ (by simp[World.cell?,b1]) (by simp[World.frozen?,b1]) (by simp[World.cell?,b2]) (by simp[World.frozen?,b2]) (by omega)).mono ?_
    rintro e u' w'' ⟨rfl,rfl,rfl⟩
    have T:Hid (_):=thrown_post (eN:=eN) bB (by omega) hF hR.out
    obtain ⟨q0,q1⟩:=two_set b1 b2 (.slice none 0 0) (.iface 87 (.pointer (some ⟨f,0,none⟩)))
    generalize (w3.setCell ⟨w.heap.size,0,none⟩ (.slice none 0 0)).setCell ⟨w.heap.size+1,0,none⟩ (.iface 87 (.pointer (some ⟨f,0,none⟩)))=W2 at *
    clear k3 b1 b2 bB hF c0 c1 c2 c3 c4 c5 cf eA eB eC fA fB
    simp[Leaves,settle,results,Tryz.results37,go_sem,q0,q1]
    exact T.out
   ·rw[hk0] at hkd
    have hL:Hid (listR s=.ok (l,st2)):=by unfold Hid;rw[H2.out.2.2.2.2.1,if_pos hk0]
    rcases RD.out with ⟨d1,rfl⟩ | ⟨d1,f,rfl,d3,d4⟩
    ·have hR:Hid (Px.read s=.ok l):=by unfold Hid;rw[read_eq hs3,hL.out];simp only;rw[if_neg (by omega)]
     go_wp2_with fail
     refine leaves_cons (f:=57) (args:=#[.pointer (some ⟨w.heap.size,0,none⟩),.pointer (some ⟨w.heap.size+1,0,none⟩),.pointer (some ⟨w.heap.size+3,0,none⟩)]) (by simp) (by simp[go_sem]) ?_
     refine (catch_idle _ _ _ _).mono ?_
     rintro e u' w'' ⟨rfl,rfl,rfl⟩
     have T:Hid (_):=ok_post (eT:=eT) (eN:=eN) (v:=.slice va vn vc) (W:=((w2.setCell ⟨w.heap.size,0,none⟩ (.slice va vn vc)).setCell ⟨w.heap.size,0,none⟩ (.slice va vn vc)).setCell ⟨w.heap.size+1,0,none⟩ .nilIface) hR.out H2.out.2.2.1 H2.out.2.2.2.1 (by omega) (((H2.out.1.setCell (Nat.le_refl _) _).setCell (Nat.le_refl _) _).setCell (by show w.heap.size≤w.heap.size+1;omega) _) (fun i hi=>by rw[Ref.heap_set_ne _ (by omega),Ref.heap_set_ne _ (by omega),Ref.heap_set_ne _ (by omega)]) (by simp[World.setCell])
     obtain ⟨q0,q1⟩:=two_set (n:=w.heap.size) (Ref.heap_set (o:=0) (.slice va vn vc) H2.out.2.2.2.2.2.1) ((Ref.heap_set_ne _ (by omega)).trans H2.out.2.2.2.2.2.2) (.slice va vn vc) .nilIface
     generalize ((w2.setCell ⟨w.heap.size,0,none⟩ (.slice va vn vc)).setCell ⟨w.heap.size,0,none⟩ (.slice va vn vc)).setCell ⟨w.heap.size+1,0,none⟩ .nilIface=W3 at *
     clear c0 c1 c2 c3 c4 c5 cf eA eB eC fA fB
     simp[Leaves,settle,results,Tryz.results37,go_sem,q0,q1]
     exact T.out
    ·have hR:Hid (Px.read s=.error (3,st2.deep.toNat)):=by unfold Hid;rw[read_eq hs3,hL.out];simp only;rw[if_pos d1]
     have D4:Hid (_):=d4
     clear d4
     go_wp2_with fail
     go_region
     all_goals
      go_wp2_with fail
      refine leaves_cons (f:=57) (args:=#[.pointer (some ⟨w.heap.size,0,none⟩),.pointer (some ⟨w.heap.size+1,0,none⟩),.pointer (some ⟨w.heap.size+3,0,none⟩)]) (by simp) (by simp[go_sem]) ?_
      refine (catch_idle _ _ _ _).mono ?_
      rintro e u' w'' ⟨rfl,rfl,rfl⟩
      have b1:=H2.out.2.2.2.2.2.1
      have b2:=H2.out.2.2.2.2.2.2
      have hfne:f≠w.heap.size∧f≠w.heap.size+1:=by
       constructor
       ·rintro rfl;have:=D4.out;rw[b1] at this;simp at this
       ·rintro rfl;have:=D4.out;rw[b2] at this;simp at this
      have T:Hid (_):=deep_post (eT:=eT) (f:=f) (W:=(((w2.setCell ⟨w.heap.size,0,none⟩ (.slice va vn vc)).setCell ⟨w.heap.size,0,none⟩ (.slice none 0 0)).setCell ⟨w.heap.size+1,0,none⟩ (.iface 87 (.pointer (some ⟨f,0,none⟩)))).drew) d1 hR.out ((((H2.out.1.setCell (Nat.le_refl _) _).setCell (Nat.le_refl _) _).setCell (by show w.heap.size≤w.heap.size+1;omega) _).drew) (by show (World.setCell _ _ _).heap[f]?=_;rw[Ref.heap_set_ne _ hfne.2,Ref.heap_set_ne _ hfne.1,Ref.heap_set_ne _ hfne.1];exact D4.out)
      obtain ⟨q0,q1⟩:=two_set (n:=w.heap.size) (Ref.heap_set (o:=0) (.slice va vn vc) b1) ((Ref.heap_set_ne _ (by omega)).trans b2) (.slice none 0 0) (.iface 87 (.pointer (some ⟨f,0,none⟩)))
      generalize ((w2.setCell ⟨w.heap.size,0,none⟩ (.slice va vn vc)).setCell ⟨w.heap.size,0,none⟩ (.slice none 0 0)).setCell ⟨w.heap.size+1,0,none⟩ (.iface 87 (.pointer (some ⟨f,0,none⟩)))=W3 at *
      clear c0 c1 c2 c3 c4 c5 cf eA eB eC fA fB b1 b2
      simp[Leaves,settle,results,Tryz.results37,go_sem,q0,q1]
      exact T.out
  ·obtain ⟨f,hf,rfl,hF⟩:=ht
   have hR:Px.read s=.error (2,p):=by
    rw[read_eq hs3,list_fin (p:=p)]
    exact hp _ (stp_end s) (s.size+1) (by simp;omega)
   refine leaves_cons (f:=57) (args:=#[.pointer (some ⟨w.heap.size,0,none⟩),.pointer (some ⟨w.heap.size+1,0,none⟩),.pointer (some ⟨w.heap.size+3,0,none⟩)]) (by simp) (by simp[go_sem]) ?_
   refine (catch_panicking _ _ _ f (.slice none 0 0) .nilIface [] _ (by simp[World.cell?,b1]) (by simp[World.frozen?,b1]) (by simp[World.cell?,b2]) (by simp[World.frozen?,b2]) (by omega)).mono ?_
   rintro e u' w'' ⟨rfl,rfl,rfl⟩
   have T:Hid (_):=thrown_post (eN:=eN) bB (by omega) hF hR
   obtain ⟨c0,c1⟩:=two_set b1 b2 (.slice none 0 0) (.iface 87 (.pointer (some ⟨f,0,none⟩)))
   generalize (w2.setCell ⟨w.heap.size,0,none⟩ (.slice none 0 0)).setCell ⟨w.heap.size+1,0,none⟩ (.iface 87 (.pointer (some ⟨f,0,none⟩)))=W2 at *
   clear k2 b1 b2 b3 bB hF hR dC hp
   simp[Leaves,settle,results,Tryz.results37,go_sem,c0,c1]
   exact T.out
open Go.RowKit
structure Gc (w:World) (B:Nat) (E:Nat→Addr):Prop where
 c:w.cell? ⟨4,0,none⟩=some (.iface 357 (.pointer (some (E 4))))
 n:w.cell? ⟨5,0,none⟩=some (.iface 357 (.pointer (some (E 5))))
 y:w.cell? ⟨6,0,none⟩=some (.iface 357 (.pointer (some (E 6))))
 ops:∀ j (hj:j < 28),w.cell? ⟨16,j,none⟩=some (opsC[j]'hj)
 lo:20≤B
theorem below_cell {B:Nat} {w w':World} (h:Below B w w') {k o:Nat} (hk:k < B):w'.cell? ⟨k,o,none⟩=w.cell? ⟨k,o,none⟩:=World.cell?_of_block (w:=w) (h.block k hk)
theorem Gc.below {w w':World} {B:Nat} {E:Nat→Addr} (g:Gc w B E) (h:Below B w w'):Gc w' B E:=by
 have hl:=g.lo
 exact ⟨by rw[below_cell h (by omega)];exact g.c,by rw[below_cell h (by omega)];exact g.n,by rw[below_cell h (by omega)];exact g.y,fun j hj=>by rw[below_cell h (by omega)];exact g.ops j hj,hl⟩
structure Fr (c m:Nat) (w w':World):Prop where
 os:w'.os=w.os
 tape:w'.tape=w.tape
 output:w'.output=w.output
 size:w.heap.size≤w'.heap.size
 block:∀ k,k < w.heap.size→k≠c→k≠m→w'.heap[k]?=w.heap[k]?
theorem Fr.refl (c m:Nat) (w:World):Fr c m w w:=⟨rfl,rfl,rfl,Nat.le_refl _,fun _ _ _ _=>rfl⟩
theorem Fr.trans {c m:Nat} {w w1 w2:World} (h:Fr c m w w1) (k:Fr c m w1 w2):Fr c m w w2 :=
 ⟨k.os.trans h.os,k.tape.trans h.tape,k.output.trans h.output,Nat.le_trans h.size k.size,fun i hi hc hm=>(k.block i (Nat.lt_of_lt_of_le hi h.size) hc hm).trans (h.block i hi hc hm)⟩
theorem Fr.drew {c m:Nat} {w w1:World} (h:Fr c m w w1):Fr c m w w1.drew:=⟨h.os,h.tape,h.output,h.size,h.block⟩
theorem Fr.alloc {c m:Nat} {w w1:World} (h:Fr c m w w1) (o:Obj):Fr c m w (w1.alloc o) :=
 ⟨h.os,h.tape,h.output,by have:=h.size;simp;omega,fun i hi hc hm=>by rw[Below.heap_alloc _ _ _ (Nat.lt_of_lt_of_le hi h.size)];exact h.block i hi hc hm⟩
theorem Fr.setC {c m o:Nat} {w w1:World} (h:Fr c m w w1) (u:Value):Fr c m w (w1.setCell ⟨c,o,none⟩ u) :=
 ⟨h.os,h.tape,h.output,by simpa [World.setCell] using h.size,fun i hi hc hm=>by rw[Below.heap_setCell _ _ _ _ hc];exact h.block i hi hc hm⟩
theorem Fr.below {c m B:Nat} {w w':World} (h:Fr c m w w') (h1:B≤c) (h2:B≤m) (h3:B≤w.heap.size):Below B w w':=⟨h.os,h.tape,h.output,h.size,fun k hk=>h.block k (by omega) (by omega) (by omega)⟩
structure Ck (w:World) (c m B:Nat) (E:Nat→Addr) (K:Px.Lk):Prop where
 g:Gc w B E
 bc:B≤c
 ex:∃ pf,w.heap[c]?=some (.cells #[.map (some m),.pointer pf] 155)∧B≤m∧m≠c∧KMap w m K.vars ∧
  ((K.e=0∧pf=none)∨(K.e≠0∧∃ f,pf=some ⟨f,0,none⟩∧B≤f∧f≠c∧f≠m∧FltAt w f K.pl (E K.e)))
theorem cells2 {w:World} {k:Nat} {a b:Value} {t:TypeId} (hh:w.heap[k]?=some (.cells #[a,b] t)) :
  w.cell? ⟨k,0,none⟩=some a∧w.cell? ⟨k,1,none⟩=some b∧∀ o,w.frozen? ⟨k,o,none⟩=false:=by
 refine ⟨?_,?_,?_⟩<;>simp[World.cell?,World.frozen?,hh]
theorem lt_of_block {w:World} {k:Nat} {o:Obj} (h:w.heap[k]?=some o):k < w.heap.size:=by
 rcases Nat.lt_or_ge k w.heap.size with hb | hb
 ·exact hb
 ·rw[Array.getElem?_eq_none hb] at h;cases h
theorem Ck.fr {w w':World} {c m B:Nat} {E:Nat→Addr} {K:Px.Lk} (h:Ck w c m B E K) (k:Fr c m w w'):Below B w w':=by
 obtain ⟨pf,h1,h2,_⟩:=h.ex
 have:=lt_of_block h1
 exact k.below h.bc h2 (by have:=h.bc;omega)
theorem Ck.drew {w:World} {c m B:Nat} {E:Nat→Addr} {K:Px.Lk} (h:Ck w c m B E K):Ck w.drew c m B E K:=⟨⟨h.g.c,h.g.n,h.g.y,h.g.ops,h.g.lo⟩,h.bc,h.ex⟩
theorem below_drew {B:Nat} {w w1:World} (h:Below B w w1):Below B w w1.drew:=⟨h.os,h.tape,h.output,h.size,h.block⟩
theorem Ck.note {w:World} {c B m:Nat} {E:Nat→Addr} {K:Px.Lk} {pf:Option Addr} (e p:Nat) (he:e≠0) (g:Gc w B E) (bc:B≤c) (h1:w.heap[c]?=some (.cells #[.map (some m),.pointer pf] 155)) (h2:B≤m) (h3:m≠c) (h4:KMap w m K.vars) :
  Ck ((w.setCell ⟨c,1,none⟩ (.pointer (some ⟨w.heap.size,0,none⟩))).alloc (.cells #[.int .i64 (p:Int),.iface 357 (.pointer (some (E e)))] 92)) c m B E ⟨K.vars,e,p⟩ ∧
  Fr c m w ((w.setCell ⟨c,1,none⟩ (.pointer (some ⟨w.heap.size,0,none⟩))).alloc (.cells #[.int .i64 (p:Int),.iface 357 (.pointer (some (E e)))] 92)):=by
 have hc:=lt_of_block h1
 obtain ⟨es,clock,h5,h6⟩:=h4
 have hm:=lt_of_block h5
 have hs:(w.setCell ⟨c,1,none⟩ (.pointer (some ⟨w.heap.size,0,none⟩))).heap.size=w.heap.size:=by simp[World.setCell]
 have hB:Below B w ((w.setCell ⟨c,1,none⟩ (.pointer (some ⟨w.heap.size,0,none⟩))).alloc (.cells #[.int .i64 (p:Int),.iface 357 (.pointer (some (E e)))] 92)) :=
  ((Below.refl B w).setCell (p:=⟨c,1,none⟩) bc _).alloc (by simp[World.setCell];omega) _
 refine ⟨⟨g.below hB,bc,some ⟨w.heap.size,0,none⟩,?_,h2,h3,⟨es,clock,?_,h6⟩,Or.inr ⟨he,w.heap.size,rfl,by omega,by omega,by omega,?_⟩⟩,((Fr.refl c m w).setC _).alloc _⟩
 ·rw[Below.heap_alloc _ _ _ (by rw[hs];exact hc),Ref.heap_set _ h1];simp
 ·rw[Below.heap_alloc _ _ _ (by rw[hs];exact hm),Ref.heap_set_ne _ h3];exact h5
 ·unfold FltAt
  exact new_at hs
theorem note_any (c m B:Nat) (E:Nat→Addr) (e p:Nat) (he:e≠0) (K:Px.Lk) (w:World) (h:Ck w c m B E K) :
  Calls Tryz.prog 259 #[.pointer (some ⟨c,0,none⟩),.int .i64 (p:Int),.iface 357 (.pointer (some (E e)))] w fun r w'=>r=.returned (.tuple #[])∧Ck w' c m B E (Px.noteP e p K)∧Fr c m w w':=by
 obtain ⟨pf,h1,h2,h3,h4,h5⟩:=h.ex
 obtain ⟨c0,c1,fr⟩:=cells2 h1
 have YES:Hid (_):=Ck.note (K:=K) e p he h.g h.bc h1 h2 h3 h4
 have HH:Hid (Ck w c m B E K):=h
 have hsz:=lt_of_block h1
 rcases h5 with ⟨h5,rfl⟩ | ⟨h5,f,rfl,h6,h7,h8,h9⟩
 ·clear h h1 h2 h3 h4
  go_enter Tryz.func259,Tryz.ntmps259
  go_wp2_with fail
  go_end0
  refine ⟨rfl,?_⟩
  rw[show Px.noteP e p K=⟨K.vars,e,p⟩ by unfold Px.noteP;rw[if_pos (Or.inl h5)]]
  exact YES.out
 ·obtain ⟨d0,d1,fd⟩:=cells2 h9
  clear h h1 h2 h3 h4 h9
  by_cases hp:p < K.pl
  ·have t1:(p:Int) < K.pl:=by omega
   go_enter Tryz.func259,Tryz.ntmps259
   go_wp2_with fail
   go_end0
   refine ⟨rfl,?_⟩
   rw[show Px.noteP e p K=⟨K.vars,e,p⟩ by unfold Px.noteP;rw[if_pos (Or.inr hp)]]
   exact YES.out
  ·have t1:¬ (p:Int) < K.pl:=by omega
   go_enter Tryz.func259,Tryz.ntmps259
   go_wp2_with fail
   go_end0
   refine ⟨rfl,?_,Fr.refl c m _⟩
   rw[show Px.noteP e p K=K by unfold Px.noteP;rw[if_neg (by omega)]]
   exact HH.out
theorem fits_any (a b:Nat) (ha:Px.K3 a) (hb:Px.K3 b) (w:World) :
  Calls Tryz.prog 258 #[.int .i64 (kk a:Int),.int .i64 (kk b:Int)] w fun r w'=>r=.returned (.bool (Px.fitsP a b))∧w=w':=by
 have e1:Hid (Px.fitsP a b=(((kk a:Int) == kk b) || (((kk a:Int) == 0) || ((kk b:Int) == 0)))):=by
  unfold Hid
  rcases ha with rfl | rfl | rfl<;>rcases hb with rfl | rfl | rfl<;>decide
 generalize kk a=x at *
 generalize kk b=y at *
 cases h1:((x:Int) == y)<;>cases h2:((x:Int) == 0)
 all_goals
  go_enter Tryz.func258,Tryz.ntmps258
  go_wp2_with fail
  go_ret
  exact ⟨Ref.ret_bool (by rw[e1.out,h1,h2];simp),rfl⟩
theorem count_any (c m B q n a least most:Nat) (E:Nat→Addr) (K:Px.Lk) (w:World) (h:Ck w c m B E K) (hn:NumAt w n a (· < B) q) :
  Calls Tryz.prog 266 #[.pointer (some ⟨c,0,none⟩),Ref.ptr q,.int .i64 (least:Int),.int .i64 (most:Int)] w fun r w'=>r=.returned (.tuple #[])∧Ck w' c m B E (Px.countP n a least most K)∧Fr c m w w':=by
 obtain ⟨c0,c1,fr⟩:=cells2 hn.2
 have g4:=h.g.c
 have HH:Hid (Ck w c m B E K):=h
 clear h hn
 unfold Ref.ptr
 by_cases h1:n < least
 ·have t1:(n:Int) < least:=by omega
  go_enter Tryz.func266,Tryz.ntmps266
  go_wp2_with fail
  go_region_with (go_at_call 259;refine (note_any c m B E 4 a (by decide) K _ HH.out.drew).mono ?_;rintro r w1 ⟨rfl,h3,h4⟩)
  all_goals (try go_wp2_with fail)
  all_goals
   go_end0
   refine ⟨rfl,?_,(Fr.refl c m w).drew.trans h4⟩
   unfold Px.countP;rw[if_pos (Or.inl h1)];exact h3
 ·have t1:¬ (n:Int) < least:=by omega
  by_cases h2:most < n
  ·have t2:(most:Int) < n:=by omega
   go_enter Tryz.func266,Tryz.ntmps266
   go_wp2_with fail
   go_region_with (go_at_call 259;refine (note_any c m B E 4 a (by decide) K _ HH.out.drew).mono ?_;rintro r w1 ⟨rfl,h3,h4⟩)
   all_goals (try go_wp2_with fail)
   all_goals
    go_end0
    refine ⟨rfl,?_,(Fr.refl c m w).drew.trans h4⟩
    unfold Px.countP;rw[if_pos (Or.inr h2)];exact h3
  ·have t2:¬ (most:Int) < n:=by omega
   go_enter Tryz.func266,Tryz.ntmps266
   go_wp2_with fail
   go_end0
   refine ⟨rfl,?_,Fr.refl c m _⟩
   unfold Px.countP;rw[if_neg (by omega)];exact HH.out
theorem kindMap:Tryz.prog.underlying 153=some (.map 9 354):=Tryz.underlying153
theorem kindZero (w:World):(zeroValue 354).run Tryz.prog w=.ok (.int .i64 0) w:=by kernel_rfl
theorem Ck.look {w:World} {m:Nat} {K:Px.Lk} (x:ByteArray) (h4:KMap w m K.vars) :
  (Instr.lookup 153 (.map (some m)) (.string x) true).run Tryz.prog w=.ok (.tuple #[.int .i64 (foundV K.vars x:Int),.bool (Px.findV K.vars x).isSome]) w :=
 run_lookup h4 kindMap Tryz.underlying9 (kindZero w) x
open Go.RowKit
def KPost (c m B:Nat) (E:Nat→Addr) (w:World) (r:Nat×Px.Lk) (e:Ending) (w':World):Prop:=e=.returned (.int .i64 (kk r.1:Int))∧Ck w' c m B E r.2∧Fr c m w w'
theorem KMap.drew {w:World} {m:Nat} {l:List (ByteArray×Nat)} (h:KMap w m l):KMap w.drew m l:=h
theorem foundV_none {l:List (ByteArray×Nat)} {x:ByteArray} (h:Px.findV l x=none):foundV l x=0:=by unfold foundV;rw[h]
theorem foundV_some {l:List (ByteArray×Nat)} {x:ByteArray} {i:Nat} (h:Px.findV l x=some i):foundV l x=kk (Px.kindAt l i):=by unfold foundV;rw[h]
theorem number_kind (c m B q:Nat) (E:Nat→Addr) (K:Px.Lk) (w:World) (h:Ck w c m B E K) :
  Calls Tryz.prog 290 #[.pointer (some ⟨q,0,none⟩),.pointer (some ⟨c,0,none⟩)] w (KPost c m B E w (105,K)):=by
 have HH:Hid (Ck w c m B E K):=h
 clear h
 go_enter Tryz.func290,Tryz.ntmps290
 go_wp2_with fail
 go_ret
 exact ⟨rfl,HH.out,Fr.refl c m _⟩
theorem truth_kind (c m B q:Nat) (E:Nat→Addr) (K:Px.Lk) (w:World) (h:Ck w c m B E K) :
  Calls Tryz.prog 291 #[.pointer (some ⟨q,0,none⟩),.pointer (some ⟨c,0,none⟩)] w (KPost c m B E w (98,K)):=by
 have HH:Hid (Ck w c m B E K):=h
 clear h
 go_enter Tryz.func291,Tryz.ntmps291
 go_wp2_with fail
 go_ret
 exact ⟨rfl,HH.out,Fr.refl c m _⟩
theorem variable_kind (c m B q own:Nat) (x:ByteArray) (E:Nat→Addr) (K:Px.Lk) (w:World) (h:Ck w c m B E K) (hv:VarAt w x own (· < B) q) :
  Calls Tryz.prog 261 #[.pointer (some ⟨q,0,none⟩),.pointer (some ⟨c,0,none⟩)] w (KPost c m B E w (match Px.findV K.vars x with
   | none=>(63,Px.noteP 5 own K)
   | some i=>(Px.kindAt K.vars i,K))):=by
 obtain ⟨pf,h1,h2,h3,h4,h5⟩:=h.ex
 obtain ⟨c0,c1,fr⟩:=cells2 h1
 obtain ⟨d0,d1,fd⟩:=cells2 hv.2
 have g5:=h.g.n
 have l0:=Ck.look x h4
 have l1:=Ck.look x h4.drew
 have HH:Hid (Ck w c m B E K):=h
 clear h h1 h2 h3 h4 h5 hv
 cases hf:Px.findV K.vars x with
 | none =>
  rw[foundV_none hf,hf] at l0 l1
  go_enter Tryz.func261,Tryz.ntmps261
  go_wp2_with fail
  go_region
  all_goals
   go_wp2_with fail
   go_region_with (go_at_call 259;refine (note_any c m B E 5 own (by decide) K _ HH.out.drew.drew).mono ?_;rintro r w1 ⟨rfl,h3,h4⟩)
   all_goals
    go_wp2_with fail
    go_ret
    exact ⟨rfl,h3,(Fr.refl c m w).drew.drew.trans h4⟩
 | some i =>
  rw[foundV_some hf,hf] at l0 l1
  go_enter Tryz.func261,Tryz.ntmps261
  go_wp2_with fail
  go_region
  all_goals
   go_wp2_with fail
   go_ret
   exact ⟨rfl,HH.out.drew,(Fr.refl c m _).drew⟩
open Go.RowKit
theorem Ck.put {w:World} {c B m:Nat} {E:Nat→Addr} {K:Px.Lk} {pf:Option Addr} {o:Obj} {vs:List (ByteArray×Nat)} (g:Gc w B E) (bc:B≤c) (h1:w.heap[c]?=some (.cells #[.map (some m),.pointer pf] 155)) (h2:B≤m) (h3:m≠c) (h4:KMap w m K.vars)
  (h5:(K.e=0∧pf=none)∨(K.e≠0∧∃ f,pf=some ⟨f,0,none⟩∧B≤f∧f≠c∧f≠m∧FltAt w f K.pl (E K.e))) (hu:KMap { w with heap:=w.heap.setIfInBounds m o } m vs) :
  Ck { w with heap:=w.heap.setIfInBounds m o } c m B E ⟨vs,K.e,K.pl⟩∧Fr c m w { w with heap:=w.heap.setIfInBounds m o }:=by
 obtain ⟨es,clock,hb,_⟩:=h4
 have hs:=(MapKept.heap_set (o':=o) hb).2
 have hB:Below B w { w with heap:=w.heap.setIfInBounds m o }:=⟨rfl,rfl,rfl,by simp,fun k hk=>hs k (by omega)⟩
 refine ⟨⟨g.below hB,bc,pf,?_,h2,h3,hu,?_⟩,⟨rfl,rfl,rfl,by simp,fun k _ _ hk=>hs k hk⟩⟩
 ·show (w.heap.setIfInBounds m o)[c]?=_
  rw[hs c (Ne.symm h3)];exact h1
 ·rcases h5 with h5 | ⟨h5,f,h6,h7,h8,h9,h10⟩
  ·exact Or.inl h5
  ·refine Or.inr ⟨h5,f,h6,h7,h8,h9,?_⟩
   unfold FltAt at h10 ⊢
   show (w.heap.setIfInBounds m o)[f]?=_
   rw[hs f h9];exact h10
set_option maxRecDepth 100000 in
theorem give_any (c m B q p k:Nat) (x:ByteArray) (E:Nat→Addr) (K:Px.Lk) (w:World) (h:Ck w c m B E K) (hv:VarAt w x p (· < B) q) (hk:Px.K3 k) (hV:Px.V3 K) :
  Calls Tryz.prog 256 #[.pointer (some ⟨c,0,none⟩),.pointer (some ⟨q,0,none⟩),.int .i64 (kk k:Int)] w fun r w'=>r=.returned (.tuple #[])∧Ck w' c m B E (Px.giveP x p k K)∧Fr c m w w':=by
 obtain ⟨pf,h1,h2,h3,h4,h5⟩:=h.ex
 obtain ⟨c0,c1,fr⟩:=cells2 h1
 obtain ⟨d0,d1,fd⟩:=cells2 hv.2
 have g6:=h.g.y
 have l1:=Ck.look x h4.drew
 have HH:Hid (Ck w c m B E K):=h
 cases hf:Px.findV K.vars x with
 | none =>
  rw[foundV_none hf,hf] at l1
  obtain ⟨o,u1,u2⟩:=run_update (P:=Tryz.prog) (w:=w.drew.drew) (h4.drew.drew) kindMap Tryz.underlying9 x hf k
  have hd:=HH.out.drew.drew
  have PUT:Hid (_):=Ck.put hd.g hd.bc h1 h2 h3 h4.drew.drew h5 u2
  have hgv:Hid (Px.giveP x p k K=⟨K.vars++[(x,k)],K.e,K.pl⟩):=by unfold Hid Px.giveP;rw[hf]
  clear h h1 h2 h3 h4 h5 hv u2 hd
  go_enter Tryz.func256,Tryz.ntmps256
  go_wp2_with fail
  go_region
  all_goals
   go_wp2_with fail
   go_region
   all_goals
    go_wp2_with fail
    go_end0
    rw[hgv.out]
    exact ⟨rfl,PUT.out.1,(Fr.refl c m w).drew.drew.trans PUT.out.2⟩
 | some i =>
  rw[foundV_some hf,hf] at l1
  have hk2:Px.K3 (Px.kindAt K.vars i):=by
   obtain ⟨v,hv1,hv2⟩:=Px.kindAt_mem (Px.findV_lt hf)
   rw[hv2];exact hV v hv1
  clear h h1 h2 h3 h4 h5 hv
  cases hfit:Px.fitsP (Px.kindAt K.vars i) k
  ·have hgv:Hid (Px.giveP x p k K=Px.noteP 6 p K):=by unfold Hid Px.giveP;rw[hf];simp only;rw[if_neg (by simp[hfit])]
   go_enter Tryz.func256,Tryz.ntmps256
   go_wp2_with fail
   go_region
   all_goals
    go_wp2_with fail
    refine (fits_any _ _ hk2 hk _).mono ?_
    rintro r w1 ⟨rfl,rfl⟩
    rw[hfit]
    go_wp2_with fail
    go_region_with (go_at_call 259;refine (note_any c m B E 6 p (by decide) K _ HH.out.drew.drew).mono ?_;rintro r w1 ⟨rfl,h3,h4⟩)
    all_goals
     go_wp2_with fail
     go_end0
     rw[hgv.out]
     exact ⟨rfl,h3,(Fr.refl c m w).drew.drew.trans h4⟩
  ·have hgv:Hid (Px.giveP x p k K=K):=by unfold Hid Px.giveP;rw[hf];simp only;rw[if_pos hfit]
   go_enter Tryz.func256,Tryz.ntmps256
   go_wp2_with fail
   go_region
   all_goals
    go_wp2_with fail
    refine (fits_any _ _ hk2 hk _).mono ?_
    rintro r w1 ⟨rfl,rfl⟩
    rw[hfit]
    go_wp2_with fail
    go_end0
    rw[hgv.out]
    exact ⟨rfl,HH.out.drew,(Fr.refl c m w).drew⟩
end Lg
open Go.RowKit
namespace Px
theorem noteP_vars (e p:Nat) (c:Lk):(noteP e p c).vars=c.vars:=by unfold noteP;split<;>rfl
theorem kindP_vars (x:Ex):∀ c,(kindP x c).2.vars=c.vars:=by
 match x with
 | ⟨op,n,word,pl,own,none,_⟩ =>
  intro c
  simp only[kindP,leafP]
  split
  ·rfl
  ·split
   ·rfl
   ·split
    ·exact noteP_vars _ _ _
    ·rfl
 | ⟨op,n,word,pl,own,some l,none⟩ =>
  intro c
  simp only[kindP,notP]
  split
  ·exact kindP_vars l c
  ·rw[noteP_vars];exact kindP_vars l c
 | ⟨op,n,word,pl,own,some l,some r⟩ =>
  intro c
  simp only[kindP,binP]
  split
  ·rw[kindP_vars r,kindP_vars l]
  ·rw[noteP_vars,kindP_vars r,kindP_vars l]
theorem kindP_v3 {x:Ex} {c:Lk} (h:V3 c):V3 (kindP x c).2:=by unfold V3;rw[kindP_vars];exact h
theorem kindP_k3 (x:Ex) (c:Lk) (h:V3 c):K3 (kindP x c).1:=by
 match x with
 | ⟨op,n,word,pl,own,none,_⟩ =>
  simp only[kindP,leafP]
  split
  ·exact Or.inl rfl
  ·split
   ·exact Or.inr (Or.inl rfl)
   ·cases hf:findV c.vars word with
    | none=>exact Or.inr (Or.inr rfl)
    | some i =>
     obtain ⟨v,hv1,hv2⟩:=kindAt_mem (findV_lt hf)
     simp only
     rw[hv2];exact h v hv1
 | ⟨op,n,word,pl,own,some l,none⟩=>exact Or.inr (Or.inl rfl)
 | ⟨op,n,word,pl,own,some l,some r⟩ =>
  simp only[kindP,binP,makesP]
  split
  ·exact Or.inr (Or.inl rfl)
  ·exact Or.inl rfl
end Px
namespace Lg
def KindC (w:World) (c tl ql:Nat) (Q:Ending→World→Prop):Prop :=
 (tl=297∧Calls Tryz.prog 290 #[.pointer (some ⟨ql,0,none⟩),.pointer (some ⟨c,0,none⟩)] w Q) ∨
 (tl=260∧Calls Tryz.prog 261 #[.pointer (some ⟨ql,0,none⟩),.pointer (some ⟨c,0,none⟩)] w Q) ∨
 (tl=312∧Calls Tryz.prog 291 #[.pointer (some ⟨ql,0,none⟩),.pointer (some ⟨c,0,none⟩)] w Q) ∨
 (tl=315∧Calls Tryz.prog 295 #[.pointer (some ⟨ql,0,none⟩),.pointer (some ⟨c,0,none⟩)] w Q) ∨
 (tl=318∧Calls Tryz.prog 299 #[.pointer (some ⟨ql,0,none⟩),.pointer (some ⟨c,0,none⟩)] w Q)
def Ty5 (tl:Nat):Prop:=tl=297∨tl=260∨tl=312∨tl=315∨tl=318
theorem KindC.num {w:World} {c ql:Nat} {Q:Ending→World→Prop} (h:KindC w c 297 ql Q):Calls Tryz.prog 290 #[.pointer (some ⟨ql,0,none⟩),.pointer (some ⟨c,0,none⟩)] w Q:=by
 rcases h with ⟨h,k⟩ | ⟨h,k⟩ | ⟨h,k⟩ | ⟨h,k⟩ | ⟨h,k⟩<;>first | exact k | (exact absurd h (by decide))
theorem KindC.var {w:World} {c ql:Nat} {Q:Ending→World→Prop} (h:KindC w c 260 ql Q):Calls Tryz.prog 261 #[.pointer (some ⟨ql,0,none⟩),.pointer (some ⟨c,0,none⟩)] w Q:=by
 rcases h with ⟨h,k⟩ | ⟨h,k⟩ | ⟨h,k⟩ | ⟨h,k⟩ | ⟨h,k⟩<;>first | exact k | (exact absurd h (by decide))
theorem KindC.tru {w:World} {c ql:Nat} {Q:Ending→World→Prop} (h:KindC w c 312 ql Q):Calls Tryz.prog 291 #[.pointer (some ⟨ql,0,none⟩),.pointer (some ⟨c,0,none⟩)] w Q:=by
 rcases h with ⟨h,k⟩ | ⟨h,k⟩ | ⟨h,k⟩ | ⟨h,k⟩ | ⟨h,k⟩<;>first | exact k | (exact absurd h (by decide))
theorem KindC.nots {w:World} {c ql:Nat} {Q:Ending→World→Prop} (h:KindC w c 315 ql Q):Calls Tryz.prog 295 #[.pointer (some ⟨ql,0,none⟩),.pointer (some ⟨c,0,none⟩)] w Q:=by
 rcases h with ⟨h,k⟩ | ⟨h,k⟩ | ⟨h,k⟩ | ⟨h,k⟩ | ⟨h,k⟩<;>first | exact k | (exact absurd h (by decide))
theorem KindC.pair {w:World} {c ql:Nat} {Q:Ending→World→Prop} (h:KindC w c 318 ql Q):Calls Tryz.prog 299 #[.pointer (some ⟨ql,0,none⟩),.pointer (some ⟨c,0,none⟩)] w Q:=by
 rcases h with ⟨h,k⟩ | ⟨h,k⟩ | ⟨h,k⟩ | ⟨h,k⟩ | ⟨h,k⟩<;>first | exact k | (exact absurd h (by decide))
theorem XAt.ty {w:World} {x:Px.Ex} {ok:Nat→Prop} {tl ql:Nat} (h:XAt w x ok (.iface tl (Ref.ptr ql))):Ty5 tl:=by
 unfold Ty5
 match x with
 | ⟨op,n,word,pl,own,none,none⟩ =>
  obtain ⟨q,h1,⟨h2,h3,h4⟩ | ⟨h2,h3,h4⟩ | ⟨h2,h3,h4⟩⟩:=h<;>cases h3<;>simp
 | ⟨op,n,word,pl,own,some l,none⟩=>obtain ⟨h0,q,tl,ql,h1,h2,h3⟩:=h;cases h2;simp
 | ⟨op,n,word,pl,own,some l,some r⟩=>obtain ⟨q,tl,ql,tr,qr,h1,h2,h3⟩:=h;cases h2;simp
 | ⟨_,_,_,_,_,none,some _⟩=>exact h.elim
theorem mNum (a:Addr) (w:World):(method 514 297 (.pointer (some a)) "errand/lang.kind").run Tryz.prog w=.ok (290,.pointer (some a)) w:=by kernel_rfl
theorem mVar (a:Addr) (w:World):(method 514 260 (.pointer (some a)) "errand/lang.kind").run Tryz.prog w=.ok (261,.pointer (some a)) w:=by kernel_rfl
theorem mTru (a:Addr) (w:World):(method 514 312 (.pointer (some a)) "errand/lang.kind").run Tryz.prog w=.ok (291,.pointer (some a)) w:=by kernel_rfl
theorem mNot (a:Addr) (w:World):(method 514 315 (.pointer (some a)) "errand/lang.kind").run Tryz.prog w=.ok (295,.pointer (some a)) w:=by kernel_rfl
theorem mPair (a:Addr) (w:World):(method 514 318 (.pointer (some a)) "errand/lang.kind").run Tryz.prog w=.ok (299,.pointer (some a)) w:=by kernel_rfl
def KindOk (c m B:Nat) (E:Nat→Addr) (x:Px.Ex):Prop:=∀ (K:Px.Lk) (w:World) (tl ql:Nat),XAt w x (· < B) (.iface tl (Ref.ptr ql))→Ck w c m B E K→Px.V3 K→KindC w c tl ql (KPost c m B E w (Px.kindP x K))
theorem XAt.drew {w:World} {x:Px.Ex} {ok:Nat→Prop} {v:Value} (h:XAt w x ok v):XAt w.drew x ok v:=h.keep fun _ _=>rfl
end Lg
namespace Px
theorem noteP_v3 {c:Lk} (h:V3 c) (e p:Nat):V3 (noteP e p c):=by unfold V3;rw[noteP_vars];exact h
theorem giveP_v3 {c:Lk} (h:V3 c) {w:ByteArray} {p k:Nat} (hk:K3 k):V3 (giveP w p k c):=by
 unfold giveP
 split
 ·intro v hv
  rcases List.mem_append.1 hv with h1 | h1
  ·exact h v h1
  ·rw[List.mem_singleton] at h1;rw[h1];exact hk
 ·split
  ·exact h
  ·exact noteP_v3 h _ _
theorem rootP_v3 {c:Lk} (h:V3 c) (x:Ex) (k:Nat):V3 (rootP x k c):=by
 unfold rootP
 split
 ·exact kindP_v3 h
 ·exact noteP_v3 (kindP_v3 h) _ _
theorem argP_v3 {c:Lk} (h:V3 c) (x:Option Ex):V3 (argP x c):=by
 cases x with
 | none=>exact h
 | some x=>exact rootP_v3 h x 105
theorem asP_v3 {c:Lk} (h:V3 c) (w:ByteArray) (p:Nat):V3 (asP w p c):=by
 unfold asP
 split
 ·exact h
 ·exact giveP_v3 h (Or.inl rfl)
theorem countP_v3 {c:Lk} (h:V3 c) (n p a b:Nat):V3 (countP n p a b c):=by
 unfold countP
 split
 ·exact noteP_v3 h _ _
 ·exact h
theorem lookP_v3 (l:List Sm):∀ c,V3 c→V3 (lookP l c):=by
 match l with
 | []=>intro c h;rw[lookP_nil];exact h
 | ⟨op,word,pl,ex,asw,asPl,undo,n,nPl,one,two⟩::rest =>
  intro c h
  rw[lookP_cons]
  refine lookP_v3 rest _ ?_
  unfold lookX'
  simp only
  split
  ·cases ex with
   | none=>exact h
   | some e=>exact giveP_v3 (kindP_v3 h) (kindP_k3 e c h)
  ·split
   ·exact countP_v3 (asP_v3 (argP_v3 h _) _ _) _ _ _ _
   ·split
    ·cases ex with
     | none=>exact h
     | some e=>exact lookP_v3 two _ (lookP_v3 one _ (rootP_v3 h e 98))
    ·split
     ·exact lookP_v3 two _ (lookP_v3 one _ h)
     ·split
      ·exact lookP_v3 one _ (countP_v3 h _ _ _ _)
      ·exact h
theorem lookX_v3 (x:Sm) (c:Lk) (h:V3 c):V3 (lookX' x c):=by
 have:=lookP_v3 [x] c h
 rw[lookP_cons,lookP_nil] at this
 exact this
end Px
end Go.Proofs.YtnhkpbmplefnaaaGreatDoor
