import Derived.Test.YtnhkpbmplefnaaaGreatDoorP00
import Derived.Test.YtnhkpbmplefnaaaGreatDoorP02
import Derived.Test.YtnhkpbmplefnaaaGreatDoorP01
import Derived.Deep.RegionWith
namespace Go.Proofs.YtnhkpbmplefnaaaGreatDoor
namespace Px
theorem need_good {s x:ByteArray} {st st':Ps} (ht:Tk s st.t) (h:need s x st=.ok st'):Good s st st':=by
 unfold need at h
 split at h
 ·rename_i ho;cases h;exact good_on ht ho
 ·cases h
theorem kind_good {s:ByteArray} {k:Nat} {st st':Ps} (ht:Tk s st.t) (hk:k≠0) (hk':k≠63) (h:kind s k st=.ok st'):Good s st st':=by
 unfold kind at h
 split at h
 ·rename_i ho;cases h;exact good_nx ht (by omega) (by omega)
 ·cases h
theorem exprOf_goes (s:ByteArray):Goes s (exprOf s):=expr_goes (atom_goes s _)
structure Good0 (s:ByteArray) (st st':Ps):Prop where
 tk:Tk s st'.t
 le:st.t.a≤st'.t.a
 nest:st'.nest=st.nest
theorem Good.zero {s:ByteArray} {a b:Ps} (h:Good s a b):Good0 s a b:=⟨h.tk,Nat.le_of_lt h.lt,h.nest⟩
theorem Good0.trans {s:ByteArray} {a b c:Ps} (h:Good0 s a b) (k:Good0 s b c):Good0 s a c:=⟨k.tk,Nat.le_trans h.le k.le,k.nest.trans h.nest⟩
theorem Good.then0 {s:ByteArray} {a b c:Ps} (h:Good s a b) (k:Good0 s b c):Good s a c:=⟨k.tk,Nat.lt_of_lt_of_le h.lt k.le,k.nest.trans h.nest⟩
theorem Good0.refl {s:ByteArray} {a:Ps} (h:Tk s a.t):Good0 s a a:=⟨h,Nat.le_refl _,rfl⟩
theorem stmts_goes {s:ByteArray} {g:Ps→Except Nat (Sm×Ps)} (hg:Goes s g) (stop:Ps→Bool) (n:Nat):∀ (l:List Sm) (st:Ps) (x:List Sm) (st':Ps),Tk s st.t→stmts s g stop n l st=.ok (x,st')→Good0 s st st'∧stop st'=true:=by
 induction n with
 | zero=>intro l st x st' _ h;simp[stmts] at h
 | succ n ih =>
  intro l st x st' ht h
  rw[stmts] at h
  split at h
  ·rename_i hs;cases h;exact ⟨Good0.refl ht,hs⟩
  ·cases hp:g st with
   | error p=>rw[hp] at h;cases h
   | ok r =>
    obtain ⟨k,st1⟩:=r
    rw[hp] at h
    have g1:=hg _ _ _ ht hp
    obtain ⟨i1,i2⟩:=ih _ _ _ _ g1.tk h
    exact ⟨g1.zero.trans i1,i2⟩
theorem block_goes {s:ByteArray} {g:Ps→Except Nat (Sm×Ps)} (hg:Goes s g):Goes s (block s g):=by
 intro st x st' ht h
 unfold block at h
 split at h
 ·rename_i ho
  have g1:=good_on ht ho
  cases hp:stmts s g (fun st=>onB s st.t ⟨#[125]⟩) (s.size+1) [] (nx s (dn st)) with
  | error p=>rw[hp] at h;cases h
  | ok r =>
   obtain ⟨l,st1⟩:=r
   rw[hp] at h
   cases h
   obtain ⟨g2,hs⟩:=stmts_goes hg _ _ _ _ _ _ (show Tk s (nx s (dn st)).t from g1.tk) hp
   have g3:=good_on g2.tk hs
   have h1:st.t.a < (nx s (dn st)).t.a:=g1.lt
   have h2:=g2.le
   have h3:=g3.lt
   refine ⟨g3.tk,?_,?_⟩
   ·show st.t.a < (nx s st1).t.a;omega
   ·show st1.nest - 1=st.nest
    rw[g2.nest];show st.nest+1 - 1=st.nest;omega
 ·cases h
theorem letS_goes (s:ByteArray):Goes s (letS s):=by
 intro st x st' ht h
 unfold letS at h
 cases h1:kind s 119 st with
 | error p=>rw[h1] at h;cases h
 | ok st1 =>
  rw[h1] at h;simp only at h
  have g1:=kind_good ht (by decide) (by decide) h1
  cases h2:need s ⟨#[61]⟩ st1 with
  | error p=>rw[h2] at h;cases h
  | ok st2 =>
   rw[h2] at h;simp only at h
   have g2:=g1.trans (need_good g1.tk h2)
   cases h3:exprOf s st2 with
   | error p=>rw[h3] at h;cases h
   | ok r =>
    obtain ⟨e,st3⟩:=r
    rw[h3] at h;simp only at h
    have g3:=g2.trans (exprOf_goes s _ _ _ g2.tk h3)
    cases h4:need s ⟨#[59]⟩ st3 with
    | error p=>rw[h4] at h;cases h
    | ok st4 =>
     rw[h4] at h
     cases h
     exact g3.trans (need_good g3.tk h4)
theorem callAs_goes {s:ByteArray} {x:Sm} {st:Ps} {y:Sm} {st':Ps} (ht:Tk s st.t) (h:callAs s x st=.ok (y,st')):Good0 s st st':=by
 unfold callAs at h
 split at h
 ·rename_i ho
  have g1:=good_on ht ho
  cases h1:kind s 119 (nx s st) with
  | error p=>rw[h1] at h;cases h
  | ok st1=>rw[h1] at h;cases h;exact (g1.trans (kind_good g1.tk (by decide) (by decide) h1)).zero
 ·cases h;exact Good0.refl ht
theorem callUndo_goes {s:ByteArray} {x:Sm} {st:Ps} {y:Sm} {st':Ps} (ht:Tk s st.t) (h:callUndo s x st=.ok (y,st')):Good0 s st st':=by
 unfold callUndo at h
 split at h
 ·rename_i ho
  have g1:=good_on ht ho
  cases h1:kind s 119 (nx s st) with
  | error p=>rw[h1] at h;cases h
  | ok st1=>rw[h1] at h;cases h;exact (g1.trans (kind_good g1.tk (by decide) (by decide) h1)).zero
 ·cases h;exact Good0.refl ht
theorem callTries_goes {s:ByteArray} {x:Sm} {st:Ps} {y:Sm} {st':Ps} (ht:Tk s st.t) (h:callTries s x st=.ok (y,st')):Good0 s st st':=by
 unfold callTries at h
 split at h
 ·rename_i ho
  have g1:=good_on ht ho
  cases h1:kind s 110 (nx s st) with
  | error p=>rw[h1] at h;cases h
  | ok st1=>rw[h1] at h;cases h;exact (g1.trans (kind_good g1.tk (by decide) (by decide) h1)).zero
 ·cases h;exact Good0.refl ht
theorem callArg_goes {s:ByteArray} {x:Sm} {st:Ps} {y:Sm} {st':Ps} (ht:Tk s st.t) (h:callArg s x st=.ok (y,st')):Good0 s st st':=by
 unfold callArg at h
 split at h
 ·cases h;exact Good0.refl ht
 ·cases h1:exprOf s st with
  | error p=>rw[h1] at h;cases h
  | ok r=>obtain ⟨e,st1⟩:=r;rw[h1] at h;cases h;exact (exprOf_goes s _ _ _ ht h1).zero
theorem call_goes (s:ByteArray):Goes s (call s):=by
 intro st x st' ht h
 unfold call at h
 cases h1:kind s 119 st with
 | error p=>rw[h1] at h;cases h
 | ok st1 =>
  rw[h1] at h;simp only at h
  have g1:=kind_good ht (by decide) (by decide) h1
  cases h2:need s ⟨#[40]⟩ st1 with
  | error p=>rw[h2] at h;cases h
  | ok st2 =>
   rw[h2] at h;simp only at h
   have g2:=g1.trans (need_good g1.tk h2)
   cases h3:callArg s { zeroS with op:=99,word:=txt s st.t,pl:=st.t.a,n:=1 } st2 with
   | error p=>rw[h3] at h;cases h
   | ok r3 =>
    obtain ⟨x3,st3⟩:=r3
    rw[h3] at h;simp only at h
    have g3:=g2.then0 (callArg_goes g2.tk h3)
    cases h4:need s ⟨#[41]⟩ st3 with
    | error p=>rw[h4] at h;cases h
    | ok st4 =>
     rw[h4] at h;simp only at h
     have g4:=g3.trans (need_good g3.tk h4)
     cases h5:callAs s x3 st4 with
     | error p=>rw[h5] at h;cases h
     | ok r5 =>
      obtain ⟨x5,st5⟩:=r5
      rw[h5] at h;simp only at h
      have g5:=g4.then0 (callAs_goes g4.tk h5)
      cases h6:callUndo s x5 st5 with
      | error p=>rw[h6] at h;cases h
      | ok r6 =>
       obtain ⟨x6,st6⟩:=r6
       rw[h6] at h;simp only at h
       have g6:=g5.then0 (callUndo_goes g5.tk h6)
       cases h7:callTries s x6 st6 with
       | error p=>rw[h7] at h;cases h
       | ok r7 =>
        obtain ⟨x7,st7⟩:=r7
        rw[h7] at h;simp only at h
        have g7:=g6.then0 (callTries_goes g6.tk h7)
        cases h8:need s ⟨#[59]⟩ st7 with
        | error p=>rw[h8] at h;cases h
        | ok st8=>rw[h8] at h;cases h;exact g7.trans (need_good g7.tk h8)
theorem ifS_goes {s:ByteArray} {g:Ps→Except Nat (Sm×Ps)} (hg:Goes s g):Goes s (ifS s g):=by
 intro st x st' ht h
 unfold ifS at h
 cases h1:exprOf s st with
 | error p=>rw[h1] at h;cases h
 | ok r =>
  obtain ⟨e,st1⟩:=r
  rw[h1] at h;simp only at h
  have g1:=exprOf_goes s _ _ _ ht h1
  cases h2:block s g st1 with
  | error p=>rw[h2] at h;cases h
  | ok r =>
   obtain ⟨l,st2⟩:=r
   rw[h2] at h;simp only at h
   have g2:=g1.trans (block_goes hg _ _ _ g1.tk h2)
   split at h
   ·rename_i ho
    have g3:=g2.trans (good_on g2.tk ho)
    cases h4:block s g (nx s st2) with
    | error p=>rw[h4] at h;cases h
    | ok r=>obtain ⟨m,st3⟩:=r;rw[h4] at h;cases h;exact g3.trans (block_goes hg _ _ _ g3.tk h4)
   ·cases h;exact g2
theorem tryS_goes {s:ByteArray} {g:Ps→Except Nat (Sm×Ps)} (hg:Goes s g):Goes s (tryS s g):=by
 intro st x st' ht h
 unfold tryS at h
 cases h1:block s g st with
 | error p=>rw[h1] at h;cases h
 | ok r =>
  obtain ⟨l,st1⟩:=r
  rw[h1] at h;simp only at h
  have g1:=block_goes hg _ _ _ ht h1
  cases h2:need s ⟨#[101,108,115,101]⟩ st1 with
  | error p=>rw[h2] at h;cases h
  | ok st2 =>
   rw[h2] at h;simp only at h
   have g2:=g1.trans (need_good g1.tk h2)
   cases h3:block s g st2 with
   | error p=>rw[h3] at h;cases h
   | ok r=>obtain ⟨m,st3⟩:=r;rw[h3] at h;cases h;exact g2.trans (block_goes hg _ _ _ g2.tk h3)
theorem repeatS_goes {s:ByteArray} {g:Ps→Except Nat (Sm×Ps)} (hg:Goes s g):Goes s (repeatS s g):=by
 intro st x st' ht h
 unfold repeatS at h
 cases h1:kind s 110 st with
 | error p=>rw[h1] at h;cases h
 | ok st1 =>
  rw[h1] at h;simp only at h
  have g1:=kind_good ht (by decide) (by decide) h1
  cases h2:block s g st1 with
  | error p=>rw[h2] at h;cases h
  | ok r=>obtain ⟨m,st3⟩:=r;rw[h2] at h;cases h;exact g1.trans (block_goes hg _ _ _ g1.tk h2)
theorem failS_goes (s:ByteArray):Goes s (failS s):=by
 intro st x st' ht h
 unfold failS at h
 cases h1:need s ⟨#[102,97,105,108]⟩ st with
 | error p=>rw[h1] at h;cases h
 | ok st1 =>
  rw[h1] at h;simp only at h
  have g1:=need_good ht h1
  cases h2:need s ⟨#[59]⟩ st1 with
  | error p=>rw[h2] at h;cases h
  | ok st2=>rw[h2] at h;cases h;exact g1.trans (need_good g1.tk h2)
theorem stmt_goes (s:ByteArray) (n:Nat):Goes s (stmt s n):=by
 induction n with
 | zero=>intro st x st' _ h;simp[stmt] at h
 | succ n ih =>
  intro st x st' ht h
  rw[stmt] at h
  split at h
  ·rename_i ho;have g1:=good_on ht ho;exact g1.trans (letS_goes s _ _ _ g1.tk h)
  ·split at h
   ·rename_i ho;have g1:=good_on ht ho;exact g1.trans (call_goes s _ _ _ g1.tk h)
   ·split at h
    ·rename_i ho;have g1:=good_on ht ho;exact g1.trans (ifS_goes ih _ _ _ g1.tk h)
    ·split at h
     ·rename_i ho;have g1:=good_on ht ho;exact g1.trans (tryS_goes ih _ _ _ g1.tk h)
     ·split at h
      ·rename_i ho;have g1:=good_on ht ho;exact g1.trans (repeatS_goes ih _ _ _ g1.tk h)
      ·exact failS_goes s _ _ _ ht h
end Px
open Go.RowKit
namespace Lg
def opIx (o:Nat):Nat:=if o=43 then 0 else if o=45 then 1 else if o=42 then 2 else if o=47 then 3 else if o=60 then 4 else if o=61 then 5 else 6
def XAt (w:World):Px.Ex→(Nat→Prop)→Value→Prop
 | ⟨op,n,word,_,own,none,none⟩,ok,v=>∃ q,ok q ∧
   ((op=110∧v=.iface 297 (Ref.ptr q)∧w.heap[q]?=some (.cells #[.int .i64 (n:Int),.int .i64 (own:Int)] 311)) ∨
    (op=119∧v=.iface 260 (Ref.ptr q)∧w.heap[q]?=some (.cells #[.string word,.int .i64 (own:Int)] 267)) ∨
    (op=116∧v=.iface 312 (Ref.ptr q)∧w.heap[q]?=some (.cells #[.bool (n == 1)] 314)))
 | ⟨op,_,_,_,own,some l,none⟩,ok,v=>op=33∧∃ q tl ql,ok q∧v=.iface 315 (Ref.ptr q)∧w.heap[q]?=some (.cells #[.iface tl (Ref.ptr ql),.int .i64 (own:Int)] 317)∧XAt w l ok (.iface tl (Ref.ptr ql))
 | ⟨op,_,_,_,own,some l,some r⟩,ok,v=>∃ q tl ql tr qr,ok q∧v=.iface 318 (Ref.ptr q)∧w.heap[q]?=some (.cells #[.int .i64 (opIx op:Int),.iface tl (Ref.ptr ql),.iface tr (Ref.ptr qr),.int .i64 (own:Int)] 321)∧XAt w l ok (.iface tl (Ref.ptr ql))∧XAt w r ok (.iface tr (Ref.ptr qr))
 | ⟨_,_,_,_,_,none,some _⟩,_,_=>False
theorem XAt.form {w:World} {x:Px.Ex} {ok:Nat→Prop} {v:Value} (h:XAt w x ok v):∃ t q,v=.iface t (Ref.ptr q):=by
 match x with
 | ⟨op,n,word,pl,own,none,none⟩ =>
  obtain ⟨q,h1,⟨h2,h3,h4⟩ | ⟨h2,h3,h4⟩ | ⟨h2,h3,h4⟩⟩:=h<;>exact ⟨_,q,h3⟩
 | ⟨op,n,word,pl,own,some l,none⟩=>obtain ⟨h0,q,tl,ql,h1,h2,h3⟩:=h;exact ⟨_,q,h2⟩
 | ⟨op,n,word,pl,own,some l,some r⟩=>obtain ⟨q,tl,ql,tr,qr,h1,h2,h3⟩:=h;exact ⟨_,q,h2⟩
 | ⟨_,_,_,_,_,none,some _⟩=>exact h.elim
theorem XAt.mono {w:World} {x:Px.Ex} {ok ok':Nat→Prop} {v:Value} (h:XAt w x ok v) (hk:∀ k,ok k→ok' k):XAt w x ok' v:=by
 match x with
 | ⟨op,n,word,pl,own,none,none⟩=>obtain ⟨q,h1,h2⟩:=h;exact ⟨q,hk _ h1,h2⟩
 | ⟨op,n,word,pl,own,some l,none⟩=>obtain ⟨h0,q,tl,ql,h1,h2,h3,h4⟩:=h;exact ⟨h0,q,tl,ql,hk _ h1,h2,h3,h4.mono hk⟩
 | ⟨op,n,word,pl,own,some l,some r⟩=>obtain ⟨q,tl,ql,tr,qr,h1,h2,h3,h4,h5⟩:=h;exact ⟨q,tl,ql,tr,qr,hk _ h1,h2,h3,h4.mono hk,h5.mono hk⟩
 | ⟨_,_,_,_,_,none,some _⟩=>exact h.elim
theorem XAt.keep {w w':World} {x:Px.Ex} {ok:Nat→Prop} {v:Value} (h:XAt w x ok v) (hk:∀ k,ok k→w'.heap[k]?=w.heap[k]?):XAt w' x ok v:=by
 match x with
 | ⟨op,n,word,pl,own,none,none⟩=>obtain ⟨q,h1,h2⟩:=h;exact ⟨q,h1,by rw[hk _ h1];exact h2⟩
 | ⟨op,n,word,pl,own,some l,none⟩=>obtain ⟨h0,q,tl,ql,h1,h2,h3,h4⟩:=h;exact ⟨h0,q,tl,ql,h1,h2,by rw[hk _ h1];exact h3,h4.keep hk⟩
 | ⟨op,n,word,pl,own,some l,some r⟩=>obtain ⟨q,tl,ql,tr,qr,h1,h2,h3,h4,h5⟩:=h;exact ⟨q,tl,ql,tr,qr,h1,h2,by rw[hk _ h1];exact h3,h4.keep hk,h5.keep hk⟩
 | ⟨_,_,_,_,_,none,some _⟩=>exact h.elim
theorem XAt.place {w:World} {x:Px.Ex} {ok:Nat→Prop} {v:Value} (h:XAt w x ok v) (a:Nat):XAt w { x with pl:=a } ok v:=by
 match x with
 | ⟨op,n,word,pl,own,none,none⟩=>exact h
 | ⟨op,n,word,pl,own,some l,none⟩=>exact h
 | ⟨op,n,word,pl,own,some l,some r⟩=>exact h
 | ⟨_,_,_,_,_,none,some _⟩=>exact h.elim
theorem XAt.kp {b:Nat} {w w1 w2:World} {x:Px.Ex} {v:Value} (h:XAt w1 x (Ref.In w w1) v) (hb:b < w.heap.size) (k:Kp b w1 w2):XAt w2 x (Ref.In w w2) v :=
 (h.keep fun i hi=>k.block i hi.2 (by have:=hi.1;omega)).mono fun i hi=>⟨hi.1,Nat.lt_of_lt_of_le hi.2 k.size⟩
theorem XAt.pair {w wr w3:World} {x y:Px.Ex} {tl ql tr qr o pl own:Nat} {b:Nat} (hb:b < w.heap.size) (hx:XAt wr x (Ref.In w wr) (.iface tl (Ref.ptr ql))) (k:Kp b wr w3) (h1:Kp b w wr) (hy:XAt w3 y (Ref.In wr w3) (.iface tr (Ref.ptr qr))) :
  XAt (w3.alloc (.cells #[.int .i64 (opIx o:Int),.iface tl (Ref.ptr ql),.iface tr (Ref.ptr qr),.int .i64 (own:Int)] 321)) ⟨o,0,Px.nowt,pl,own,some x,some y⟩ (Ref.In w (w3.alloc (.cells #[.int .i64 (opIx o:Int),.iface tl (Ref.ptr ql),.iface tr (Ref.ptr qr),.int .i64 (own:Int)] 321))) (.iface 318 (Ref.ptr w3.heap.size)):=by
 have s1:=h1.size
 have s2:=k.size
 refine ⟨w3.heap.size,tl,ql,tr,qr,⟨by omega,by simp⟩,rfl,new1,?_,?_⟩
 ·exact (hx.kp hb k).kp hb ((Kp.refl b w3).alloc _)
 ·exact ((hy.keep fun i hi=>Below.heap_alloc _ _ _ hi.2).mono fun i hi=>⟨by have:=hi.1;omega,by have:=hi.2;simp;omega⟩)
def rdM (s:ByteArray) (b:Nat) (w:World):Nat :=
 match w.heap[b]? with
 | some (Obj.cells c _ _)=>(match c[3]? with
  | some (Value.int _ a)=>s.size+1 - a.toNat
  | _=>0)
 | _=>0
theorem rdM_eq {w:World} {b:Nat} {s:ByteArray} {st:Px.Ps} {eT eN:Addr} (r:Rd w b s st eT eN):rdM s b w=s.size+1 - st.t.a:=by
 obtain ⟨td,ra,_⟩:=r.mem
 simp[rdM,ra.h]
theorem onB_63 {s:ByteArray} {t:Px.Tok} (h:t.k=63) (x:ByteArray):Px.onB s t x=false:=by
 unfold Px.onB;rw[h];rfl
theorem fin_cases {α:Type} {r:Except Nat (α×Px.Ps)} {p:Nat} (h:fin r=.error p):r=.error p∨∃ x st,r=.ok (x,st)∧st.t.k=63∧p=st.t.a:=by
 cases r with
 | error q=>left;exact h
 | ok y =>
  obtain ⟨x,st⟩:=y
  obtain ⟨h1,h2⟩:=fin_ok_k h
  exact Or.inr ⟨x,st,rfl,h1,h2⟩
theorem fin_63 {α:Type} (x:α) {st:Px.Ps} (h:st.t.k=63):fin (.ok (x,st))=.error st.t.a:=by
 unfold fin;simp only;rw[if_pos h]
def Late {α:Type} (g:Px.Ps→Except Nat (α×Px.Ps)):Prop:=∀ st,st.t.k=63→fin (g st)=.error st.t.a
theorem chain_late (s:ByteArray) (g:Px.Ps→Except Nat (Px.Ex×Px.Ps)) (a b:UInt8) (m pl:Nat) (e:Px.Ex) (st:Px.Ps) (h:st.t.k=63):fin (Px.chain s g a b m pl e st)=.error st.t.a:=by
 cases m with
 | zero=>rfl
 | succ m=>rw[Px.chain,if_neg (by simp[onB_63 h]),if_neg (by simp[onB_63 h])];exact fin_63 _ h
theorem fin_chain {s:ByteArray} {g:Px.Ps→Except Nat (Px.Ex×Px.Ps)} {a b:UInt8} {m pl:Nat} {f:Px.Ex→Px.Ex} {r:Except Nat (Px.Ex×Px.Ps)} {p:Nat} (h:fin r=.error p) :
  fin (match r with
   | .error p=>.error p
   | .ok (k,st')=>Px.chain s g a b m pl (f k) st')=.error p:=by
 rcases fin_cases h with rfl | ⟨x,st,rfl,h1,rfl⟩
 ·rfl
 ·exact chain_late s g a b m pl _ st h1
theorem row_late (s:ByteArray) {g:Px.Ps→Except Nat (Px.Ex×Px.Ps)} (hg:Late g) (a b:UInt8):Late (Px.row s g a b):=by
 intro st h
 have:=hg st h
 unfold Px.row
 exact fin_chain (f:=id) this
theorem sum_late (s:ByteArray) {g:Px.Ps→Except Nat (Px.Ex×Px.Ps)} (hg:Late g):Late (Px.sum s g):=row_late s (row_late s hg _ _) _ _
theorem cmp_63 {s:ByteArray} {t:Px.Tok} (h:t.k=63):Px.cmpOf s t=none:=by
 unfold Px.cmpOf;rw[onB_63 h,onB_63 h,onB_63 h];rfl
theorem expr_late (s:ByteArray) {g:Px.Ps→Except Nat (Px.Ex×Px.Ps)} (hg:Late g):Late (Px.expr s g):=by
 intro st h
 have:=sum_late s hg st h
 unfold Px.expr
 rcases fin_cases this with h1 | ⟨x,st1,h1,h2,h3⟩
 ·rw[h1];rfl
 ·rw[h1];simp only;rw[cmp_63 h2];simp only;rw[h3];exact fin_63 _ h2
theorem atom_late (s:ByteArray) (n:Nat):Late (Px.atom s n):=by
 intro st h
 cases n with
 | zero=>rfl
 | succ n =>
  rw[Px.atom,if_neg (by omega),if_neg (by omega),if_neg (by simp[onB_63 h]),if_neg (by simp[onB_63 h]),if_neg (by simp[onB_63 h]),if_neg (by simp[onB_63 h])]
  rfl
theorem exprOf_late (s:ByteArray):Late (Px.exprOf s):=expr_late s (atom_late s _)
open Go.RowKit
def XV (w:World):World→Px.Ex→Value→Prop:=fun w' x v=>XAt w' x (Ref.In w w') v
def PartX (b:Nat) (s:ByteArray) (n:Nat) (eT eN:Addr) (F:Nat) (g:Px.Ps→Except Nat (Px.Ex×Px.Ps)):Prop :=
 ∀ (st:Px.Ps) (w:World),Ref.Dom s n st→Rd w b s st eT eN→Calls Tryz.prog F #[.pointer (some ⟨b,0,none⟩)] w (Out b s eT eN w (g st) (XV w))
def ChRel (b:Nat) (s:ByteArray) (n:Nat) (eT eN:Addr) (g:Px.Ps→Except Nat (Px.Ex×Px.Ps)) (oa ob:UInt8) (pl:Nat) (R:Except Nat (Px.Ex×Px.Ps)) (w wr:World) (v:Value):Prop :=
 Kp b w wr∧∃ x st m,XAt wr x (Ref.In w wr) v∧Rd wr b s st eT eN∧Ref.Dom s n st∧Px.chain s g oa ob m pl x st=R∧s.size - st.t.a < m
theorem ch_some {s:ByteArray} {g:Px.Ps→Except Nat (Px.Ex×Px.Ps)} {oa ob:UInt8} {l:Int} (hop:∀ st:Px.Ps,opFrom s st.t l 7 0=if Px.onB s st.t ⟨#[oa]⟩=true then some (opIx oa.toNat) else if Px.onB s st.t ⟨#[ob]⟩=true then some (opIx ob.toNat) else none)
  {st:Px.Ps} {i m pl:Nat} {x:Px.Ex} (h:opFrom s st.t l 7 0=some i):st.t.k=107∧∃ o:Nat,i=opIx o∧Px.chain s g oa ob (m+1) pl x st=(match g (Px.nx s st) with
   | .error p=>.error p
   | .ok (k,st')=>Px.chain s g oa ob m pl ⟨o,0,Px.nowt,pl,st.t.a,some x,some k⟩ st'):=by
 rw[hop] at h
 split at h
 ·rename_i h1
  cases h
  refine ⟨Px.onB_k h1,oa.toNat,rfl,?_⟩
  rw[Px.chain,if_pos h1]
  cases g (Px.nx s st)<;>rfl
 ·split at h
  ·rename_i h1 h2
   cases h
   refine ⟨Px.onB_k h2,ob.toNat,rfl,?_⟩
   rw[Px.chain,if_neg h1,if_pos h2]
   cases g (Px.nx s st)<;>rfl
  ·cases h
theorem ch_none {s:ByteArray} {g:Px.Ps→Except Nat (Px.Ex×Px.Ps)} {oa ob:UInt8} {l:Int} (hop:∀ st:Px.Ps,opFrom s st.t l 7 0=if Px.onB s st.t ⟨#[oa]⟩=true then some (opIx oa.toNat) else if Px.onB s st.t ⟨#[ob]⟩=true then some (opIx ob.toNat) else none)
  {st:Px.Ps} {m pl:Nat} {x:Px.Ex} (h:opFrom s st.t l 7 0=none):Px.chain s g oa ob (m+1) pl x st=.ok (x,st):=by
 rw[hop] at h
 split at h
 ·cases h
 ·split at h
  ·cases h
  ·rename_i h1 h2
   rw[Px.chain,if_neg h1,if_neg h2]
theorem ch_step {b:Nat} {s:ByteArray} {n:Nat} {eT eN:Addr} {g:Px.Ps→Except Nat (Px.Ex×Px.Ps)} {oa ob:UInt8} {pl:Nat} {R:Except Nat (Px.Ex×Px.Ps)} {w wr w2 w3:World} {tl ql tr qr o m:Nat} {x y:Px.Ex} {st1 st':Px.Ps}
  (hb:b < w.heap.size) (hg:Px.Goes s g) (KR:Kp b w wr) (X:XAt wr x (Ref.In w wr) (.iface tl (Ref.ptr ql))) (D1:Ref.Dom s n st1) (hk:st1.t.k=107) (K2:Kp b wr w2) (K3:Kp b w2 w3) (hm:s.size - st1.t.a < m+1)
  (CH:(match g (Px.nx s st1) with
   | .error p=>.error p
   | .ok (k,st')=>Px.chain s g oa ob m pl ⟨o,0,Px.nowt,pl,st1.t.a,some x,some k⟩ st')=R) (hr:g (Px.nx s st1)=.ok (y,st')) (Y:XAt w3 y (Ref.In w2 w3) (.iface tr (Ref.ptr qr))) (R3:Rd w3 b s st' eT eN) :
  ChRel b s n eT eN g oa ob pl R w (w3.alloc (.cells #[.int .i64 (opIx o:Int),.iface tl (Ref.ptr ql),.iface tr (Ref.ptr qr),.int .i64 (st1.t.a:Int)] 321)) (.iface 318 (Ref.ptr w3.heap.size)) ∧
   rdM s b (w3.alloc (.cells #[.int .i64 (opIx o:Int),.iface tl (Ref.ptr ql),.iface tr (Ref.ptr qr),.int .i64 (st1.t.a:Int)] 321)) < s.size+1 - st1.t.a:=by
 have g0:Px.Good s st1 (Px.nx s st1):=Px.good_nx D1.tk (by omega) (by omega)
 have g1:=g0.trans (hg _ _ _ g0.tk hr)
 have g2:=g1.lt
 have g3:=g1.tk.ab
 have g4:=g1.tk.le
 have z2:=K2.size
 have Y':XAt w3 y (Ref.In wr w3) (.iface tr (Ref.ptr qr)):=Y.mono fun i hi=>⟨by have:=hi.1;omega,hi.2⟩
 rw[hr] at CH
 refine ⟨⟨((KR.trans K2).trans K3).alloc _,_,st',m,XAt.pair hb X (K2.trans K3) KR Y',R3.alloc _,D1.good g1,CH,by omega⟩,?_⟩
 rw[rdM_eq (R3.alloc _)]
 omega
set_option maxRecDepth 100000 in
set_option maxHeartbeats 4000000 in
theorem chain_term (b:Nat) (s:ByteArray) (n:Nat) (eT eN:Addr) (g:Px.Ps→Except Nat (Px.Ex×Px.Ps)) (hp:PartX b s n eT eN 216 g) (hg:Px.Goes s g) (hl:Late g) (hs:s.size≤maxLen) (st:Px.Ps) (w:World) (hD:Ref.Dom s n st) (r:Rd w b s st eT eN) :
  Calls Tryz.prog 214 #[.pointer (some ⟨b,0,none⟩),.int .i64 2,.func (.func 216) #[.pointer (some ⟨b,0,none⟩)] #[]] w (Out b s eT eN w (Px.row s g 42 47 st) (XV w)):=by
 have hb:=r.lt
 have R:Hid (Rd w b s st eT eN∧Ref.Dom s n st):=⟨r,hD⟩
 have HP:Hid (_):=hp
 have HG:Hid (Px.Goes s g∧Late g):=⟨hg,hl⟩
 have HOP:Hid (∀ st:Px.Ps,opFrom s st.t 2 7 0=if Px.onB s st.t ⟨#[42]⟩=true then some (opIx (42:UInt8).toNat) else if Px.onB s st.t ⟨#[47]⟩=true then some (opIx (47:UInt8).toNat) else none):=fun st=>op_term s st
 clear r hp hD hg hl
 go_enter Tryz.func214,Tryz.ntmps214
 go_wp2_with fail
 refine (HP.out st _ R.out.2 R.out.1).mono ?_
 rintro e w1 ⟨k1,⟨x,st1,v,he,rfl,hv,r1⟩ | ⟨p,hp,ht⟩⟩
 ·have hrow:Px.row s g 42 47 st=Px.chain s g 42 47 (s.size+1) st.t.a x st1:=by unfold Px.row;rw[he]
  generalize hRR:Px.row s g 42 47 st=RR at *
  have D1:=R.out.2.good (HG.out.1 _ _ _ R.out.1.tk he)
  have HS:Hid (ChRel b s n eT eN g 42 47 st.t.a RR w w1 v):=⟨k1,x,st1,s.size+1,hv,r1,D1,hrow.symm,by omega⟩
  clear k1 hv r1 D1 hrow he hRR
  go_wp2_with fail
  go_loopw [7] (fun v wr=>Hid (ChRel b s n eT eN g 42 47 st.t.a RR w wr v)) (fun _ wr=>rdM s b wr)
  case atStart=>exact HS.out
  case round =>
   obtain ⟨kr,x,st1,m,hx,r1,D1,CH,hm⟩:=hrel.out
   clear hrel
   obtain ⟨tl,ql,rfl⟩:=hx.form
   unfold Ref.ptr at hx ⊢
   obtain ⟨m,rfl⟩:∃ m',m=m'+1:=⟨m - 1,by omega⟩
   have KR:Hid (Kp b w wr∧XAt wr x (Ref.In w wr) (.iface tl (.pointer (some ⟨ql,0,none⟩)))∧Rd wr b s st1 eT eN∧Ref.Dom s n st1∧Px.chain s g 42 47 (m+1) st.t.a x st1=RR):=⟨kr,hx,r1,D1,CH⟩
   clear kr hx r1 D1 CH
   go_wp2_with fail
   refine (operator_any b s 2 st1 eT eN _ KR.out.2.2.1 hs).mono ?_
   rintro e w2 ⟨k2,⟨o,st2,v,he,rfl,rfl,r2⟩ | ⟨p,hp,ht⟩⟩
   ·cases hf:opFrom s st1.t 2 7 0 with
    | none =>
     have he':opU s 2 st1=.ok (none,st1):=by unfold opU;rw[hf]
     rw[he'] at he
     cases he
     have hR:Hid (RR=.ok (x,st1)):=KR.out.2.2.2.2.symm.trans (ch_none HOP.out hf)
     have R2:Hid (Kp b wr w2∧Rd w2 b s st1 eT eN):=⟨k2,r2⟩
     clear k2 r2 he' hf
     go_wp2_with fail
     go_ret
     refine ⟨KR.out.1.trans R2.out.1,Or.inl ⟨x,st1,_,hR.out,rfl,?_,R2.out.2⟩⟩
     exact XAt.kp KR.out.2.1 hb R2.out.1
    | some i =>
     have he':opU s 2 st1=.ok (some i,Px.nx s st1):=by unfold opU;rw[hf]
     rw[he'] at he
     cases he
     obtain ⟨hk,o,rfl,hch⟩:=ch_some (g:=g) (m:=m) (pl:=st.t.a) (x:=x) HOP.out hf
     have HC:Hid (_∧_):=⟨hk,hch.symm.trans KR.out.2.2.2.2⟩
     have R2:Hid (Kp b wr w2∧Rd w2 b s (Px.nx s st1) eT eN):=⟨k2,r2⟩
     have D2:Hid (Ref.Dom s n (Px.nx s st1)):=KR.out.2.2.2.1.good (Px.good_nx KR.out.2.2.1.tk (by omega) (by omega))
     clear k2 r2 he' hf hk hch
     go_wp2_with fail
     refine (HP.out (Px.nx s st1) _ D2.out R2.out.2).mono ?_
     rintro e w3 ⟨k3,⟨y,st3,v,hy,rfl,hv,r3⟩ | ⟨p,hp,ht⟩⟩
     ·obtain ⟨tr,qr,rfl⟩:=XAt.form hv
      have M:=rdM_eq KR.out.2.2.1
      have ST:Hid (_∧_):=ch_step hb HG.out.1 KR.out.1 KR.out.2.1 KR.out.2.2.2.1 HC.out.1 R2.out.1 k3 hm HC.out.2 hy hv r3
      rw[← M] at ST
      clear k3 hy hv r3 M
      unfold Ref.ptr at ST ⊢
      go_wp2_with fail
      exact ST.out
     ·obtain ⟨c,rfl⟩:=ht.form
      exact ⟨rfl,(KR.out.1.trans R2.out.1).trans k3,Or.inr ⟨p,by rw[← HC.out.2];exact fin_chain hp,ht.low (KR.out.1.trans R2.out.1).size⟩⟩
   ·obtain ⟨c,rfl⟩:=ht.form
    have hfin:fin RR=.error p:=by
     cases hf:opFrom s st1.t 2 7 0 with
     | none =>
      have he':opU s 2 st1=.ok (none,st1):=by unfold opU;rw[hf]
      rw[he'] at hp
      exact absurd (fin_ok_k hp).1 KR.out.2.2.1.k63
     | some i =>
      have he':opU s 2 st1=.ok (some i,Px.nx s st1):=by unfold opU;rw[hf]
      rw[he'] at hp
      obtain ⟨h1,rfl⟩:=fin_ok_k hp
      obtain ⟨hk,o,rfl,hch⟩:=ch_some (g:=g) (m:=m) (pl:=st.t.a) (x:=x) HOP.out hf
      rw[← KR.out.2.2.2.2,hch]
      exact fin_chain (HG.out.2 _ h1)
    exact ⟨rfl,KR.out.1.trans k2,Or.inr ⟨p,hfin,ht.low KR.out.1.size⟩⟩
 ·obtain ⟨c,rfl⟩:=ht.form
  exact ⟨rfl,k1,Or.inr ⟨p,by unfold Px.row;exact fin_chain (f:=id) hp,ht⟩⟩
set_option maxRecDepth 100000 in
set_option maxHeartbeats 4000000 in
theorem chain_sum (b:Nat) (s:ByteArray) (n:Nat) (eT eN:Addr) (g:Px.Ps→Except Nat (Px.Ex×Px.Ps)) (hp:PartX b s n eT eN 215 g) (hg:Px.Goes s g) (hl:Late g) (hs:s.size≤maxLen) (st:Px.Ps) (w:World) (hD:Ref.Dom s n st) (r:Rd w b s st eT eN) :
  Calls Tryz.prog 214 #[.pointer (some ⟨b,0,none⟩),.int .i64 1,.func (.func 215) #[.pointer (some ⟨b,0,none⟩)] #[]] w (Out b s eT eN w (Px.row s g 43 45 st) (XV w)):=by
 have hb:=r.lt
 have R:Hid (Rd w b s st eT eN∧Ref.Dom s n st):=⟨r,hD⟩
 have HP:Hid (_):=hp
 have HG:Hid (Px.Goes s g∧Late g):=⟨hg,hl⟩
 have HOP:Hid (∀ st:Px.Ps,opFrom s st.t 1 7 0=if Px.onB s st.t ⟨#[43]⟩=true then some (opIx (43:UInt8).toNat) else if Px.onB s st.t ⟨#[45]⟩=true then some (opIx (45:UInt8).toNat) else none):=fun st=>op_sum s st
 clear r hp hD hg hl
 go_enter Tryz.func214,Tryz.ntmps214
 go_wp2_with fail
 refine (HP.out st _ R.out.2 R.out.1).mono ?_
 rintro e w1 ⟨k1,⟨x,st1,v,he,rfl,hv,r1⟩ | ⟨p,hp,ht⟩⟩
 ·have hrow:Px.row s g 43 45 st=Px.chain s g 43 45 (s.size+1) st.t.a x st1:=by unfold Px.row;rw[he]
  generalize hRR:Px.row s g 43 45 st=RR at *
  have D1:=R.out.2.good (HG.out.1 _ _ _ R.out.1.tk he)
  have HS:Hid (ChRel b s n eT eN g 43 45 st.t.a RR w w1 v):=⟨k1,x,st1,s.size+1,hv,r1,D1,hrow.symm,by omega⟩
  clear k1 hv r1 D1 hrow he hRR
  go_wp2_with fail
  go_loopw [7] (fun v wr=>Hid (ChRel b s n eT eN g 43 45 st.t.a RR w wr v)) (fun _ wr=>rdM s b wr)
  case atStart=>exact HS.out
  case round =>
   obtain ⟨kr,x,st1,m,hx,r1,D1,CH,hm⟩:=hrel.out
   clear hrel
   obtain ⟨tl,ql,rfl⟩:=hx.form
   unfold Ref.ptr at hx ⊢
   obtain ⟨m,rfl⟩:∃ m',m=m'+1:=⟨m - 1,by omega⟩
   have KR:Hid (Kp b w wr∧XAt wr x (Ref.In w wr) (.iface tl (.pointer (some ⟨ql,0,none⟩)))∧Rd wr b s st1 eT eN∧Ref.Dom s n st1∧Px.chain s g 43 45 (m+1) st.t.a x st1=RR):=⟨kr,hx,r1,D1,CH⟩
   clear kr hx r1 D1 CH
   go_wp2_with fail
   refine (operator_any b s 1 st1 eT eN _ KR.out.2.2.1 hs).mono ?_
   rintro e w2 ⟨k2,⟨o,st2,v,he,rfl,rfl,r2⟩ | ⟨p,hp,ht⟩⟩
   ·cases hf:opFrom s st1.t 1 7 0 with
    | none =>
     have he':opU s 1 st1=.ok (none,st1):=by unfold opU;rw[hf]
     rw[he'] at he
     cases he
     have hR:Hid (RR=.ok (x,st1)):=KR.out.2.2.2.2.symm.trans (ch_none HOP.out hf)
     have R2:Hid (Kp b wr w2∧Rd w2 b s st1 eT eN):=⟨k2,r2⟩
     clear k2 r2 he' hf
     go_wp2_with fail
     go_ret
     refine ⟨KR.out.1.trans R2.out.1,Or.inl ⟨x,st1,_,hR.out,rfl,?_,R2.out.2⟩⟩
     exact XAt.kp KR.out.2.1 hb R2.out.1
    | some i =>
     have he':opU s 1 st1=.ok (some i,Px.nx s st1):=by unfold opU;rw[hf]
     rw[he'] at he
     cases he
     obtain ⟨hk,o,rfl,hch⟩:=ch_some (g:=g) (m:=m) (pl:=st.t.a) (x:=x) HOP.out hf
     have HC:Hid (_∧_):=⟨hk,hch.symm.trans KR.out.2.2.2.2⟩
     have R2:Hid (Kp b wr w2∧Rd w2 b s (Px.nx s st1) eT eN):=⟨k2,r2⟩
     have D2:Hid (Ref.Dom s n (Px.nx s st1)):=KR.out.2.2.2.1.good (Px.good_nx KR.out.2.2.1.tk (by omega) (by omega))
     clear k2 r2 he' hf hk hch
     go_wp2_with fail
     refine (HP.out (Px.nx s st1) _ D2.out R2.out.2).mono ?_
     rintro e w3 ⟨k3,⟨y,st3,v,hy,rfl,hv,r3⟩ | ⟨p,hp,ht⟩⟩
     ·obtain ⟨tr,qr,rfl⟩:=XAt.form hv
      have M:=rdM_eq KR.out.2.2.1
      have ST:Hid (_∧_):=ch_step hb HG.out.1 KR.out.1 KR.out.2.1 KR.out.2.2.2.1 HC.out.1 R2.out.1 k3 hm HC.out.2 hy hv r3
      rw[← M] at ST
      clear k3 hy hv r3 M
      unfold Ref.ptr at ST ⊢
      go_wp2_with fail
      exact ST.out
     ·obtain ⟨c,rfl⟩:=ht.form
      exact ⟨rfl,(KR.out.1.trans R2.out.1).trans k3,Or.inr ⟨p,by rw[← HC.out.2];exact fin_chain hp,ht.low (KR.out.1.trans R2.out.1).size⟩⟩
   ·obtain ⟨c,rfl⟩:=ht.form
    have hfin:fin RR=.error p:=by
     cases hf:opFrom s st1.t 1 7 0 with
     | none =>
      have he':opU s 1 st1=.ok (none,st1):=by unfold opU;rw[hf]
      rw[he'] at hp
      exact absurd (fin_ok_k hp).1 KR.out.2.2.1.k63
     | some i =>
      have he':opU s 1 st1=.ok (some i,Px.nx s st1):=by unfold opU;rw[hf]
      rw[he'] at hp
      obtain ⟨h1,rfl⟩:=fin_ok_k hp
      obtain ⟨hk,o,rfl,hch⟩:=ch_some (g:=g) (m:=m) (pl:=st.t.a) (x:=x) HOP.out hf
      rw[← KR.out.2.2.2.2,hch]
      exact fin_chain (HG.out.2 _ h1)
    exact ⟨rfl,KR.out.1.trans k2,Or.inr ⟨p,hfin,ht.low KR.out.1.size⟩⟩
 ·obtain ⟨c,rfl⟩:=ht.form
  exact ⟨rfl,k1,Or.inr ⟨p,by unfold Px.row;exact fin_chain (f:=id) hp,ht⟩⟩
theorem term_any (b:Nat) (s:ByteArray) (n:Nat) (eT eN:Addr) (g:Px.Ps→Except Nat (Px.Ex×Px.Ps)) (hp:PartX b s n eT eN 216 g) (hg:Px.Goes s g) (hl:Late g) (hs:s.size≤maxLen):PartX b s n eT eN 215 (Px.term s g):=by
 intro st w hD r
 have H:Hid (_∧_∧_):=⟨hp,hD,r⟩
 clear hp hD r
 go_enter Tryz.func215,Tryz.ntmps215
 go_wp2_with fail
 refine (chain_term b s n eT eN g H.out.1 hg hl hs st _ H.out.2.1 H.out.2.2).mono ?_
 rintro e w1 ⟨k1,⟨x,st1,v,he,rfl,hv,r1⟩ | ⟨p,hp,ht⟩⟩
 ·have H1:Hid (_∧_∧_∧_):=⟨k1,he,hv,r1⟩
  clear k1 he hv r1
  go_wp2_with fail
  go_ret
  exact ⟨H1.out.1,Or.inl ⟨x,st1,_,H1.out.2.1,rfl,H1.out.2.2.1,H1.out.2.2.2⟩⟩
 ·obtain ⟨c,rfl⟩:=ht.form
  exact ⟨rfl,k1,Or.inr ⟨p,hp,ht⟩⟩
theorem sum_any (b:Nat) (s:ByteArray) (n:Nat) (eT eN:Addr) (g:Px.Ps→Except Nat (Px.Ex×Px.Ps)) (hp:PartX b s n eT eN 216 g) (hg:Px.Goes s g) (hl:Late g) (hs:s.size≤maxLen):PartX b s n eT eN 211 (Px.sum s g):=by
 intro st w hD r
 have H:Hid (_∧_∧_):=⟨term_any b s n eT eN g hp hg hl hs,hD,r⟩
 clear hp hD r
 go_enter Tryz.func211,Tryz.ntmps211
 go_wp2_with fail
 refine (chain_sum b s n eT eN (Px.term s g) H.out.1 (Px.term_goes hg) (row_late s hl _ _) hs st _ H.out.2.1 H.out.2.2).mono ?_
 rintro e w1 ⟨k1,⟨x,st1,v,he,rfl,hv,r1⟩ | ⟨p,hp,ht⟩⟩
 ·have H1:Hid (_∧_∧_∧_):=⟨k1,he,hv,r1⟩
  clear k1 he hv r1
  go_wp2_with fail
  go_ret
  exact ⟨H1.out.1,Or.inl ⟨x,st1,_,H1.out.2.1,rfl,H1.out.2.2.1,H1.out.2.2.2⟩⟩
 ·obtain ⟨c,rfl⟩:=ht.form
  exact ⟨rfl,k1,Or.inr ⟨p,hp,ht⟩⟩
open Go.RowKit
theorem cmp_some {s:ByteArray} {st:Px.Ps} {i:Nat} (h:opFrom s st.t 0 7 0=some i):st.t.k=107∧∃ o,i=opIx o∧Px.cmpOf s st.t=some o:=by
 rw[op_cmp] at h
 unfold Px.cmpOf
 split at h
 ·rename_i h1;cases h;exact ⟨Px.onB_k h1,60,rfl,by rw[if_pos h1]⟩
 ·split at h
  ·rename_i h1 h2;cases h;exact ⟨Px.onB_k h2,61,rfl,by rw[if_neg h1,if_pos h2]⟩
  ·split at h
   ·rename_i h1 h2 h3;cases h;exact ⟨Px.onB_k h3,35,rfl,by rw[if_neg h1,if_neg h2,if_pos h3]⟩
   ·cases h
theorem cmp_none {s:ByteArray} {st:Px.Ps} (h:opFrom s st.t 0 7 0=none):Px.cmpOf s st.t=none:=by
 rw[op_cmp] at h
 unfold Px.cmpOf
 split at h
 ·cases h
 ·split at h
  ·cases h
  ·split at h
   ·cases h
   ·rename_i h1 h2 h3;rw[if_neg h1,if_neg h2,if_neg h3]
theorem opU_some {s:ByteArray} {l:Int} {st:Px.Ps} {i:Nat} (h:opFrom s st.t l 7 0=some i):opU s l st=.ok (some i,Px.nx s st):=by unfold opU;rw[h]
theorem opU_none {s:ByteArray} {l:Int} {st:Px.Ps} (h:opFrom s st.t l 7 0=none):opU s l st=.ok (none,st):=by unfold opU;rw[h]
set_option maxHeartbeats 2000000 in
theorem expr_any (b:Nat) (s:ByteArray) (n:Nat) (eT eN:Addr) (g:Px.Ps→Except Nat (Px.Ex×Px.Ps)) (hp:PartX b s n eT eN 216 g) (hg:Px.Goes s g) (hl:Late g) (hs:s.size≤maxLen):PartX b s n eT eN 196 (Px.expr s g):=by
 intro st w hD r
 have hb:=r.lt
 have HS:Hid (PartX b s n eT eN 211 (Px.sum s g)):=sum_any b s n eT eN g hp hg hl hs
 have H:Hid (Ref.Dom s n st∧Rd w b s st eT eN∧Px.Goes s (Px.sum s g)∧Late (Px.sum s g)):=⟨hD,r,Px.sum_goes hg,sum_late s hl⟩
 clear hp hD r hg hl
 go_enter Tryz.func196,Tryz.ntmps196
 go_wp2_with fail
 refine (HS.out st _ H.out.1 H.out.2.1).mono ?_
 rintro e w1 ⟨k1,⟨x,st1,v,he,rfl,hv,r1⟩ | ⟨p,hp,ht⟩⟩
 ·obtain ⟨tl,ql,rfl⟩:=XAt.form hv
  unfold Ref.ptr at hv ⊢
  have H1:Hid (Kp b w w1∧Px.sum s g st=.ok (x,st1)∧XAt w1 x (Ref.In w w1) (.iface tl (.pointer (some ⟨ql,0,none⟩)))∧Rd w1 b s st1 eT eN):=⟨k1,he,hv,r1⟩
  have G1:Hid (Px.Good s st st1):=H.out.2.2.1 _ _ _ H.out.2.1.tk he
  clear k1 he hv r1
  go_wp2_with fail
  refine (operator_any b s 0 st1 eT eN _ H1.out.2.2.2 hs).mono ?_
  rintro e w2 ⟨k2,⟨o,st2,v,he,rfl,rfl,r2⟩ | ⟨p,hp,ht⟩⟩
  ·cases hf:opFrom s st1.t 0 7 0 with
   | none =>
    rw[opU_none hf] at he
    cases he
    have E:Hid (Px.expr s g st=.ok (x,st1)):=by unfold Hid Px.expr;rw[H1.out.2.1];simp only;rw[cmp_none hf]
    have R2:Hid (Kp b w1 w2∧Rd w2 b s st1 eT eN):=⟨k2,r2⟩
    clear k2 r2 hf
    go_wp2_with fail
    go_ret
    exact ⟨H1.out.1.trans R2.out.1,Or.inl ⟨x,st1,_,E.out,rfl,XAt.kp H1.out.2.2.1 hb R2.out.1,R2.out.2⟩⟩
   | some i =>
    rw[opU_some hf] at he
    cases he
    obtain ⟨hk,o,rfl,hc⟩:=cmp_some hf
    have HC:Hid (st1.t.k=107∧Px.cmpOf s st1.t=some o):=⟨hk,hc⟩
    have R2:Hid (Kp b w1 w2∧Rd w2 b s (Px.nx s st1) eT eN):=⟨k2,r2⟩
    have D2:Hid (Ref.Dom s n (Px.nx s st1)):=H.out.1.good (G1.out.trans (Px.good_nx H1.out.2.2.2.tk (by omega) (by omega)))
    clear k2 r2 hf hk hc
    go_wp2_with fail
    refine (HS.out (Px.nx s st1) _ D2.out R2.out.2).mono ?_
    rintro e w3 ⟨k3,⟨y,st3,v,hy,rfl,hv,r3⟩ | ⟨p,hp,ht⟩⟩
    ·obtain ⟨tr,qr,rfl⟩:=XAt.form hv
     have E:Hid (Px.expr s g st=.ok (⟨o,0,Px.nowt,st.t.a,st1.t.a,some x,some y⟩,st3)):=by unfold Hid Px.expr;rw[H1.out.2.1];simp only;rw[HC.out.2];simp only;rw[hy]
     have z2:=R2.out.1.size
     have X3:Hid (_):=XAt.pair (pl:=st.t.a) (o:=o) (own:=st1.t.a) hb H1.out.2.2.1 (R2.out.1.trans k3) H1.out.1 (XAt.mono hv fun i hi=>⟨by have:=hi.1;omega,hi.2⟩)
     have K3:Hid (Kp b w w3∧Rd w3 b s st3 eT eN):=⟨(H1.out.1.trans R2.out.1).trans k3,r3⟩
     clear k3 hy hv r3
     unfold Ref.ptr at X3 ⊢
     go_wp2_with fail
     go_ret
     exact ⟨K3.out.1.alloc _,Or.inl ⟨_,_,_,E.out,rfl,X3.out,K3.out.2.alloc _⟩⟩
    ·obtain ⟨c,rfl⟩:=ht.form
     refine ⟨rfl,(H1.out.1.trans R2.out.1).trans k3,Or.inr ⟨p,?_,ht.low (H1.out.1.trans R2.out.1).size⟩⟩
     unfold Px.expr
     rw[H1.out.2.1];simp only;rw[HC.out.2];simp only
     rcases fin_cases hp with h1 | ⟨y,st3,h1,h2,rfl⟩
     ·rw[h1];rfl
     ·rw[h1];exact fin_63 _ h2
  ·obtain ⟨c,rfl⟩:=ht.form
   refine ⟨rfl,H1.out.1.trans k2,Or.inr ⟨p,?_,ht.low H1.out.1.size⟩⟩
   cases hf:opFrom s st1.t 0 7 0 with
   | none=>rw[opU_none hf] at hp;exact absurd (fin_ok_k hp).1 H1.out.2.2.2.k63
   | some i =>
    rw[opU_some hf] at hp
    obtain ⟨h1,rfl⟩:=fin_ok_k hp
    obtain ⟨hk,o,rfl,hc⟩:=cmp_some hf
    unfold Px.expr
    rw[H1.out.2.1];simp only;rw[hc];simp only
    rcases fin_cases (H.out.2.2.2 _ h1) with h2 | ⟨y,st3,h2,h3,h4⟩
    ·rw[h2];rfl
    ·rw[h2,h4];exact fin_63 _ h3
 ·obtain ⟨c,rfl⟩:=ht.form
  refine ⟨rfl,k1,Or.inr ⟨p,?_,ht⟩⟩
  unfold Px.expr
  rcases fin_cases hp with h1 | ⟨y,st3,h1,h2,rfl⟩
  ·rw[h1];rfl
  ·rw[h1];simp only;rw[cmp_63 h2];exact fin_63 _ h2
open Go.RowKit
theorem fin_err {α β:Type} {q p:Nat} (h:fin (.error q:Except Nat (α×Px.Ps))=.error p):fin (.error q:Except Nat (β×Px.Ps))=.error p:=by
 cases h;rfl
theorem kd_eq3 {k:Nat}:((kd k:Int) == 3)=(k == 110):=by
 have:=@kd_three k
 cases h:(k == 110)<;>rw[h] at this<;>simpa using this
theorem kd_eq2 {k:Nat}:((kd k:Int) == 2)=(k == 119):=by
 have:=@kd_two k
 cases h:(k == 119)<;>rw[h] at this<;>simpa using this
theorem dom_down {s:ByteArray} {n:Nat} {st st':Px.Ps} (h:Ref.Dom s (n+1) st) (tk:Px.Tk s st'.t) (lt:st.t.a < st'.t.a) (hn:st'.nest=st.nest∨st'.nest=st.nest+1):Ref.Dom s n st':=by
 have h1:=h.room
 have h2:=h.n0
 have h3:=h.n1
 have h4:=tk.ab
 have h5:=tk.le
 exact ⟨tk,by omega,by omega,by omega⟩
abbrev AtomX (b:Nat) (s:ByteArray) (eT eN:Addr) (n:Nat):Prop:=PartX b s n eT eN 216 (Px.atom s n)
theorem atom_num (b:Nat) (s:ByteArray) (eT eN:Addr) (n:Nat) (hs:s.size≤maxLen) (st:Px.Ps) (w:World) (r:Rd w b s st eT eN) (hk:st.t.k=110) :
  Calls Tryz.prog 216 #[.pointer (some ⟨b,0,none⟩)] w (Out b s eT eN w (Px.atom s (n+1) st) (XV w)):=by
 obtain ⟨td,c0,c1,c2,c3,c4,c5,f⟩:=r.cells
 have R:Hid (Rd w b s st eT eN):=r
 have t1:((kd st.t.k:Int) == 3)=true:=by rw[kd_eq3,hk];rfl
 have E:Hid (Px.atom s (n+1) st=.ok (Px.leaf 110 (Px.valOf (s.extract st.t.a st.t.b).toList) Px.nowt st.t.a,Px.nx s st)∧kindU s 110 st=.ok (st.t,Px.nx s st)):=⟨by rw[Px.atom,if_pos hk];rfl,by rw[kindU,if_pos hk]⟩
 clear r hk
 go_enter Tryz.func216,Tryz.ntmps216
 go_wp2_with fail
 refine (number_any b s st eT eN _ R.out hs).mono ?_
 rintro e w1 ⟨k1,⟨x,st1,v,he,rfl,⟨q,rfl,hv⟩,r1⟩ | ⟨p,hp,ht⟩⟩
 ·rw[E.out.2] at he
  cases he
  have H1:Hid (_∧_∧_):=⟨k1,hv,r1⟩
  clear k1 hv r1 c0 c1 c2 c3 c4 c5 f
  unfold Ref.ptr
  go_wp2_with fail
  go_ret
  exact ⟨H1.out.1,Or.inl ⟨_,_,_,E.out.1,rfl,⟨q,H1.out.2.1.1,Or.inl ⟨rfl,rfl,H1.out.2.1.2⟩⟩,H1.out.2.2⟩⟩
 ·obtain ⟨c,rfl⟩:=ht.form
  exact ⟨rfl,k1,Or.inr ⟨p,by rw[E.out.1];rw[E.out.2] at hp;exact fin_ok hp,ht⟩⟩
theorem atom_word (b:Nat) (s:ByteArray) (eT eN:Addr) (n:Nat) (hs:s.size≤maxLen) (st:Px.Ps) (w:World) (r:Rd w b s st eT eN) (hk:st.t.k=119) :
  Calls Tryz.prog 216 #[.pointer (some ⟨b,0,none⟩)] w (Out b s eT eN w (Px.atom s (n+1) st) (XV w)):=by
 obtain ⟨td,c0,c1,c2,c3,c4,c5,f⟩:=r.cells
 have R:Hid (Rd w b s st eT eN):=r
 have t1:((kd st.t.k:Int) == 3)=false:=by rw[kd_eq3,hk];rfl
 have t2:((kd st.t.k:Int) == 2)=true:=by rw[kd_eq2,hk];rfl
 have E:Hid (Px.atom s (n+1) st=.ok (Px.leaf 119 0 (s.extract st.t.a st.t.b) st.t.a,Px.nx s st)∧kindU s 119 st=.ok (st.t,Px.nx s st)):=⟨by rw[Px.atom,if_neg (by omega),if_pos hk];rfl,by rw[kindU,if_pos hk]⟩
 clear r hk
 go_enter Tryz.func216,Tryz.ntmps216
 go_wp2_with fail
 refine (variable_any b s st eT eN _ R.out hs).mono ?_
 rintro e w1 ⟨k1,⟨x,st1,v,he,rfl,⟨q,rfl,hv⟩,r1⟩ | ⟨p,hp,ht⟩⟩
 ·rw[E.out.2] at he
  cases he
  have H1:Hid (_∧_∧_):=⟨k1,hv,r1⟩
  clear k1 hv r1 c0 c1 c2 c3 c4 c5 f
  unfold Ref.ptr
  go_wp2_with fail
  go_ret
  exact ⟨H1.out.1,Or.inl ⟨_,_,_,E.out.1,rfl,⟨q,H1.out.2.1.1,Or.inr (Or.inl ⟨rfl,rfl,H1.out.2.1.2⟩)⟩,H1.out.2.2⟩⟩
 ·obtain ⟨c,rfl⟩:=ht.form
  exact ⟨rfl,k1,Or.inr ⟨p,by rw[E.out.1];rw[E.out.2] at hp;exact fin_ok hp,ht⟩⟩
theorem atom_true (b:Nat) (s:ByteArray) (eT eN:Addr) (n:Nat) (hs:s.size≤maxLen) (st:Px.Ps) (w:World) (r:Rd w b s st eT eN) (h1:Px.onB s st.t ⟨#[116,114,117,101]⟩=true) :
  Calls Tryz.prog 216 #[.pointer (some ⟨b,0,none⟩)] w (Out b s eT eN w (Px.atom s (n+1) st) (XV w)):=by
 obtain ⟨td,c0,c1,c2,c3,c4,c5,f⟩:=r.cells
 have R:Hid (Rd w b s st eT eN):=r
 have hk:=Px.onB_k h1
 have t1:((kd st.t.k:Int) == 3)=false:=by rw[kd_eq3,hk];rfl
 have t2:((kd st.t.k:Int) == 2)=false:=by rw[kd_eq2,hk];rfl
 have E:Hid (Px.atom s (n+1) st=.ok (Px.leaf 116 1 Px.nowt st.t.a,Px.nx s st)):=by unfold Hid;rw[Px.atom,if_neg (by omega),if_neg (by omega),if_pos h1]
 clear r hk
 go_enter Tryz.func216,Tryz.ntmps216
 go_wp2_with fail
 refine (take_yes b s _ st eT eN _ R.out hs h1).mono ?_
 rintro e w1 ⟨k1,⟨x,st1,v,he,rfl,rfl,r1⟩ | ⟨p,hp,ht⟩⟩
 ·cases he
  have H1:Hid (_∧_):=⟨k1,r1⟩
  have z:=k1.size
  clear k1 r1 c0 c1 c2 c3 c4 c5 f
  go_wp2_with fail
  go_ret
  exact ⟨H1.out.1.alloc _,Or.inl ⟨_,_,_,E.out,rfl,⟨w1.heap.size,⟨z,by simp⟩,Or.inr (Or.inr ⟨rfl,rfl,new1⟩)⟩,H1.out.2.alloc _⟩⟩
 ·obtain ⟨c,rfl⟩:=ht.form
  exact ⟨rfl,k1,Or.inr ⟨p,by rw[E.out];exact fin_ok hp,ht⟩⟩
theorem atom_false (b:Nat) (s:ByteArray) (eT eN:Addr) (n:Nat) (hs:s.size≤maxLen) (st:Px.Ps) (w:World) (r:Rd w b s st eT eN) (h1:Px.onB s st.t ⟨#[116,114,117,101]⟩=false) (h2:Px.onB s st.t ⟨#[102,97,108,115,101]⟩=true) :
  Calls Tryz.prog 216 #[.pointer (some ⟨b,0,none⟩)] w (Out b s eT eN w (Px.atom s (n+1) st) (XV w)):=by
 obtain ⟨td,c0,c1,c2,c3,c4,c5,f⟩:=r.cells
 have R:Hid (Rd w b s st eT eN):=r
 have hk:=Px.onB_k h2
 have t1:((kd st.t.k:Int) == 3)=false:=by rw[kd_eq3,hk];rfl
 have t2:((kd st.t.k:Int) == 2)=false:=by rw[kd_eq2,hk];rfl
 have E:Hid (Px.atom s (n+1) st=.ok (Px.leaf 116 0 Px.nowt st.t.a,Px.nx s st)):=by unfold Hid;rw[Px.atom,if_neg (by omega),if_neg (by omega),if_neg (by simp[h1]),if_pos h2]
 clear r hk
 go_enter Tryz.func216,Tryz.ntmps216
 go_wp2_with fail
 refine (take_no b s _ st eT eN _ R.out h1).mono ?_
 rintro e w1 ⟨rfl,rfl⟩
 go_wp2_with fail
 refine (take_yes b s _ st eT eN _ R.out hs h2).mono ?_
 rintro e w1 ⟨k1,⟨x,st1,v,he,rfl,rfl,r1⟩ | ⟨p,hp,ht⟩⟩
 ·cases he
  have H1:Hid (_∧_):=⟨k1,r1⟩
  have z:=k1.size
  clear k1 r1 c0 c1 c2 c3 c4 c5 f
  go_wp2_with fail
  go_ret
  exact ⟨H1.out.1.alloc _,Or.inl ⟨_,_,_,E.out,rfl,⟨w1.heap.size,⟨z,by simp⟩,Or.inr (Or.inr ⟨rfl,rfl,new1⟩)⟩,H1.out.2.alloc _⟩⟩
 ·obtain ⟨c,rfl⟩:=ht.form
  exact ⟨rfl,k1,Or.inr ⟨p,by rw[E.out];exact fin_ok hp,ht⟩⟩
theorem atom_not (b:Nat) (s:ByteArray) (eT eN:Addr) (n:Nat) (ih:AtomX b s eT eN n) (hs:s.size≤maxLen) (st:Px.Ps) (w:World) (hD:Ref.Dom s (n+1) st) (r:Rd w b s st eT eN) (h1:Px.onB s st.t ⟨#[116,114,117,101]⟩=false) (h2:Px.onB s st.t ⟨#[102,97,108,115,101]⟩=false) (h3:Px.onB s st.t ⟨#[110,111,116]⟩=true) :
  Calls Tryz.prog 216 #[.pointer (some ⟨b,0,none⟩)] w (Out b s eT eN w (Px.atom s (n+1) st) (XV w)):=by
 obtain ⟨td,c0,c1,c2,c3,c4,c5,f⟩:=r.cells
 have hb:=r.lt
 have R:Hid (Rd w b s st eT eN∧AtomX b s eT eN n):=⟨r,ih⟩
 have hk:=Px.onB_k h3
 have t1:((kd st.t.k:Int) == 3)=false:=by rw[kd_eq3,hk];rfl
 have t2:((kd st.t.k:Int) == 2)=false:=by rw[kd_eq2,hk];rfl
 have E:Hid (Px.atom s (n+1) st=match Px.atom s n (Px.nx s st) with
   | .error p=>.error p
   | .ok (k,st')=>.ok (⟨33,0,Px.nowt,st.t.a,st.t.a,some k,none⟩,st')):=by unfold Hid;rw[Px.atom,if_neg (by omega),if_neg (by omega),if_neg (by simp[h1]),if_neg (by simp[h2]),if_pos h3];cases Px.atom s n (Px.nx s st)<;>rfl
 have D1:Hid (Ref.Dom s n (Px.nx s st)):=dom_down hD (Px.good_on hD.tk h3).tk (Px.good_on hD.tk h3).lt (Or.inl rfl)
 clear r hk ih hD
 go_enter Tryz.func216,Tryz.ntmps216
 go_wp2_with fail
 refine (take_no b s _ st eT eN _ R.out.1 h1).mono ?_
 rintro e w1 ⟨rfl,rfl⟩
 go_wp2_with fail
 refine (take_no b s _ st eT eN _ R.out.1 h2).mono ?_
 rintro e w1 ⟨rfl,rfl⟩
 go_wp2_with fail
 refine (take_yes b s _ st eT eN _ R.out.1 hs h3).mono ?_
 rintro e w1 ⟨k1,⟨x,st1,v,he,rfl,rfl,r1⟩ | ⟨p,hp,ht⟩⟩
 ·cases he
  have H1:Hid (_∧_):=⟨k1,r1⟩
  clear k1 r1 c0 c1 c2 c3 c4 c5 f
  go_wp2_with fail
  refine (R.out.2 (Px.nx s st) _ D1.out H1.out.2).mono ?_
  rintro e w2 ⟨k2,⟨x,st2,v,he,rfl,hv,r2⟩ | ⟨p,hp,ht⟩⟩
  ·obtain ⟨tl,ql,rfl⟩:=XAt.form hv
   have E2:Hid (Px.atom s (n+1) st=.ok (⟨33,0,Px.nowt,st.t.a,st.t.a,some x,none⟩,st2)):=by unfold Hid;rw[E.out,he]
   have z1:=H1.out.1.size
   have z2:=k2.size
   have X2:Hid (XAt w2 x (Ref.In w1 w2) (.iface tl (Ref.ptr ql))∧Kp b w1 w2∧Rd w2 b s st2 eT eN):=⟨hv,k2,r2⟩
   clear he hv k2 r2
   unfold Ref.ptr at X2 ⊢
   go_wp2_with fail
   go_ret
   refine ⟨(H1.out.1.trans X2.out.2.1).alloc _,Or.inl ⟨_,_,_,E2.out,rfl,?_,X2.out.2.2.alloc _⟩⟩
   refine ⟨rfl,w2.heap.size,tl,ql,⟨by omega,by simp⟩,rfl,new1,?_⟩
   exact (X2.out.1.keep fun i hi=>Below.heap_alloc _ _ _ hi.2).mono fun i hi=>⟨by have:=hi.1;omega,by have:=hi.2;simp;omega⟩
  ·obtain ⟨c,rfl⟩:=ht.form
   refine ⟨rfl,H1.out.1.trans k2,Or.inr ⟨p,?_,ht.low H1.out.1.size⟩⟩
   rw[E.out]
   rcases fin_cases hp with h4 | ⟨y,st3,h4,h5,rfl⟩
   ·rw[h4];rfl
   ·rw[h4];exact fin_63 _ h5
 ·obtain ⟨c,rfl⟩:=ht.form
  refine ⟨rfl,k1,Or.inr ⟨p,?_,ht⟩⟩
  obtain ⟨h4,rfl⟩:=fin_ok_k hp
  rw[E.out]
  rcases fin_cases (atom_late s n _ h4) with h5 | ⟨y,st3,h5,h6,h7⟩
  ·rw[h5];rfl
  ·rw[h5,h7];exact fin_63 _ h6
def parX (s:ByteArray) (a:Nat) (r:Except Nat (Px.Ex×Px.Ps)):Except Nat (Px.Ex×Px.Ps) :=
 match r with
 | .error p=>.error p
 | .ok (e,st')=>if Px.onB s st'.t ⟨#[41]⟩ then .ok ({ e with pl:=a },Px.upp (Px.nx s st')) else .error st'.t.a
theorem parX_fin {s:ByteArray} {a p:Nat} {r:Except Nat (Px.Ex×Px.Ps)} (h:fin r=.error p):fin (parX s a r)=.error p:=by
 rcases fin_cases h with rfl | ⟨x,st,rfl,h1,rfl⟩
 ·rfl
 ·unfold parX;simp only;rw[if_neg (by simp[onB_63 h1])];rfl
theorem atom_par (b:Nat) (s:ByteArray) (eT eN:Addr) (n:Nat) (ih:PartX b s n eT eN 196 (Px.expr s (Px.atom s n))) (hs:s.size≤maxLen) (st:Px.Ps) (w:World) (hD:Ref.Dom s (n+1) st) (r:Rd w b s st eT eN) (h0:¬ st.t.k=110) (h0':¬ st.t.k=119) (h1:Px.onB s st.t ⟨#[116,114,117,101]⟩=false) (h2:Px.onB s st.t ⟨#[102,97,108,115,101]⟩=false) (h3:Px.onB s st.t ⟨#[110,111,116]⟩=false) :
  Calls Tryz.prog 216 #[.pointer (some ⟨b,0,none⟩)] w (Out b s eT eN w (Px.atom s (n+1) st) (XV w)):=by
 obtain ⟨td,c0,c1,c2,c3,c4,c5,f⟩:=r.cells
 have hb:=r.lt
 have R:Hid (Rd w b s st eT eN∧PartX b s n eT eN 196 (Px.expr s (Px.atom s n))):=⟨r,ih⟩
 have t1:((kd st.t.k:Int) == 3)=false:=by rw[kd_eq3];simpa using h0
 have t2:((kd st.t.k:Int) == 2)=false:=by rw[kd_eq2];simpa using h0'
 have E:Hid (Px.atom s (n+1) st=if Px.onB s st.t ⟨#[40]⟩=true then parX s st.t.a (Px.expr s (Px.atom s n) (Px.nx s (Px.dn st))) else .error st.t.a):=by
  unfold Hid;rw[Px.atom,if_neg h0,if_neg h0',if_neg (by simp[h1]),if_neg (by simp[h2]),if_neg (by simp[h3])]
  split
  ·unfold parX;cases Px.expr s (Px.atom s n) (Px.nx s (Px.dn st))<;>rfl
  ·rfl
 have HD:Hid (_):=hD
 have hn0:=hD.n0
 have hn1:st.nest≤1000000:=by have:=hD.n1;omega
 clear r h0 h0' ih hD
 go_enter Tryz.func216,Tryz.ntmps216
 go_wp2_with fail
 refine (take_no b s _ st eT eN _ R.out.1 h1).mono ?_
 rintro e w1 ⟨rfl,rfl⟩
 go_wp2_with fail
 refine (take_no b s _ st eT eN _ R.out.1 h2).mono ?_
 rintro e w1 ⟨rfl,rfl⟩
 go_wp2_with fail
 refine (take_no b s _ st eT eN _ R.out.1 h3).mono ?_
 rintro e w1 ⟨rfl,rfl⟩
 go_wp2_with fail
 refine (open_any b s _ st eT eN _ R.out.1 hs hn0 hn1).mono ?_
 rintro e w1 ⟨k1,⟨x,st1,v,he,rfl,rfl,r1⟩ | ⟨p,hp,ht⟩⟩
 ·have ho:Px.onB s st.t ⟨#[40]⟩=true∧st1=Px.nx s (Px.dn st):=by
   unfold openU at he
   split at he
   ·rename_i ho;cases he;exact ⟨ho,rfl⟩
   ·cases he
  obtain ⟨ho,rfl⟩:=ho
  have E1:Hid (Px.atom s (n+1) st=parX s st.t.a (Px.expr s (Px.atom s n) (Px.nx s (Px.dn st)))):=by unfold Hid;rw[E.out,if_pos ho]
  have D1:Hid (Ref.Dom s n (Px.nx s (Px.dn st))):=dom_down HD.out (Px.good_on HD.out.tk ho).tk (Px.good_on HD.out.tk ho).lt (Or.inr rfl)
  have H1:Hid (_∧_):=⟨k1,r1⟩
  clear k1 r1 c0 c1 c2 c3 c4 c5 f ho he
  go_wp2_with fail
  refine (R.out.2 _ _ D1.out H1.out.2).mono ?_
  rintro e w2 ⟨k2,⟨x,st2,v,he,rfl,hv,r2⟩ | ⟨p,hp,ht⟩⟩
  ·obtain ⟨tl,ql,rfl⟩:=XAt.form hv
   have gd:=Px.expr_goes (Px.atom_goes s n) _ _ _ D1.out.tk he
   have gn:st2.nest=st.nest+1:=gd.nest
   have X2:Hid (XAt w2 x (Ref.In w1 w2) (.iface tl (Ref.ptr ql))∧Kp b w1 w2∧Rd w2 b s st2 eT eN∧Px.expr s (Px.atom s n) (Px.nx s (Px.dn st))=.ok (x,st2)):=⟨hv,k2,r2,he⟩
   clear he hv k2 r2 gd
   unfold Ref.ptr at X2 ⊢
   go_wp2_with fail
   refine (shut_any b s _ st2 eT eN _ X2.out.2.2.1 hs (by omega) (by omega)).mono ?_
   rintro e w3 ⟨k3,⟨u,st3,v,he,rfl,rfl,r3⟩ | ⟨p,hp,ht⟩⟩
   ·have ho:Px.onB s st2.t ⟨#[41]⟩=true∧st3=Px.upp (Px.nx s st2):=by
     unfold shutU at he
     split at he
     ·rename_i ho;cases he;exact ⟨ho,rfl⟩
     ·cases he
    obtain ⟨ho,rfl⟩:=ho
    have E3:Hid (Px.atom s (n+1) st=.ok ({ x with pl:=st.t.a },Px.upp (Px.nx s st2))):=by unfold Hid;rw[E1.out,X2.out.2.2.2];unfold parX;simp only;rw[if_pos ho]
    have H3:Hid (_∧_):=⟨k3,r3⟩
    have z1:=H1.out.1.size
    clear k3 r3 ho he
    go_wp2_with fail
    go_ret
    have k12:=X2.out.2.1.trans H3.out.1
    refine ⟨H1.out.1.trans k12,Or.inl ⟨_,_,_,E3.out,rfl,?_,H3.out.2⟩⟩
    exact XAt.place ((XAt.kp X2.out.1 (by omega) H3.out.1).mono fun i hi=>⟨by have:=hi.1;omega,hi.2⟩) _
   ·obtain ⟨c,rfl⟩:=ht.form
    refine ⟨rfl,(H1.out.1.trans X2.out.2.1).trans k3,Or.inr ⟨p,?_,ht.low (H1.out.1.trans X2.out.2.1).size⟩⟩
    rw[E1.out,X2.out.2.2.2]
    unfold shutU at hp
    unfold parX
    simp only
    split at hp
    ·rename_i ho;rw[if_pos ho];exact fin_ok hp
    ·rename_i ho;rw[if_neg ho];exact fin_err hp
  ·obtain ⟨c,rfl⟩:=ht.form
   exact ⟨rfl,H1.out.1.trans k2,Or.inr ⟨p,by rw[E1.out];exact parX_fin hp,ht.low H1.out.1.size⟩⟩
 ·obtain ⟨c,rfl⟩:=ht.form
  refine ⟨rfl,k1,Or.inr ⟨p,?_,ht⟩⟩
  rw[E.out]
  unfold openU at hp
  split at hp
  ·rename_i ho
   rw[if_pos ho]
   obtain ⟨h4,rfl⟩:=fin_ok_k hp
   exact parX_fin (expr_late s (atom_late s n) _ h4)
  ·rename_i ho
   rw[if_neg ho]
   exact fin_err hp
theorem atom_any (b:Nat) (s:ByteArray) (eT eN:Addr) (hs:s.size≤maxLen) (n:Nat):AtomX b s eT eN n:=by
 induction n with
 | zero=>intro st w hD r;have:=hD.room;omega
 | succ n ih =>
  intro st w hD r
  by_cases h0:st.t.k=110
  ·exact atom_num b s eT eN n hs st w r h0
  ·by_cases h0':st.t.k=119
   ·exact atom_word b s eT eN n hs st w r h0'
   ·cases h1:Px.onB s st.t ⟨#[116,114,117,101]⟩
    ·cases h2:Px.onB s st.t ⟨#[102,97,108,115,101]⟩
     ·cases h3:Px.onB s st.t ⟨#[110,111,116]⟩
      ·exact atom_par b s eT eN n (expr_any b s n eT eN _ ih (Px.atom_goes s n) (atom_late s n) hs) hs st w hD r h0 h0' h1 h2 h3
      ·exact atom_not b s eT eN n ih hs st w hD r h1 h2 h3
     ·exact atom_false b s eT eN n hs st w r h1 h2
    ·exact atom_true b s eT eN n hs st w r h1
theorem exprOf_any (b:Nat) (s:ByteArray) (eT eN:Addr) (hs:s.size≤maxLen) (st:Px.Ps) (w:World) (r:Rd w b s st eT eN) (hn0:0≤st.nest) (hn1:st.nest+(s.size+1:Nat)≤1000000) :
  Calls Tryz.prog 196 #[.pointer (some ⟨b,0,none⟩)] w (Out b s eT eN w (Px.exprOf s st) (XV w)) :=
 expr_any b s (s.size+1) eT eN _ (atom_any b s eT eN hs (s.size+1)) (Px.atom_goes s _) (atom_late s _) hs st w ⟨r.tk,by omega,hn0,hn1⟩ r
end Lg
open Go.RowKit
namespace Ref
structure DomS (s:ByteArray) (n:Nat) (st:Px.Ps):Prop where
 tk:Px.Tk s st.t
 room:s.size - st.t.a < n
 n0:0≤st.nest
 n1:st.nest+n+(s.size+1:Nat)≤1000000
theorem DomS.good0 {s:ByteArray} {n:Nat} {st st':Px.Ps} (h:DomS s n st) (g:Px.Good0 s st st'):DomS s n st' :=
 ⟨g.tk,by have:=h.room;have:=g.le;omega,by rw[g.nest];exact h.n0,by rw[g.nest];exact h.n1⟩
theorem DomS.good {s:ByteArray} {n:Nat} {st st':Px.Ps} (h:DomS s n st) (g:Px.Good s st st'):DomS s n st':=h.good0 g.zero
def StmtOk (b:Nat) (s:ByteArray) (n:Nat) (g:Px.Ps→Except Nat (Px.Sm×Px.Ps)):Prop :=
 ∀ (st:Px.Ps) (w:World),DomS s n st→PenAt w b s st.t (-1) st.nest st.deep →
  Calls Tryz.prog 68 #[.pointer (some ⟨b,0,none⟩)] w (StPost b s w (g st))
theorem infoStm:(Tryz.prog.info? 103).map (fun i=>(i.zero,i.size,i.bytes))=some (some (.pointer none),1,8):=by kernel_rfl
theorem kp_grown {b:Nat} {w w1 w2:World} {row:Option Nat} (h:Kp b w w1) (hg:w1.grownBy w2 row) (hr:∀ k,row=some k→w.heap.size≤k):Kp b w w2 :=
 ⟨hg.os.trans h.os,hg.tape.trans h.tape,hg.output.trans h.output,Nat.le_trans h.size hg.size,fun k hk hb=>(hg.block k (Nat.lt_of_lt_of_le hk h.size) (fun e=>by have:=hr k e.symm;omega)).trans (h.block k hk hb)⟩
theorem ls_step {b:Nat} {s:ByteArray} {n:Nat} {g:Px.Ps→Except Nat (Px.Sm×Px.Ps)} {stop:Px.Ps→Bool} {R:Except Nat (List Px.Sm×Px.Ps)} {w wr w1 w2:World} {v v':Value} {qs:List Nat} {q:Nat} {l:List Px.Sm} {st:Px.Ps} {m:Nat}
  (hb:b < w.heap.size) (hg:Px.Goes s g) (KR:Kp b w wr) (hown:wr.ownsRow w.heap.size 103 1 v qs.length (qs.map ptr)) (L:SmsAt wr l (fun k=>In w wr k∧some k≠v.ownBlock) qs) (hq:qs.length≤st.t.a) (hD:DomS s n st) (hm:s.size - st.t.a < m+1)
  (CH:(match g st with
   | .error p=>.error p
   | .ok (x,st')=>Px.stmts s g stop m (l++[x]) st')=R)
  (H1:StPost b s wr (g st) (.returned (ptr q)) w1)
  (hown':w2.ownsRow w.heap.size 103 1 v' (qs.length+1) (qs.map ptr++[ptr q])) (hgrow:(w1.alloc (.cells #[ptr q] 103)).grownBy w2 v.ownBlock) (hloc:v'.ownBlock=v.ownBlock∨v'.ownBlock=some (w1.heap.size+1)) :
  LsRel b s g stop (DomS s n) R w w2 v'∧penM s b w2 < s.size+1 - st.t.a:=by
 obtain ⟨k1,q',he,h1⟩:=H1
 obtain rfl:q=q':=by simpa [ptr] using he
 have hob:∀ k,v.ownBlock=some k→w.heap.size≤k∧k < wr.heap.size:=hown.lt
 have kw1:Kp b w w1:=KR.trans k1
 have kw2:Kp b w w2:=kp_grown (kw1.alloc _) hgrow (fun k hk=>(hob k hk).1)
 have s1:=KR.size
 have s2:=k1.size
 have s3:w1.heap.size+1≤w2.heap.size:=by have:=hgrow.size;simpa using this
 have hpen:∀ {t:Px.Tok} {bad nest deep:Int},PenAt w1 b s t bad nest deep→PenAt w2 b s t bad nest deep:=fun p=>⟨by
  have hl:=p.lt
  rw[hgrow.block b (by simp;omega) (fun e=>by have:=(hob b e.symm).1;omega),Below.heap_alloc _ _ _ hl];exact p.h⟩
 have hkeep:∀ k,k < w1.heap.size→some k≠v.ownBlock→w2.heap[k]?=w1.heap[k]?:=fun k hk hne=>by
  rw[hgrow.block k (by simp;omega) hne,Below.heap_alloc _ _ _ hk]
 have hlen:(qs++[q]).length=qs.length+1:=by simp
 have hmap:(qs++[q]).map ptr=qs.map ptr++[ptr q]:=by simp
 have hd1:=hD.tk.le
 have hd2:=hD.tk.ab
 have hdr:=hD.room
 refine (show (LsRel b s g stop (DomS s n) R w w2 v'∧penM s b w2 < s.size+1 - st.t.a) from ?_)
 cases hr:g st with
 | error p =>
  rw[hr] at CH h1
  obtain ⟨t,nest,deep,hp⟩:=h1
  refine ⟨⟨kw2,qs++[q],by rw[hlen,hmap];exact hown',Or.inr ⟨p,t,nest,deep,CH.symm,by rw[hlen];omega,hpen hp⟩⟩,?_⟩
  rw[penM_bad (hpen hp) (by omega)]
  omega
 | ok r =>
  obtain ⟨x,st'⟩:=r
  rw[hr] at CH h1
  obtain ⟨hx,hp⟩:=h1
  have g1:=hg _ _ _ hD.tk hr
  have g2:=g1.lt
  have g3:=g1.tk.ab
  have g4:=g1.tk.le
  have hnew:∀ k,k < w1.heap.size→some k≠v.ownBlock→some k≠v'.ownBlock:=by
   intro k hk hne
   rcases hloc with h | h
   ·rw[h];exact hne
   ·rw[h];simp;omega
  refine ⟨⟨kw2,qs++[q],by rw[hlen,hmap];exact hown',Or.inl ⟨l++[x],st',m,?_,by rw[hlen];omega,hpen hp,hD.good g1,CH,by omega⟩⟩,?_⟩
  ·refine SmsAt.snoc ?_ ?_
   ·have e1:SmsAt w1 l (fun k=>In w wr k∧some k≠v.ownBlock) qs:=L.keep fun k hk=>k1.block k hk.1.2 (by have:=hk.1.1;omega)
    have e2:SmsAt w2 l (fun k=>In w wr k∧some k≠v.ownBlock) qs:=e1.keep fun k hk=>hkeep k (by have:=hk.1.2;omega) hk.2
    exact e2.mono fun k hk=>⟨⟨hk.1.1,by have:=hk.1.2;omega⟩,hnew k (by have:=hk.1.2;omega) hk.2⟩
   ·have hne:∀ k,In wr w1 k→some k≠v.ownBlock:=fun k hk e=>by have:=(hob k e.symm).2;have:=hk.1;omega
    have e2:SmAt w2 x (In wr w1) q:=hx.keep fun k hk=>hkeep k hk.2 (hne k hk)
    exact e2.mono fun k hk=>⟨⟨by have:=hk.1;omega,by have:=hk.2;omega⟩,hnew k hk.2 (hne k hk)⟩
  ·rw[penM_ok (hpen hp)]
   omega
theorem own_sl {w:World} {base:Nat} {v:Value} {qs:List Nat} {ok:Nat→Prop} (h:w.ownsRow base 103 1 v qs.length (qs.map ptr)) (hk:∀ k,v.ownBlock=some k→ok k):SlAt w v qs ok:=by
 rcases h.2 with ⟨h1,h2⟩ | ⟨g,cap,cur,h1,h2,h3,h4,h5,h6,h7⟩
 ·exact Or.inl ⟨h1,List.length_eq_zero_iff.1 h2⟩
 ·refine Or.inr ⟨g,cap,cur,h1,hk g (by rw[h1];rfl),h3,h4,h5,by omega,?_⟩
  rw[Nat.mul_one] at h7
  exact h7
theorem own_shape {w:World} {base:Nat} {e:TypeId} {v:Value} {n:Nat} {xs:List Value} (h:w.ownsRow base e 1 v n xs):∃ a k c,v=.slice a k c:=by
 rcases h.2 with ⟨h1,_⟩ | ⟨g,cap,cur,h1,_⟩
 ·exact ⟨_,_,_,h1⟩
 ·exact ⟨_,_,_,h1⟩
theorem own_keep {w w':World} {base:Nat} {e:TypeId} {v:Value} {n:Nat} {xs:List Value} (h:w.ownsRow base e 1 v n xs) (hk:∀ k,v.ownBlock=some k→w'.heap[k]?=w.heap[k]?):w'.ownsRow base e 1 v n xs:=by
 refine ⟨h.1,?_⟩
 rcases h.2 with h1 | ⟨g,cap,cur,h1,h2,h3,h4⟩
 ·exact Or.inl h1
 ·exact Or.inr ⟨g,cap,cur,h1,h2,by rw[hk g (by rw[h1];rfl)];exact h3,h4⟩
set_option maxRecDepth 100000 in
set_option maxHeartbeats 2000000 in
theorem block_on (b:Nat) (s:ByteArray) (n:Nat) (g:Px.Ps→Except Nat (Px.Sm×Px.Ps)) (hst:StmtOk b s n g) (hg:Px.Goes s g) (hs3:s.size≤300) (st:Px.Ps) (w:World) (hD:DomS s (n+1) st) (p:PenAt w b s st.t (-1) st.nest st.deep) (ho:Px.onB s st.t ⟨#[123]⟩=true) :
  Calls Tryz.prog 132 #[.pointer (some ⟨b,0,none⟩)] w (BlPost b s w (Px.block s g st)):=by
 obtain ⟨i0,hi,hz0,hz1,hz2⟩:=info_parts infoStm
 have hs:s.size≤maxLen:=by unfold maxLen;omega
 have hb:=p.lt
 have HG:Hid (Px.Goes s g):=hg
 have HD:Hid (DomS s (n+1) st∧PenAt w b s st.t (-1) st.nest st.deep):=⟨hD,p⟩
 have hn0:=hD.n0
 have hn1:st.nest≤1000000:=by have:=hD.n1;omega
 have D1:Hid (DomS s n (Px.nx s (Px.dn st))):=by
  have g1:=Px.good_on hD.tk ho
  have h1:=hD.room
  have h2:=g1.lt
  have h3:=g1.tk.ab
  have h4:=g1.tk.le
  have h5:=hD.n1
  have h6:st.t.a < (Px.nx s (Px.dn st)).t.a:=h2
  have h7:(Px.nx s (Px.dn st)).t.a≤s.size:=by have:(Px.nx s (Px.dn st)).t=(Px.nx s st).t:=rfl;rw[this];omega
  refine ⟨g1.tk,by omega,?_,?_⟩
  ·show 0≤st.nest+1;omega
  ·show st.nest+1+n+(s.size+1:Nat)≤1000000;push_cast at h5 ⊢;omega
 have e1:Hid (Px.block s g st=match Px.stmts s g (fun st=>Px.onB s st.t ⟨#[125]⟩) (s.size+1) [] (Px.nx s (Px.dn st)) with
  | .error p=>.error p
  | .ok (l,st')=>.ok (l,Px.upp (Px.nx s st'))):=by
  unfold Hid;rw[Px.block,if_pos ho]
  cases Px.stmts s g (fun st=>Px.onB s st.t ⟨#[125]⟩) (s.size+1) [] (Px.nx s (Px.dn st))<;>rfl
 clear hD p hg
 go_enter Tryz.func132,Tryz.ntmps132
 go_wp2_with fail
 refine (on_ok b s _ st.t st.nest st.deep _ HD.out.2).mono ?_
 rintro e w' ⟨rfl,rfl⟩
 go_wp2_with fail
 refine (down_ok b s st.t st.nest st.deep _ HD.out.2 hn0 hn1).mono ?_
 rintro e w1 ⟨rfl,p1,k1⟩
 have P1:Hid (_∧_):=⟨p1,k1⟩
 clear p1 k1
 go_wp2_with fail
 refine (next_ok b s st.t (st.nest+1) _ _ P1.out.1 HD.out.1.tk.le hs).mono ?_
 rintro e w2 ⟨rfl,p2,k2⟩
 have P2:Hid (_∧_):=⟨p2,k2⟩
 clear p2 k2
 go_wp2_with fail
 generalize hR:Px.stmts s g (fun st=>Px.onB s st.t ⟨#[125]⟩) (s.size+1) [] (Px.nx s (Px.dn st))=R at e1
 have HR:=hR
 have HRR:Hid (Px.stmts s g (fun st=>Px.onB s st.t ⟨#[125]⟩) (s.size+1) [] (Px.nx s (Px.dn st))=R):=hR
 clear HR hR
 go_loopw [4] (fun v wr=>Hid (LsRel b s g (fun st=>Px.onB s st.t ⟨#[125]⟩) (DomS s n) R w wr v)) (fun _ wr=>penM s b wr)
 case atStart =>
  refine ⟨P1.out.2.trans P2.out.2,[],World.ownsRow_nil _ _ _ _,Or.inl ⟨[],Px.nx s (Px.dn st),s.size+1,SmsAt.nil_iff.2 rfl,by simp,P2.out.1,D1.out,HRR.out,by omega⟩⟩
 case round =>
  obtain ⟨kr,qs,hown,hcase⟩:=hrel.out
  clear hrel
  obtain ⟨va,vn,vc,rfl⟩:=own_shape hown
  have KR:Hid (Kp b w wr∧wr.ownsRow w.heap.size 103 1 (.slice va vn vc) qs.length (qs.map ptr)):=⟨kr,hown⟩
  clear kr hown
  rcases hcase with ⟨l,st1,m,hl,hq,p1,hD1,hch,hm⟩ | ⟨pe,t,nest,deep,hRe,hq,p1⟩
  ·obtain ⟨m,rfl⟩:∃ m',m=m'+1:=⟨m - 1,by omega⟩
   obtain ⟨c0,c1,c2,c3,c4,c5,c6,c7,f,hbr⟩:=p1.cells
   have L:Hid (SmsAt wr l (fun k=>In w wr k∧some k≠(Value.slice va vn vc).ownBlock) qs):=hl
   have PP:Hid (PenAt wr b s st1.t (-1) st1.nest st1.deep):=p1
   have DD:Hid (DomS s n st1):=hD1
   have CH:Hid (Px.stmts s g (fun st=>Px.onB s st.t ⟨#[125]⟩) (m+1) l st1=R):=hch
   clear hl p1 hD1 hch
   cases hc:Px.onB s st1.t ⟨#[125]⟩
   ·go_wp2_with (first | (go_at_call 176;refine (on_ok b s _ st1.t st1.nest st1.deep _ PP.out).mono ?_;rintro e w' ⟨rfl,rfl⟩))
    refine (hst st1 _ DD.out PP.out).mono ?_
    rintro e w3 ⟨k3,q,rfl,h3⟩
    have hown3:w3.ownsRow w.heap.size 103 1 (.slice va vn vc) qs.length (qs.map ptr):=own_keep KR.out.2 fun k hk=>k3.block k (KR.out.2.lt k hk).2 (by have:=(KR.out.2.lt k hk).1;omega)
    have hsz3:w.heap.size≤w3.heap.size:=by have:=k3.size;have:=KR.out.1.size;omega
    have hqb:qs.length≤300:=by have:=DD.out.tk.ab;have:=DD.out.tk.le;omega
    have H3:Hid (StPost b s wr (g st1) (.returned (ptr q)) w3):=⟨k3,q,rfl,h3⟩
    unfold ptr
    clear k3 h3 c0 c1 c2 c3 c4 c5 c6 c7 f
    go_wp2_with (first
     | (at_builtin;refine wpList_append_own_at _ rfl _ _ 60 rfl w.heap.size 103 i0 (.pointer none) 1 8 Tryz.underlying60 hi hz0 hz1 hz2 rfl (by decide) _ _ _ rfl (hown3.alloc _) ⟨w3.heap.size,0,none⟩ 1 1 [.pointer (some ⟨q,0,none⟩)] rfl rfl ?c1 ?c2 ?c3 ?c4 ?c5 ?_)
     | fail)
    case c1 =>
     intro j u hj
     match j,hj with
     | 0,hj=>simp at hj;subst hj;simp[Addr.add]
    case c2=>intro u hu;simp at hu;subst hu;rfl
    case c3=>unfold maxLen;omega
    case c4=>omega
    case c5=>simp;omega
    ·intro v' w4 hown' hgrow _ hloc
     obtain ⟨r1,r2⟩:=ls_step hb HG.out KR.out.1 KR.out.2 L.out hq DD.out hm (R:=R) (stop:=fun st=>Px.onB s st.t ⟨#[125]⟩) (by rw[← CH.out,Px.stmts,if_neg (by simp[hc])];cases g st1<;>rfl) H3.out hown' hgrow hloc
     have RR:Hid (_∧_):=⟨r1,r2⟩
     clear r1 r2 hown' hgrow hloc hown3
     go_wp2
     exact ⟨RR.out.1,by rw[penM_ok PP.out];exact RR.out.2⟩
   ·have hRok:Hid (R=.ok (l,st1)):=by unfold Hid;rw[← CH.out,Px.stmts,if_pos hc]
    go_wp2_with (first | (go_at_call 176;refine (on_ok b s _ st1.t st1.nest st1.deep _ PP.out).mono ?_;rintro e w' ⟨rfl,rfl⟩))
    refine (need_yes b s _ st1.t st1.nest st1.deep _ PP.out DD.out.tk.le hs hc).mono ?_
    rintro e w3 ⟨rfl,p3,k3⟩
    have P3:Hid (_∧_):=⟨p3,k3⟩
    clear p3 k3 c0 c1 c2 c3 c4 c5 c6 c7 f
    go_wp2_with fail
    refine (upU b s (.ok (Px.nx s st1)) _ ⟨P3.out.1,Px.nx_tk DD.out.tk⟩ ?hnest).mono ?_
    case hnest =>
     intro st0 h0
     cases h0
     have h1:=DD.out.n0
     have h2:=DD.out.n1
     show 0≤st1.nest∧st1.nest≤2000000
     omega
    rintro e w4 ⟨rfl,k4,p4⟩
    have P4:Hid (Kp b w3 w4∧PSt w4 b s (.ok (Px.upp (Px.nx s st1)))):=⟨k4,p4⟩
    clear k4 p4
    go_wp2_with fail
    go_ret
    have k34:Kp b wr w4:=P3.out.2.trans P4.out.1
    have z4:=k34.size
    have z1:=KR.out.1.size
    refine ⟨KR.out.1.trans k34,va,vn,vc,rfl,?_⟩
    rw[e1.out,hRok.out]
    refine ⟨qs,?_,?_,P4.out.2.1⟩
    ·refine own_sl (own_keep KR.out.2 fun k hk=>k34.block k (KR.out.2.lt k hk).2 (by have:=(KR.out.2.lt k hk).1;omega)) fun k hk=>?_
     have:=KR.out.2.lt k hk
     exact ⟨this.1,by omega⟩
    ·exact (L.out.keep fun k hk=>k34.block k hk.1.2 (by have:=hk.1.1;omega)).mono fun k hk=>⟨hk.1.1,by have:=hk.1.2;omega⟩
  ·obtain ⟨c0,c1,c2,c3,c4,c5,c6,c7,f,hbr⟩:=p1.cells
   have PP:Hid (R=.error pe∧PenAt wr b s t (pe:Int) nest deep):=⟨hRe,p1⟩
   have hpe:(0:Int)≤pe:=by omega
   clear p1 hRe
   go_wp2_with fail
   refine (need_bad b s _ t (pe:Int) nest deep _ PP.out.2 (by omega)).mono ?_
   rintro e w' ⟨rfl,rfl⟩
   go_wp2_with fail
   refine (up_ok b s t (pe:Int) nest deep _ PP.out.2).mono ?_
   rintro e w4 ⟨rfl,p4,k4⟩
   have P4:Hid (_∧_):=⟨p4,k4⟩
   clear k4 p4
   go_wp2_with fail
   go_ret
   refine ⟨KR.out.1.trans P4.out.2,va,vn,vc,rfl,?_⟩
   rw[e1.out,PP.out.1]
   exact ⟨_,_,_,P4.out.1⟩
theorem block_no (b:Nat) (s:ByteArray) (g:Px.Ps→Except Nat (Px.Sm×Px.Ps)) (st:Px.Ps) (w:World) (p:PenAt w b s st.t (-1) st.nest st.deep) (ho:Px.onB s st.t ⟨#[123]⟩=false) :
  Calls Tryz.prog 132 #[.pointer (some ⟨b,0,none⟩)] w (BlPost b s w (Px.block s g st)):=by
 have P0:Hid (PenAt w b s st.t (-1) st.nest st.deep):=p
 have e1:Hid (Px.block s g st=.error st.t.a):=by unfold Hid;rw[Px.block,if_neg (by simp[ho])]
 clear p
 go_enter Tryz.func132,Tryz.ntmps132
 go_wp2_with fail
 refine (on_ok b s _ st.t st.nest st.deep _ P0.out).mono ?_
 rintro e w' ⟨rfl,rfl⟩
 go_wp2_with fail
 refine (fail_ok b s st.t st.nest st.deep _ P0.out).mono ?_
 rintro e w1 ⟨rfl,p1,k1⟩
 have P1:Hid (_∧_):=⟨p1,k1⟩
 clear p1 k1
 go_wp2_with fail
 go_ret
 refine ⟨P1.out.2,none,0,0,rfl,?_⟩
 rw[e1.out]
 exact ⟨_,_,_,P1.out.1⟩
theorem block_bad (b:Nat) (s:ByteArray) (t:Px.Tok) (pe:Nat) (nest deep:Int) (w:World) (p:PenAt w b s t (pe:Int) nest deep) :
  Calls Tryz.prog 132 #[.pointer (some ⟨b,0,none⟩)] w (BlPost b s w (.error pe)):=by
 have P0:Hid (PenAt w b s t (pe:Int) nest deep):=p
 clear p
 go_enter Tryz.func132,Tryz.ntmps132
 go_wp2_with fail
 refine (on_bad b s _ t (pe:Int) nest deep _ P0.out (by omega)).mono ?_
 rintro e w' ⟨rfl,rfl⟩
 go_wp2_with fail
 refine (fail_bad b s t (pe:Int) nest deep _ P0.out (by omega)).mono ?_
 rintro e w' ⟨rfl,rfl⟩
 go_wp2_with fail
 go_ret
 exact ⟨Kp.refl _ _,none,0,0,rfl,_,_,_,P0.out⟩
theorem blockU (b:Nat) (s:ByteArray) (n:Nat) (g:Px.Ps→Except Nat (Px.Sm×Px.Ps)) (hst:StmtOk b s n g) (hg:Px.Goes s g) (hs3:s.size≤300) (r:Except Nat Px.Ps) (w:World) (p:PSt w b s r) (hD:∀ st,r=.ok st→DomS s (n+1) st) :
  Calls Tryz.prog 132 #[.pointer (some ⟨b,0,none⟩)] w (BlPost b s w (r.bind (Px.block s g))):=by
 cases r with
 | error pe=>obtain ⟨t,nest,deep,hp⟩:=p;exact block_bad b s t pe nest deep w hp
 | ok st =>
  cases ho:Px.onB s st.t ⟨#[123]⟩
  ·exact block_no b s g st w p.1 ho
  ·exact block_on b s n g hst hg hs3 st w (hD st rfl) p.1 ho
end Ref
end Go.Proofs.YtnhkpbmplefnaaaGreatDoor
