import Derived.Test.YtokkhhekekeokaaGreatDoorC16
import Derived.Test.YtokkhhekekeokaaGreatDoorC02
set_option maxRecDepth 100000
namespace Go.Proofs.YtokkhhekekeokaaGreatDoor
namespace Px
open Ref
variable {c:Lk}
theorem Q6 (h:V3 c)(e p:Nat):V3 (pF e p c):=by unfold V3;rw[MW];exact h
variable {F k p:Nat}
theorem X6 (h:V3 c){w:fq}(hk:K3 k):V3 (rY w p k c):=by
 unfold rY;split
 ·intro v hv;rcases bR.1 hv with h1 | h1
  ·exact h v h1
  ·rw[bq] at h1;rw[h1];exact hk
 ·split
  ·exact h
  ·exact Q6 h _ _
theorem MZ (h:V3 c)(x:Ex)(k:Nat):V3 (rZ x k c):=by
 unfold rZ;split
 ·exact FN h
 ·exact Q6 (FN h) _ _
theorem X7 (h:V3 c)(x:Option Ex):V3 (nD x c):=by
 cases x with
 | none=>exact h
 | some x=>exact MZ h x 105
theorem zyb (h:V3 c)(w:fq)(p:Nat):V3 (rM w p c):=by
 unfold rM;split
 ·exact h
 ·exact X6 h (ak rfl)
theorem Q7 (h:V3 c)(n p a b:Nat):V3 (countP n p a b c):=by
 unfold countP;split
 ·exact Q6 h _ _
 ·exact h
theorem Au (l:List Sm):∀ c,V3 c->V3 (jO l c):=by
 match l with
 | []=>intro c h;rw[GI];exact h
 | ⟨op,fD,pl,ex,gu,fZ,undo,n,gG,one,two⟩::rest =>
  intro c h;rw[GJ];refine Au rest _ ?_;unfold qV;simp only;split
  ·cases ex with
   | none=>exact h
   | some e=>exact X6 (FN h) (FP e c h)
  ·split
   ·exact Q7 (zyb (X7 h _) _ _) _ _ _ _
   ·split
    ·cases ex with
     | none=>exact h
     | some e=>exact Au two _ (Au one _ (MZ h e 98))
    ·split
     ·exact Au two _ (Au one _ h)
     ·split
      ·exact Au one _ (Q7 h _ _ _ _)
      ·exact h
theorem znd (x:Sm)(c:Lk)(h:V3 c):V3 (qV x c):=by
 have:=Au [x] c h
 rw[GJ,GI] at this;exact this
def E4 (c:Lk):Prop:=c.e=0\/c.e=4\/c.e=5\/c.e=6
theorem FW (h:E4 c){e:Nat}(he:e=4\/e=5\/e=6)(p:Nat):E4 (pF e p c):=by
 unfold pF;split
 ·exact ah he
 ·exact h
theorem Av (x:Ex):∀ c,E4 c->E4 (iP x c).2:=by
 match x with
 | ⟨op,n,fD,pl,own,none,_⟩ =>
  intro c h;simp only[iP,Bb];split
  ·exact h
  ·split
   ·exact h
   ·split
    ·exact FW h (by omega) _
    ·exact h
 | ⟨op,n,fD,pl,own,some l,none⟩ =>
  intro c h;simp only[iP,notP];split
  ·exact Av l c h
  ·exact FW (Av l c h) (by omega) _
 | ⟨op,n,fD,pl,own,some l,some r⟩ =>
  intro c h;simp only[iP,uF];split
  ·exact Av r _ (Av l c h)
  ·exact FW (Av r _ (Av l c h)) (by omega) _
theorem X8 (h:E4 c)(w:fq)(p k:Nat):E4 (rY w p k c):=by
 unfold rY;split
 ·exact h
 ·split
  ·exact h
  ·exact FW h (by omega) _
theorem X9 (h:E4 c)(x:Ex)(k:Nat):E4 (rZ x k c):=by
 unfold rZ;split
 ·exact Av x c h
 ·exact FW (Av x c h) (by omega) _
theorem zye (h:E4 c)(x:Option Ex):E4 (nD x c):=by
 cases x with
 | none=>exact h
 | some x=>exact X9 h x 105
theorem Jb (h:E4 c)(w:fq)(p:Nat):E4 (rM w p c):=by
 unfold rM;split
 ·exact h
 ·exact X8 h _ _ _
theorem Ya (h:E4 c)(n p a b:Nat):E4 (countP n p a b c):=by
 unfold countP;split
 ·exact FW h (by omega) _
 ·exact h
theorem DY (l:List Sm):∀ c,E4 c->E4 (jO l c):=by
 match l with
 | []=>intro c h;rw[GI];exact h
 | ⟨op,fD,pl,ex,gu,fZ,undo,n,gG,one,two⟩::rest =>
  intro c h;rw[GJ];refine DY rest _ ?_;unfold qV;simp only;split
  ·cases ex with
   | none=>exact h
   | some e=>exact X8 (Av e c h) _ _ _
  ·split
   ·exact Ya (Jb (zye h _) _ _) _ _ _ _
   ·split
    ·cases ex with
     | none=>exact h
     | some e=>exact DY two _ (DY one _ (X9 h e 98))
    ·split
     ·exact DY two _ (DY one _ h)
     ·split
      ·exact DY one _ (Ya h _ _ _ _)
      ·exact h
variable {s:fq}
theorem qsw {c:Nat}(hs:s.size<=300)(h:read s=.error (c,p)):c=2\/c=3:=by
 unfold read at h;rw[if_neg (by omega)] at h
 split at h
 ·cases h;exact ak rfl
 ·split at h
  ·cases h;exact ah rfl
  ·cases h
variable {l:List Sm}
theorem Q8 (h:read s=.ok l):check s=(if (jO l ⟨[],0,0⟩).e=0 then (0,0) else ((jO l ⟨[],0,0⟩).e,(jO l ⟨[],0,0⟩).pl)):=by
 unfold check;rw[h];simp only;rw[fS h]
theorem FX {r:Nat×Nat}(h:read s=.error r):check s=r:=by
 unfold check;rw[h]
theorem Q9 {t:Tok}(h:Tk s t)(hk:t.k=110):valOf (txt s t).toList<=9999:=by
 obtain ⟨h1,h2⟩:=OU h hk;have h3:=OL (txt s t).toList 0 (by
  intro c hc;rw[aN] at hc;obtain ⟨i,hi,rfl⟩:=dY hc
  have:=h2 i hi
  unfold kC at this;simp at this;have h5:((txt s t).data.toList[i]).toNat=((s.extract t.a t.b)[i]'hi).toNat:=rfl;omega)
 have h4:(txt s t).toList.length<=4:=by rw[aN];exact h1
 have h6:10 ^ (txt s t).toList.length<=10 ^ 4:=Nat.pow_le_pow_right (by decide) h4
 unfold valOf;omega
def lU:Ex->Nat
 | ⟨_,n,fD,_,_,none,_⟩=>fD.size+n+12
 | ⟨_,_,_,_,_,some l,none⟩=>lU l+12
 | ⟨_,_,_,_,_,some l,some r⟩=>lU l+lU r+12
def sP:Ex->Prop
 | ⟨op,n,fD,_,_,none,_⟩=>(op=119->0 < fD.size)/\n<=9999
 | ⟨_,_,_,_,_,some l,none⟩=>sP l
 | ⟨_,_,_,_,_,some l,some r⟩=>sP l/\sP r
theorem zez (x:Ex)(a:Nat):lU { x with pl:=a }=lU x:=by
 match x with
 | ⟨_,_,_,_,_,none,_⟩=>rfl
 | ⟨_,_,_,_,_,some _,none⟩=>rfl
 | ⟨_,_,_,_,_,some _,some _⟩=>rfl
theorem sP.fE {x:Ex}(h:sP x)(a:Nat):sP { x with pl:=a }:=by
 match x with
 | ⟨_,_,_,_,_,none,_⟩=>exact h
 | ⟨_,_,_,_,_,some _,none⟩=>exact h
 | ⟨_,_,_,_,_,some _,some _⟩=>exact h
def Sz (s:fq)(g:Ps->Except Nat (Ex×Ps)):Prop:=∀ st x st',Tk s st.t->g st=.ok (x,st')->sP x/\lU x+12000 * st.t.a<=12000 * st'.t.a
theorem zos {g:Ps->Except Nat (Ex×Ps)}(hg:Goes s g)(hs:Sz s g)(a b:UInt8)(n:Nat):∀ (pl lo:Nat) (e:Ex) (st:Ps) (x:Ex) (st':Ps),Tk s st.t->sP e->lU e+12000 * lo<=12000 * st.t.a->chain s g a b n pl e st=.ok (x,st')->sP x/\lU x+12000 * lo<=12000 * st'.t.a:=by
 induction n with
 | zero=>intro pl lo e st x st' _ _ _ h;simp[chain] at h
 | succ n ih =>
  intro pl lo e st x st' ht he hle h;rw[chain] at h;split at h
  ·rename_i ho;have g0:=gX ht ho;have l0:=g0.lt;cases hp:g (nx s st) with
   | error p=>rw[hp] at h;cases h
   | ok r =>
    obtain ⟨k,st1⟩:=r;rw[hp] at h;have g1:=hg _ _ _ g0.tk hp;obtain ⟨k1,k2⟩:=hs _ _ _ g0.tk hp;exact ih pl lo ⟨a.toNat,0,gM,pl,st.t.a,some e,some k⟩ _ _ _ g1.tk ⟨he,k1⟩ (by simp only[lU];omega) h
  ·split at h
   ·rename_i ho;have g0:=gX ht ho;have l0:=g0.lt;cases hp:g (nx s st) with
    | error p=>rw[hp] at h;cases h
    | ok r =>
     obtain ⟨k,st1⟩:=r;rw[hp] at h;have g1:=hg _ _ _ g0.tk hp;obtain ⟨k1,k2⟩:=hs _ _ _ g0.tk hp;exact ih pl lo ⟨b.toNat,0,gM,pl,st.t.a,some e,some k⟩ _ _ _ g1.tk ⟨he,k1⟩ (by simp only[lU];omega) h
   ·cases h;exact ⟨he,hle⟩
theorem Yb {g:Ps->Except Nat (Ex×Ps)}(hg:Goes s g)(hs:Sz s g)(a b:UInt8):Sz s (row s g a b):=by
 intro st x st' ht h;unfold row at h;cases hp:g st with
 | error p=>rw[hp] at h;cases h
 | ok r =>
  obtain ⟨e,st1⟩:=r;rw[hp] at h;have g1:=hg _ _ _ ht hp;obtain ⟨k1,k2⟩:=hs _ _ _ ht hp;exact zos hg hs _ _ _ _ _ _ _ _ _ g1.tk k1 k2 h
theorem Yc {g:Ps->Except Nat (Ex×Ps)}(hg:Goes s g)(hs:Sz s g):Sz s (sum s g):=Yb (Co hg) (Yb hg hs _ _) _ _
theorem Yd {g:Ps->Except Nat (Ex×Ps)}(hg:Goes s g)(hs:Sz s g):Sz s (expr s g):=by
 intro st x st' ht h;unfold expr at h;cases hp:sum s g st with
 | error p=>rw[hp] at h;cases h
 | ok r =>
  obtain ⟨e,st1⟩:=r;rw[hp] at h;simp only at h;have g1:=zJ hg _ _ _ ht hp;obtain ⟨j1,j2⟩:=Yc hg hs _ _ _ ht hp;cases hc:qj s st1.t with
  | none=>rw[hc] at h;cases h;exact ⟨j1,j2⟩
  | some o =>
   rw[hc] at h;simp only at h;have hk:=Ew hc;have g0:Good s st1 (nx s st1):=vg g1.tk (by rw[hk];decide) (by rw[hk];decide)
   have l0:=g0.lt;cases hq:sum s g (nx s st1) with
   | error p=>rw[hq] at h;cases h
   | ok r2 =>
    obtain ⟨k,st2⟩:=r2;rw[hq] at h;obtain ⟨i1,i2⟩:=Yc hg hs _ _ _ g0.tk hq;cases h;exact ⟨⟨j1,i1⟩,by simp only[lU];omega⟩
theorem zu8 (s:fq)(n:Nat):Sz s (atom s n):=by
 induction n with
 | zero=>intro st x st' _ h;simp[atom] at h
 | succ n ih =>
  intro st x st' ht h;have hgo:=qA s (n+1) _ _ _ ht h;have hlt:=hgo.lt;rw[atom] at h;split at h
  ·rename_i hk;cases h
   have:=Q9 ht hk
   refine ⟨⟨fun h=>absurd h (by decide),this⟩,?_⟩
   simp only[leaf,lU]
   have:gM.size=0:=rfl
   omega
  ·split at h
   ·rename_i hk;cases h;have h1:=ht.lt (by rw[hk];decide) (by rw[hk];decide)
    have h2:=ht.le;have h3:=(uj s st.t.b h2).2;have h4:(txt s st.t).size=st.t.b - st.t.a:=by unfold txt;rw[dF];omega
    refine ⟨⟨fun _=>by rw[h4];omega,aK _⟩,?_⟩
    simp only[leaf,lU];rw[h4]
    have:st.t.b<=(nx s st).t.a:=h3
    omega
   ·split at h
    ·cases h;refine ⟨⟨fun h=>absurd h (by decide),by decide⟩,?_⟩
     simp only[leaf,lU]
     have:gM.size=0:=rfl
     omega
    ·split at h
     ·cases h;refine ⟨⟨fun h=>absurd h (by decide),by decide⟩,?_⟩
      simp only[leaf,lU]
      have:gM.size=0:=rfl
      omega
     ·split at h
      ·rename_i ho;have g0:=gX ht ho;have l0:=g0.lt;cases hp:atom s n (nx s st) with
       | error p=>rw[hp] at h;cases h
       | ok r =>
        obtain ⟨k,st1⟩:=r;rw[hp] at h;obtain ⟨k1,k2⟩:=ih _ _ _ g0.tk hp;cases h;exact ⟨k1,by simp only[lU];omega⟩
      ·split at h
       ·rename_i ho;have g0:=gX (st:=dn st) ht ho;have l0:st.t.a < (nx s (dn st)).t.a:=g0.lt;cases hp:expr s (atom s n) (nx s (dn st)) with
        | error p=>rw[hp] at h;cases h
        | ok r =>
         obtain ⟨k,st1⟩:=r;have g1:=A9 (qA s n) _ _ _ g0.tk hp;obtain ⟨k1,k2⟩:=Yd (qA s n) ih _ _ _ g0.tk hp;rw[hp] at h;simp only at h;split at h
         ·rename_i ho2;have g2:=gX g1.tk ho2;have l2:=g2.lt;have l3:st1.t.a < (qy (nx s st1)).t.a:=l2;cases h;exact ⟨k1.fE _,by rw[zez];omega⟩
         ·cases h
       ·cases h
theorem Ra (s:fq):Sz s (jN s):=Yd (qA s _) (zu8 s _)
def uT (x:Option Ex):Nat :=
 match x with
 | none=>0
 | some e=>lU e
def DZ (x:Option Ex):Prop:=∀ e,x=some e->sP e
def lI:List Sm->Nat
 | []=>0
 | ⟨_,fD,_,ex,gu,_,undo,n,_,one,two⟩::rest=>fD.size+uT ex+gu.size+undo.size+n+100+lI one+lI two+lI rest
def ru:List Sm->Prop
 | []=>True
 | ⟨op,fD,_,ex,_,_,_,n,_,one,two⟩::rest=>(op=108\/op=99->0 < fD.size)/\n<=9999/\DZ ex/\ru one/\ru two/\ru rest
def kV (x:Sm):Nat:=x.fD.size+uT x.ex+x.gu.size+x.undo.size+x.n+100+lI x.one+lI x.two
def xw (x:Sm):Prop:=(x.op=108\/x.op=99->0 < x.fD.size)/\x.n<=9999/\DZ x.ex/\ru x.one/\ru x.two
theorem Aw:lI []=0:=by rw[lI]
theorem D5 (x:Sm)(l:List Sm):lI (x::l)=kV x+lI l:=by
 obtain ⟨op,fD,pl,ex,gu,fZ,undo,n,gG,one,two⟩:=x;rw[lI]<;>rfl
theorem rz:ru []:=by rw[ru];trivial
variable {x:Sm}
theorem Jc:ru (x::l)↔xw x/\ru l:=by
 obtain ⟨op,fD,pl,ex,gu,fZ,undo,n,gG,one,two⟩:=x;rw[ru];unfold xw;constructor
 ·rintro ⟨h1,h2,h3,h4,h5,h6⟩;exact ⟨⟨h1,h2,h3,h4,h5⟩,h6⟩
 ·rintro ⟨⟨h1,h2,h3,h4,h5⟩,h6⟩;exact ⟨h1,h2,h3,h4,h5,h6⟩
theorem zla (l:List Sm)(x:Sm):lI (l++[x])=lI l+kV x:=by
 induction l with
 | nil=>rw[dh,D5,Aw];omega
 | cons y l ih=>rw[bG,D5,D5,ih];omega
theorem Ye (h:ru l)(hx:xw x):ru (l++[x]):=by
 induction l with
 | nil=>exact Jc.2 ⟨hx,rz⟩
 | cons y l ih=>exact Jc.2 ⟨(Jc.1 h).1,ih (Jc.1 h).2⟩
def BK (s:fq)(g:Ps->Except Nat (Sm×Ps)):Prop:=∀ st x st',Tk s st.t->g st=.ok (x,st')->xw x/\kV x+12000 * st.t.a<=12000 * st'.t.a
variable {g:Ps->Except Nat (Sm×Ps)}
theorem Yf (hg:Goes s g)(hs:BK s g)(stop:Ps->Bool)(n:Nat):∀ (l:List Sm) (st:Ps) (x:List Sm) (st':Ps),Tk s st.t->ru l->stmts s g stop n l st=.ok (x,st')->ru x/\lI x+12000 * st.t.a<=12000 * st'.t.a+lI l:=by
 induction n with
 | zero=>intro l st x st' _ _ h;simp[stmts] at h
 | succ n ih =>
  intro l st x st' ht hl h;rw[stmts] at h;split at h
  ·cases h;exact ⟨hl,by omega⟩
  ·cases hp:g st with
   | error p=>rw[hp] at h;cases h
   | ok r =>
    obtain ⟨y,st1⟩:=r;rw[hp] at h;have g1:=hg _ _ _ ht hp;obtain ⟨m1,m2⟩:=hs _ _ _ ht hp;obtain ⟨i1,i2⟩:=ih _ _ _ _ g1.tk (Ye hl m1) h;rw[zla] at i2;exact ⟨i1,by omega⟩
variable {st st':Ps}
theorem Jd (hg:Goes s g)(hs:BK s g){x:List Sm}(ht:Tk s st.t)(h:block s g st=.ok (x,st')):ru x/\lI x+12000 * st.t.a<=12000 * st'.t.a:=by
 unfold block at h;split at h
 ·rename_i ho;have g0:=gX (st:=dn st) ht ho;have l0:st.t.a < (nx s (dn st)).t.a:=g0.lt;cases hp:stmts s g (fun st=>gy s st.t ⟨#[125]⟩) (s.size+1) [] (nx s (dn st)) with
  | error p=>rw[hp] at h;cases h
  | ok r =>
   obtain ⟨l,st1⟩:=r;rw[hp] at h;obtain ⟨i1,i2⟩:=Yf hg hs _ _ _ _ _ _ g0.tk rz hp;obtain ⟨g1,g2⟩:=wQ hg _ _ _ _ _ _ g0.tk hp;have g3:=gX g1.tk g2;have l3:st1.t.a < (qy (nx s st1)).t.a:=g3.lt;rw[Aw] at i2;cases h;exact ⟨i1,by omega⟩
 ·cases h
theorem M0 (h:kind s k st=.ok st'):st.t.k=k/\st'=nx s st:=by
 unfold kind at h;split at h
 ·rename_i hk;cases h;exact ⟨hk,rfl⟩
 ·cases h
theorem BL (ht:Tk s st.t)(h:kind s 119 st=.ok st'):0 < (txt s st.t).size/\(txt s st.t).size+st.t.a<=st'.t.a:=by
 obtain ⟨hk,rfl⟩:=M0 h;have h1:=ht.lt (by rw[hk];decide) (by rw[hk];decide)
 have h2:=ht.le;have h3:st.t.b<=(nx s st).t.a:=(uj s st.t.b h2).2;have h4:(txt s st.t).size=st.t.b - st.t.a:=by unfold txt;rw[dF];omega
 rw[h4];omega
theorem M9 (ht:Tk s st.t)(h:kind s 110 st=.ok st'):valOf (txt s st.t).toList<=9999:=Q9 ht (M0 h).1
theorem BM:DZ none:=fun e h=>by cases h
theorem BN {e:Ex}(h:sP e):DZ (some e):=fun e' h'=>by cases h';exact h
theorem ztk (s:fq):BK s (kJ s):=by
 intro st x st' ht h;unfold kJ at h;cases h1:kind s 119 st with
 | error p=>rw[h1] at h;cases h
 | ok st1 =>
  rw[h1] at h;simp only at h;have g1:=oG ht (by decide) (by decide) h1
  obtain ⟨w1,w2⟩:=BL ht h1;cases h2:need s ⟨#[61]⟩ st1 with
  | error p=>rw[h2] at h;cases h
  | ok st2 =>
   rw[h2] at h;simp only at h;have g2:=lZ g1.tk h2;cases h3:jN s st2 with
   | error p=>rw[h3] at h;cases h
   | ok r =>
    obtain ⟨e,gV⟩:=r;rw[h3] at h;simp only at h;have g3:=rX s _ _ _ g2.tk h3;obtain ⟨e1,e2⟩:=Ra s _ _ _ g2.tk h3;cases h4:need s ⟨#[59]⟩ gV with
    | error p=>rw[h4] at h;cases h
    | ok jL =>
     have g4:=lZ g3.tk h4;rw[h4] at h;cases h;have l2:=g2.lt;have l4:=g4.lt;refine ⟨⟨fun _=>w1,aK _,BN e1,rz,rz⟩,?_⟩
     unfold kV;simp only[jk,Aw,uT]
     have:gM.size=0:=rfl
     omega
theorem zux (s:fq):BK s (call s):=by
 intro st x st' ht h;unfold call at h;cases h1:kind s 119 st with
 | error p=>rw[h1] at h;cases h
 | ok st1 =>
  rw[h1] at h;simp only at h;have g1:=oG ht (by decide) (by decide) h1
  obtain ⟨w1,w2⟩:=BL ht h1;cases h2:need s ⟨#[40]⟩ st1 with
  | error p=>rw[h2] at h;cases h
  | ok st2 =>
   rw[h2] at h;simp only at h;have g2:=lZ g1.tk h2;generalize hz:({ jk with op:=99,fD:=txt s st.t,pl:=st.t.a,n:=1 }:Sm)=x2 at h
   have z0:x2.fD=txt s st.t/\x2.n=1/\x2.gu.size=0/\x2.undo.size=0/\x2.ex=none/\x2.one=[]/\x2.two=[]:=by rw[<- hz];exact ⟨rfl,rfl,rfl,rfl,rfl,rfl,rfl⟩
   cases h3:lJ s x2 st2 with
   | error p=>rw[h3] at h;cases h
   | ok r =>
    obtain ⟨x3,gV⟩:=r;rw[h3] at h;simp only at h;have g3:=Ez g2.tk h3;have z3:x3.fD=txt s st.t/\x3.n=1/\x3.gu.size=0/\x3.undo.size=0/\x3.one=[]/\x3.two=[]/\DZ x3.ex/\uT x3.ex+12000 * st2.t.a<=12000 * gV.t.a:=by
     unfold lJ at h3;split at h3
     ·cases h3;exact ⟨z0.1,z0.2.1,z0.2.2.1,z0.2.2.2.1,z0.2.2.2.2.2.1,z0.2.2.2.2.2.2,by rw[z0.2.2.2.2.1];exact BM,by rw[z0.2.2.2.2.1];simp[uT]⟩
     ·cases hp:jN s st2 with
      | error p=>rw[hp] at h3;cases h3
      | ok r =>
       obtain ⟨e,zO⟩:=r;rw[hp] at h3;obtain ⟨e1,e2⟩:=Ra s _ _ _ g2.tk hp;cases h3;exact ⟨z0.1,z0.2.1,z0.2.2.1,z0.2.2.2.1,z0.2.2.2.2.2.1,z0.2.2.2.2.2.2,BN e1,e2⟩
    cases h4:need s ⟨#[41]⟩ gV with
    | error p=>rw[h4] at h;cases h
    | ok jL =>
     rw[h4] at h;simp only at h;have g4:=lZ g3.tk h4;cases h5:lg s x3 jL with
     | error p=>rw[h5] at h;cases h
     | ok r5 =>
      obtain ⟨x5,kT⟩:=r5;rw[h5] at h;simp only at h;have g5:=Ey g4.tk h5;have z5:x5.fD=x3.fD/\x5.n=1/\x5.undo.size=0/\x5.one=[]/\x5.two=[]/\x5.ex=x3.ex/\x5.gu.size+12000 * jL.t.a<=12000 * kT.t.a:=by
       unfold lg at h5;split at h5
       ·rename_i ho;have g0:=gX g4.tk ho;have l0:=g0.lt;cases hp:kind s 119 (nx s jL) with
        | error p=>rw[hp] at h5;cases h5
        | ok st' =>
         rw[hp] at h5;obtain ⟨v1,v2⟩:=BL g0.tk hp;cases h5;exact ⟨rfl,z3.2.1,z3.2.2.2.1,z3.2.2.2.2.1,z3.2.2.2.2.2.1,rfl,by simp only;omega⟩
       ·cases h5;exact ⟨rfl,z3.2.1,z3.2.2.2.1,z3.2.2.2.2.1,z3.2.2.2.2.2.1,rfl,by rw[z3.2.2.1];omega⟩
      cases h6:lY s x5 kT with
      | error p=>rw[h6] at h;cases h
      | ok r6 =>
       obtain ⟨x6,mF⟩:=r6;rw[h6] at h;simp only at h;have g6:=Gy g5.tk h6;have z6:x6.fD=x5.fD/\x6.n=1/\x6.one=[]/\x6.two=[]/\x6.ex=x5.ex/\x6.gu=x5.gu/\x6.undo.size+12000 * kT.t.a<=12000 * mF.t.a:=by
        unfold lY at h6;split at h6
        ·rename_i ho;have g0:=gX g5.tk ho;have l0:=g0.lt;cases hp:kind s 119 (nx s kT) with
         | error p=>rw[hp] at h6;cases h6
         | ok st' =>
          rw[hp] at h6;obtain ⟨v1,v2⟩:=BL g0.tk hp;cases h6;exact ⟨rfl,z5.2.1,z5.2.2.2.1,z5.2.2.2.2.1,rfl,rfl,by simp only;omega⟩
        ·cases h6;exact ⟨rfl,z5.2.1,z5.2.2.2.1,z5.2.2.2.2.1,rfl,rfl,by rw[z5.2.2.1];omega⟩
       cases h7:nC s x6 mF with
       | error p=>rw[h7] at h;cases h
       | ok r7 =>
        obtain ⟨x7,pz⟩:=r7;rw[h7] at h;simp only at h;have g7:=Gz g6.tk h7;have z7:x7.fD=x6.fD/\x7.one=[]/\x7.two=[]/\x7.ex=x6.ex/\x7.gu=x6.gu/\x7.undo=x6.undo/\x7.n<=9999/\x7.n+12000 * mF.t.a<=12000 * pz.t.a+1:=by
         unfold nC at h7;split at h7
         ·rename_i ho;have g0:=gX g6.tk ho;have l0:=g0.lt;cases hp:kind s 110 (nx s mF) with
          | error p=>rw[hp] at h7;cases h7
          | ok st' =>
           rw[hp] at h7;have v1:=M9 g0.tk hp;have g8:=oG g0.tk (by decide) (by decide) hp
           have l8:=g8.lt;cases h7;exact ⟨rfl,z6.2.2.1,z6.2.2.2.1,rfl,rfl,rfl,v1,by simp only;omega⟩
         ·cases h7;exact ⟨rfl,z6.2.2.1,z6.2.2.2.1,rfl,rfl,rfl,by rw[z6.2.1];decide,by rw[z6.2.1];omega⟩
        cases h8:need s ⟨#[59]⟩ pz with
        | error p=>rw[h8] at h;cases h
        | ok uz =>
         have g8:=lZ g7.tk h8;rw[h8] at h;cases h;have l1:=g1.lt;have l2:=g2.lt;have l4:=g4.lt;have l8:=g8.lt;have hw:x.fD=txt s st.t:=by rw[z7.1,z6.1,z5.1,z3.1]
         have he:x.ex=x3.ex:=by rw[z7.2.2.2.1,z6.2.2.2.2.1,z5.2.2.2.2.2.1]
         refine ⟨⟨fun _=>by rw[hw];exact w1,z7.2.2.2.2.2.2.1,by rw[he];exact z3.2.2.2.2.2.2.1,by rw[z7.2.1];exact rz,by rw[z7.2.2.1];exact rz⟩,?_⟩
         unfold kV;rw[hw,he,z7.2.1,z7.2.2.1,Aw,z7.2.2.2.2.1,z7.2.2.2.2.2.1,z6.2.2.2.2.2.1];have q3:=z3.2.2.2.2.2.2.2;have q5:=z5.2.2.2.2.2.2;have q6:=z6.2.2.2.2.2.2;have q7:=z7.2.2.2.2.2.2.2;omega
theorem zxh (hg:Goes s g)(hs:BK s g):∀ st x st',Tk s st.t->pK s g st=.ok (x,st')->xw x/\kV x+12000 * st.t.a<=12000 * st'.t.a+100:=by
 intro st x st' ht h;unfold pK at h;cases h1:jN s st with
 | error p=>rw[h1] at h;cases h
 | ok r =>
  obtain ⟨e,st1⟩:=r;rw[h1] at h;simp only at h;have g1:=rX s _ _ _ ht h1;obtain ⟨e1,e2⟩:=Ra s _ _ _ ht h1;cases h2:block s g st1 with
  | error p=>rw[h2] at h;cases h
  | ok r =>
   obtain ⟨l,st2⟩:=r;rw[h2] at h;simp only at h;have g2:=pE hg _ _ _ g1.tk h2;obtain ⟨m1,m2⟩:=Jd hg hs g1.tk h2;split at h
   ·rename_i ho;have g3:=gX g2.tk ho;have l3:=g3.lt;cases h4:block s g (nx s st2) with
    | error p=>rw[h4] at h;cases h
    | ok r =>
     obtain ⟨m,gV⟩:=r;obtain ⟨m3,m4⟩:=Jd hg hs g3.tk h4;rw[h4] at h;cases h;refine ⟨⟨fun h=>absurd h (by show ¬((105:Nat)=108\/(105:Nat)=99);decide),aK _,BN e1,m1,m3⟩,?_⟩
     unfold kV;simp only[jk,uT]
     have:gM.size=0:=rfl
     omega
   ·cases h;refine ⟨⟨fun h=>absurd h (by show ¬((105:Nat)=108\/(105:Nat)=99);decide),aK _,BN e1,m1,rz⟩,?_⟩
    unfold kV;simp only[jk,uT,Aw]
    have:gM.size=0:=rfl
    omega
theorem zrf (hg:Goes s g)(hs:BK s g):∀ st x st',Tk s st.t->kK s g st=.ok (x,st')->xw x/\kV x+12000 * st.t.a<=12000 * st'.t.a+100:=by
 intro st x st' ht h;unfold kK at h;cases h1:block s g st with
 | error p=>rw[h1] at h;cases h
 | ok r =>
  obtain ⟨l,st1⟩:=r;rw[h1] at h;simp only at h;have g1:=pE hg _ _ _ ht h1;obtain ⟨m1,m2⟩:=Jd hg hs ht h1;cases h2:need s ⟨#[101,108,115,101]⟩ st1 with
  | error p=>rw[h2] at h;cases h
  | ok st2 =>
   rw[h2] at h;simp only at h;have g2:=lZ g1.tk h2;have l2:=g2.lt;cases h3:block s g st2 with
   | error p=>rw[h3] at h;cases h
   | ok r =>
    obtain ⟨m,gV⟩:=r;obtain ⟨m3,m4⟩:=Jd hg hs g2.tk h3;rw[h3] at h;cases h;refine ⟨⟨fun h=>absurd h (by show ¬((116:Nat)=108\/(116:Nat)=99);decide),aK _,BM,m1,m3⟩,?_⟩
    unfold kV;simp only[jk,uT]
    have:gM.size=0:=rfl
    omega
theorem zcn (hg:Goes s g)(hs:BK s g):∀ st x st',Tk s st.t->qz s g st=.ok (x,st')->xw x/\kV x+12000 * st.t.a<=12000 * st'.t.a+100:=by
 intro st x st' ht h;unfold qz at h;cases h1:kind s 110 st with
 | error p=>rw[h1] at h;cases h
 | ok st1 =>
  rw[h1] at h;simp only at h;have g1:=oG ht (by decide) (by decide) h1
  have l1:=g1.lt;have v1:=M9 ht h1;cases h2:block s g st1 with
  | error p=>rw[h2] at h;cases h
  | ok r =>
   obtain ⟨m,gV⟩:=r;obtain ⟨m1,m2⟩:=Jd hg hs g1.tk h2;rw[h2] at h;cases h;refine ⟨⟨fun h=>absurd h (by show ¬((114:Nat)=108\/(114:Nat)=99);decide),v1,BM,m1,rz⟩,?_⟩
   unfold kV;simp only[jk,uT,Aw]
   have:gM.size=0:=rfl
   omega
theorem zrq (s:fq)(n:Nat):BK s (stmt s n):=by
 induction n with
 | zero=>intro st x st' _ h;simp[stmt] at h
 | succ n ih =>
  intro st x st' ht h;have hgo:=jS s (n+1) _ _ _ ht h;have hlt:=hgo.lt;rw[stmt] at h;split at h
  ·rename_i ho;have g1:=gX ht ho;have l1:=g1.lt;obtain ⟨m1,m2⟩:=ztk s _ _ _ g1.tk h;exact ⟨m1,by omega⟩
  ·split at h
   ·rename_i ho;have g1:=gX ht ho;have l1:=g1.lt;obtain ⟨m1,m2⟩:=zux s _ _ _ g1.tk h;exact ⟨m1,by omega⟩
   ·split at h
    ·rename_i ho;have g1:=gX ht ho;have l1:=g1.lt;obtain ⟨m1,m2⟩:=zxh (jS s n) ih _ _ _ g1.tk h;exact ⟨m1,by omega⟩
    ·split at h
     ·rename_i ho;have g1:=gX ht ho;have l1:=g1.lt;obtain ⟨m1,m2⟩:=zrf (jS s n) ih _ _ _ g1.tk h;exact ⟨m1,by omega⟩
     ·split at h
      ·rename_i ho;have g1:=gX ht ho;have l1:=g1.lt;obtain ⟨m1,m2⟩:=zcn (jS s n) ih _ _ _ g1.tk h;exact ⟨m1,by omega⟩
      ·have ho:x={ jk with op:=102 }:=by
        unfold uh at h;cases h1:need s ⟨#[102,97,105,108]⟩ st with
        | error p=>rw[h1] at h;cases h
        | ok st1 =>
         rw[h1] at h;simp only at h;cases h2:need s ⟨#[59]⟩ st1 with
         | error p=>rw[h2] at h;cases h
         | ok st2=>rw[h2] at h;cases h;rfl
       rw[ho];refine ⟨⟨fun h=>absurd h (by decide),aK _,BM,rz,rz⟩,?_⟩
       unfold kV;simp only[jk,uT,Aw]
       have:gM.size=0:=rfl
       omega
theorem qxo (h:read s=.ok l):ru l/\lI l<=3600000:=by
 unfold read at h;split at h
 ·cases h
 ·rename_i hz;cases hp:stmts s (stmt s (s.size+1)) (fun st=>st.t.k == 0) (s.size+1) [] ⟨tok s 0,0,-1⟩ with
  | error p=>rw[hp] at h;cases h
  | ok r =>
   obtain ⟨l',st⟩:=r;rw[hp] at h;simp only at h;split at h
   ·cases h
   ·cases h;have ht:=(uj s 0 (aK _)).1;obtain ⟨i1,i2⟩:=Yf (jS s _) (zrq s _) _ _ _ _ _ _ ht rz hp;obtain ⟨g2,_⟩:=wQ (jS s _) _ _ _ _ _ _ ht hp;have h1:=g2.tk.ab;have h2:=g2.tk.le;rw[Aw] at i2;exact ⟨i1,by omega⟩
theorem zk4 {a:Nat}(_ha:a<=s.size)(hk:(pJ s a).k=119):(pJ s a).b - (pJ s a).a<=8/\∀ j (hj:j < s.size),(pJ s a).a<=j->j < (pJ s a).b->ku s[j]=true:=by
 by_cases h:a < s.size
 ·cases hs:ku s[a]
  ·cases hd:kC s[a]
   ·cases hm:vQ s[a]
    ·rw[KQ h hs hd hm] at hk;cases hk
    ·rw[KP h hs hd hm] at hk;cases hk
   ·by_cases hl:4 < jD kC s a - a
    ·rw[Gu h hs hd rfl hl] at hk;cases hk
    ·rw[Gv h hs hd rfl hl] at hk;cases hk
  ·cases hkk:qR (s.extract a (jD ku s a)).toList
   ·by_cases hl:8 < jD ku s a - a
    ·rw[Gs h hs rfl hkk hl] at hk;cases hk
    ·rw[Gt h hs rfl hkk hl];exact ⟨by simp;omega,fun j hj h1 h2=>KM ku s _ a j hj h1 h2⟩
   ·rw[Gq h hs rfl hkk] at hk;cases hk
 ·rw[KO h] at hk;cases hk
theorem zv6 {i:Nat}(hi:i<=s.size)(hk:(tok s i).k=119):OkW (txt s (tok s i)):=by
 have ht:=(uj s i hi).1;have h1:=ht.lt (by rw[hk];decide) (by rw[hk];decide)
 have h2:=ht.le;have hz:(txt s (tok s i)).size=(tok s i).b - (tok s i).a:=by unfold txt;rw[dF];omega
 obtain ⟨k1,k2⟩:=zk4 (yZ qx s i hi) hk;refine ⟨by omega,by rw[hz];exact k1,?_⟩
 unfold letters;rw[dW];intro c hc;obtain ⟨j,hj,rfl⟩:=dY hc;have hj':j < (txt s (tok s i)).size:=hj;rw[hz] at hj';have h3:=k2 ((tok s i).a+j) (by omega) (by show (tok s i).a<=_;omega) (by show _ < (tok s i).b;omega)
 have h4:(txt s (tok s i)).data.toList[j]=s[(tok s i).a+j]'(by omega):=by
  have hjx:j < (s.extract (tok s i).a (tok s i).b).size:=by rw[dF];omega
  have h5:(s.extract (tok s i).a (tok s i).b)[j]=s[(tok s i).a+j]'(by omega):=dX hjx
  exact h5
 rw[h4];exact h3
theorem Yg (h:Tk s st.t)(hk:(nx s st).t.k=119):OkW (txt s (nx s st).t):=zv6 h.le hk
def tN:List Sm->Prop
 | []=>True
 | ⟨op,fD,_,_,_,_,undo,_,_,one,two⟩::rest=>(op=99->OkW fD/\(undo.size≠0->OkW undo))/\tN one/\tN two/\tN rest
def zA (x:Sm):Prop:=(x.op=99->OkW x.fD/\(x.undo.size≠0->OkW x.undo))/\tN x.one/\tN x.two
theorem yA:tN []:=by rw[tN];trivial
theorem Je:tN (x::l)↔zA x/\tN l:=by
 obtain ⟨op,fD,pl,ex,gu,fZ,undo,n,gG,one,two⟩:=x;rw[tN];unfold zA;simp only[and_assoc]
theorem zpk (h:tN l)(hx:zA x):tN (l++[x]):=by
 induction l with
 | nil=>exact Je.2 ⟨hx,yA⟩
 | cons y l ih=>exact Je.2 ⟨(Je.1 h).1,ih (Je.1 h).2⟩
def FY (s:fq)(g:Ps->Except Nat (Sm×Ps)):Prop:=∀ st x st',Tk s st.t->g st=.ok (x,st')->zA x
theorem Yh (hg:Goes s g)(hs:FY s g)(stop:Ps->Bool)(n:Nat):∀ (l:List Sm) (st:Ps) (x:List Sm) (st':Ps),Tk s st.t->tN l->stmts s g stop n l st=.ok (x,st')->tN x:=by
 induction n with
 | zero=>intro l st x st' _ _ h;simp[stmts] at h
 | succ n ih =>
  intro l st x st' ht hl h;rw[stmts] at h;split at h
  ·cases h;exact hl
  ·cases hp:g st with
   | error p=>rw[hp] at h;cases h
   | ok r =>
    obtain ⟨y,st1⟩:=r;rw[hp] at h;exact ih _ _ _ _ (hg _ _ _ ht hp).tk (zpk hl (hs _ _ _ ht hp)) h
theorem Jf (hg:Goes s g)(hs:FY s g){x:List Sm}(ht:Tk s st.t)(h:block s g st=.ok (x,st')):tN x:=by
 unfold block at h;split at h
 ·rename_i ho;have g0:=gX (st:=dn st) ht ho;cases hp:stmts s g (fun st=>gy s st.t ⟨#[125]⟩) (s.size+1) [] (nx s (dn st)) with
  | error p=>rw[hp] at h;cases h
  | ok r =>
   obtain ⟨l,st1⟩:=r;rw[hp] at h;have i1:=Yh hg hs _ _ _ _ _ _ g0.tk yA hp;cases h;exact i1
 ·cases h
theorem ztj (h:kJ s st=.ok (x,st')):zA x:=by
 unfold kJ at h;cases h1:kind s 119 st with
 | error p=>rw[h1] at h;cases h
 | ok st1 =>
  rw[h1] at h;simp only at h;cases h2:need s ⟨#[61]⟩ st1 with
  | error p=>rw[h2] at h;cases h
  | ok st2 =>
   rw[h2] at h;simp only at h;cases h3:jN s st2 with
   | error p=>rw[h3] at h;cases h
   | ok r =>
    obtain ⟨e,gV⟩:=r;rw[h3] at h;simp only at h;cases h4:need s ⟨#[59]⟩ gV with
    | error p=>rw[h4] at h;cases h
    | ok jL =>
     rw[h4] at h;cases h;exact ⟨fun h=>absurd h (by show ¬((108:Nat)=99);decide),yA,yA⟩
theorem zuw (hst:st.t.k=119->OkW (txt s st.t))(ht:Tk s st.t)(h:call s st=.ok (x,st')):zA x:=by
 unfold call at h;cases h1:kind s 119 st with
 | error p=>rw[h1] at h;cases h
 | ok st1 =>
  rw[h1] at h;simp only at h;have g1:=oG ht (by decide) (by decide) h1
  have w1:=hst (M0 h1).1;cases h2:need s ⟨#[40]⟩ st1 with
  | error p=>rw[h2] at h;cases h
  | ok st2 =>
   rw[h2] at h;simp only at h;have g2:=lZ g1.tk h2;generalize hz:({ jk with op:=99,fD:=txt s st.t,pl:=st.t.a,n:=1 }:Sm)=x2 at h
   have z0:x2.fD=txt s st.t/\x2.undo.size=0/\x2.one=[]/\x2.two=[]:=by rw[<- hz];exact ⟨rfl,rfl,rfl,rfl⟩
   cases h3:lJ s x2 st2 with
   | error p=>rw[h3] at h;cases h
   | ok r =>
    obtain ⟨x3,gV⟩:=r;rw[h3] at h;simp only at h;have g3:=Ez g2.tk h3;have z3:x3.fD=txt s st.t/\x3.undo.size=0/\x3.one=[]/\x3.two=[]:=by
     unfold lJ at h3;split at h3
     ·cases h3;exact z0
     ·cases hp:jN s st2 with
      | error p=>rw[hp] at h3;cases h3
      | ok r =>
       obtain ⟨e,zO⟩:=r;rw[hp] at h3;cases h3;exact z0
    cases h4:need s ⟨#[41]⟩ gV with
    | error p=>rw[h4] at h;cases h
    | ok jL =>
     rw[h4] at h;simp only at h;have g4:=lZ g3.tk h4;cases h5:lg s x3 jL with
     | error p=>rw[h5] at h;cases h
     | ok r5 =>
      obtain ⟨x5,kT⟩:=r5;rw[h5] at h;simp only at h;have g5:=Ey g4.tk h5;have z5:x5.fD=txt s st.t/\x5.undo.size=0/\x5.one=[]/\x5.two=[]:=by
       unfold lg at h5;split at h5
       ·cases hp:kind s 119 (nx s jL) with
        | error p=>rw[hp] at h5;cases h5
        | ok st' =>
         rw[hp] at h5;cases h5;exact z3
       ·cases h5;exact z3
      cases h6:lY s x5 kT with
      | error p=>rw[h6] at h;cases h
      | ok r6 =>
       obtain ⟨x6,mF⟩:=r6;rw[h6] at h;simp only at h;have z6:x6.fD=txt s st.t/\(x6.undo.size≠0->OkW x6.undo)/\x6.one=[]/\x6.two=[]:=by
        unfold lY at h6;split at h6
        ·cases hp:kind s 119 (nx s kT) with
         | error p=>rw[hp] at h6;cases h6
         | ok st' =>
          rw[hp] at h6;have v1:=Yg g5.tk (M0 hp).1;cases h6;exact ⟨z5.1,fun _=>v1,z5.2.2⟩
        ·cases h6;exact ⟨z5.1,fun h=>absurd z5.2.1 h,z5.2.2⟩
       cases h7:nC s x6 mF with
       | error p=>rw[h7] at h;cases h
       | ok r7 =>
        obtain ⟨x7,pz⟩:=r7;rw[h7] at h;simp only at h;have z7:x7.fD=txt s st.t/\(x7.undo.size≠0->OkW x7.undo)/\x7.one=[]/\x7.two=[]:=by
         unfold nC at h7;split at h7
         ·cases hp:kind s 110 (nx s mF) with
          | error p=>rw[hp] at h7;cases h7
          | ok st' =>
           rw[hp] at h7;cases h7;exact z6
         ·cases h7;exact z6
        cases h8:need s ⟨#[59]⟩ pz with
        | error p=>rw[h8] at h;cases h
        | ok uz =>
         rw[h8] at h;cases h;refine ⟨fun _=>⟨by rw[z7.1];exact w1,z7.2.1⟩,?_,?_⟩
         ·rw[z7.2.2.1];exact yA
         ·rw[z7.2.2.2];exact yA
theorem zxg (hg:Goes s g)(hs:FY s g)(ht:Tk s st.t)(h:pK s g st=.ok (x,st')):zA x:=by
 unfold pK at h;cases h1:jN s st with
 | error p=>rw[h1] at h;cases h
 | ok r =>
  obtain ⟨e,st1⟩:=r;rw[h1] at h;simp only at h;have g1:=rX s _ _ _ ht h1;cases h2:block s g st1 with
  | error p=>rw[h2] at h;cases h
  | ok r =>
   obtain ⟨l,st2⟩:=r;rw[h2] at h;simp only at h;have g2:=pE hg _ _ _ g1.tk h2;have m1:=Jf hg hs g1.tk h2;split at h
   ·rename_i ho;have g3:=gX g2.tk ho;cases h4:block s g (nx s st2) with
    | error p=>rw[h4] at h;cases h
    | ok r =>
     obtain ⟨m,gV⟩:=r;have m3:=Jf hg hs g3.tk h4;rw[h4] at h;cases h;exact ⟨fun h=>absurd h (by show ¬((105:Nat)=99);decide),m1,m3⟩
   ·cases h;exact ⟨fun h=>absurd h (by show ¬((105:Nat)=99);decide),m1,yA⟩
theorem zre (hg:Goes s g)(hs:FY s g)(ht:Tk s st.t)(h:kK s g st=.ok (x,st')):zA x:=by
 unfold kK at h;cases h1:block s g st with
 | error p=>rw[h1] at h;cases h
 | ok r =>
  obtain ⟨l,st1⟩:=r;rw[h1] at h;simp only at h;have g1:=pE hg _ _ _ ht h1;have m1:=Jf hg hs ht h1;cases h2:need s ⟨#[101,108,115,101]⟩ st1 with
  | error p=>rw[h2] at h;cases h
  | ok st2 =>
   rw[h2] at h;simp only at h;have g2:=lZ g1.tk h2;cases h3:block s g st2 with
   | error p=>rw[h3] at h;cases h
   | ok r =>
    obtain ⟨m,gV⟩:=r;have m3:=Jf hg hs g2.tk h3;rw[h3] at h;cases h;exact ⟨fun h=>absurd h (by show ¬((116:Nat)=99);decide),m1,m3⟩
theorem zcm (hg:Goes s g)(hs:FY s g)(ht:Tk s st.t)(h:qz s g st=.ok (x,st')):zA x:=by
 unfold qz at h;cases h1:kind s 110 st with
 | error p=>rw[h1] at h;cases h
 | ok st1 =>
  rw[h1] at h;simp only at h;have g1:=oG ht (by decide) (by decide) h1
  cases h2:block s g st1 with
  | error p=>rw[h2] at h;cases h
  | ok r =>
   obtain ⟨m,gV⟩:=r;have m1:=Jf hg hs g1.tk h2;rw[h2] at h;cases h;exact ⟨fun h=>absurd h (by show ¬((114:Nat)=99);decide),m1,yA⟩
theorem zrp (s:fq)(n:Nat):FY s (stmt s n):=by
 induction n with
 | zero=>intro st x st' _ h;simp[stmt] at h
 | succ n ih =>
  intro st x st' ht h;rw[stmt] at h;split at h
  ·exact ztj h
  ·split at h
   ·rename_i ho;have g1:=gX ht ho;exact zuw (Yg ht) g1.tk h
   ·split at h
    ·rename_i ho;exact zxg (jS s n) ih (gX ht ho).tk h
    ·split at h
     ·rename_i ho;exact zre (jS s n) ih (gX ht ho).tk h
     ·split at h
      ·rename_i ho;exact zcm (jS s n) ih (gX ht ho).tk h
      ·have ho:x={ jk with op:=102 }:=by
        unfold uh at h;cases h1:need s ⟨#[102,97,105,108]⟩ st with
        | error p=>rw[h1] at h;cases h
        | ok st1 =>
         rw[h1] at h;simp only at h;cases h2:need s ⟨#[59]⟩ st1 with
         | error p=>rw[h2] at h;cases h
         | ok st2=>rw[h2] at h;cases h;rfl
       rw[ho];exact ⟨fun h=>absurd h (by decide),yA,yA⟩
theorem Yi (h:read s=.ok l):tN l:=by
 unfold read at h;split at h
 ·cases h
 ·cases hp:stmts s (stmt s (s.size+1)) (fun st=>st.t.k == 0) (s.size+1) [] ⟨tok s 0,0,-1⟩ with
  | error p=>rw[hp] at h;cases h
  | ok r =>
   obtain ⟨l',st⟩:=r;rw[hp] at h;simp only at h;split at h
   ·cases h
   ·cases h;have ht:=(uj s 0 (aK _)).1;exact Yh (jS s _) (zrp s _) _ _ _ _ _ _ ht yA hp
variable {ws:List fq}
theorem Rb {x:fq}(h:∀ w∈ws,OkW w)(hx:OkW x):∀ w∈gN ws x,OkW w:=by
 unfold gN;split
 ·exact h
 ·intro w hw;rcases bR.1 hw with hw | hw
  ·exact h w hw
  ·rw[bq.1 hw];exact hx
theorem zvu (hx:zA x)(h1:∀ ws:List fq,(∀ w∈ws,OkW w)->∀ w∈jq x.one ws,OkW w)(h2:∀ ws:List fq,(∀ w∈ws,OkW w)->∀ w∈jq x.two ws,OkW w)(h:∀ w∈ws,OkW w):∀ w∈kM x ws,OkW w:=by
 unfold kM;split
 ·rename_i ho;obtain ⟨a1,a2⟩:=hx.1 ho;unfold vB;split
  ·exact Rb h a1
  ·rename_i hu;exact Rb (Rb h a1) (a2 hu)
 ·split
  ·exact h2 _ (h1 _ h)
  ·split
   ·exact h1 _ h
   ·exact h
theorem Jg (l:List Sm)(hl:tN l):∀ ws:List fq,(∀ w∈ws,OkW w)->∀ w∈jq l ws,OkW w:=by
 match l,hl with
 | [],_=>intro ws h;rw[GX];exact h
 | ⟨op,fD,pl,ex,gu,fZ,undo,n,gG,one,two⟩::rest,hl =>
  intro ws h;rw[CV];obtain ⟨a1,a2⟩:=Je.1 hl;exact Jg rest a2 _ (zvu a1 (Jg one a1.2.1) (Jg two a1.2.2) h)
def wF (x:Option Ex):Nat :=
 match x with
 | none=>0
 | some e=>iY e
def oC:List Sm->Nat
 | []=>0
 | ⟨_,_,_,ex,_,_,_,_,_,one,two⟩::rest=>wF ex+4+oC one+oC two+oC rest
def rA (x:Sm):Nat:=wF x.ex+4+oC x.one+oC x.two
theorem Ay:oC []=0:=by rw[oC]
theorem D6 (x:Sm)(l:List Sm):oC (x::l)=rA x+oC l:=by
 obtain ⟨op,fD,pl,ex,gu,fZ,undo,n,gG,one,two⟩:=x;rw[oC]<;>rfl
theorem zng (l:List Sm)(x:Sm):oC (l++[x])=oC l+rA x:=by
 induction l with
 | nil=>rw[dh,D6,Ay];omega
 | cons y l ih=>rw[bG,D6,D6,ih];omega
def Az (s:fq)(g:Ps->Except Nat (Ex×Ps)):Prop:=∀ st x st',Tk s st.t->g st=.ok (x,st')->sP x/\iY x+4 * st.t.a<=4 * st'.t.a
theorem zou {g:Ps->Except Nat (Ex×Ps)}(hg:Goes s g)(hs:Az s g)(a b:UInt8)(n:Nat):∀ (pl lo:Nat) (e:Ex) (st:Ps) (x:Ex) (st':Ps),Tk s st.t->sP e->iY e+4 * lo<=4 * st.t.a->chain s g a b n pl e st=.ok (x,st')->sP x/\iY x+4 * lo<=4 * st'.t.a:=by
 induction n with
 | zero=>intro pl lo e st x st' _ _ _ h;simp[chain] at h
 | succ n ih =>
  intro pl lo e st x st' ht he hle h;rw[chain] at h;split at h
  ·rename_i ho;have g0:=gX ht ho;have l0:=g0.lt;cases hp:g (nx s st) with
   | error p=>rw[hp] at h;cases h
   | ok r =>
    obtain ⟨k,st1⟩:=r;rw[hp] at h;have g1:=hg _ _ _ g0.tk hp;obtain ⟨k1,k2⟩:=hs _ _ _ g0.tk hp;exact ih pl lo ⟨a.toNat,0,gM,pl,st.t.a,some e,some k⟩ _ _ _ g1.tk ⟨he,k1⟩ (by simp only[iY];omega) h
  ·split at h
   ·rename_i ho;have g0:=gX ht ho;have l0:=g0.lt;cases hp:g (nx s st) with
    | error p=>rw[hp] at h;cases h
    | ok r =>
     obtain ⟨k,st1⟩:=r;rw[hp] at h;have g1:=hg _ _ _ g0.tk hp;obtain ⟨k1,k2⟩:=hs _ _ _ g0.tk hp;exact ih pl lo ⟨b.toNat,0,gM,pl,st.t.a,some e,some k⟩ _ _ _ g1.tk ⟨he,k1⟩ (by simp only[iY];omega) h
   ·cases h;exact ⟨he,hle⟩
theorem Yj {g:Ps->Except Nat (Ex×Ps)}(hg:Goes s g)(hs:Az s g)(a b:UInt8):Az s (row s g a b):=by
 intro st x st' ht h;unfold row at h;cases hp:g st with
 | error p=>rw[hp] at h;cases h
 | ok r =>
  obtain ⟨e,st1⟩:=r;rw[hp] at h;have g1:=hg _ _ _ ht hp;obtain ⟨k1,k2⟩:=hs _ _ _ ht hp;exact zou hg hs _ _ _ _ _ _ _ _ _ g1.tk k1 k2 h
theorem Yk {g:Ps->Except Nat (Ex×Ps)}(hg:Goes s g)(hs:Az s g):Az s (sum s g):=Yj (Co hg) (Yj hg hs _ _) _ _
theorem Yl {g:Ps->Except Nat (Ex×Ps)}(hg:Goes s g)(hs:Az s g):Az s (expr s g):=by
 intro st x st' ht h;unfold expr at h;cases hp:sum s g st with
 | error p=>rw[hp] at h;cases h
 | ok r =>
  obtain ⟨e,st1⟩:=r;rw[hp] at h;simp only at h;have g1:=zJ hg _ _ _ ht hp;obtain ⟨j1,j2⟩:=Yk hg hs _ _ _ ht hp;cases hc:qj s st1.t with
  | none=>rw[hc] at h;cases h;exact ⟨j1,j2⟩
  | some o =>
   rw[hc] at h;simp only at h;have hk:=Ew hc;have g0:Good s st1 (nx s st1):=vg g1.tk (by rw[hk];decide) (by rw[hk];decide)
   have l0:=g0.lt;cases hq:sum s g (nx s st1) with
   | error p=>rw[hq] at h;cases h
   | ok r2 =>
    obtain ⟨k,st2⟩:=r2;rw[hq] at h;obtain ⟨i1,i2⟩:=Yk hg hs _ _ _ g0.tk hq;cases h;exact ⟨⟨j1,i1⟩,by simp only[iY];omega⟩
theorem zvb (s:fq)(n:Nat):Az s (atom s n):=by
 induction n with
 | zero=>intro st x st' _ h;simp[atom] at h
 | succ n ih =>
  intro st x st' ht h;have hgo:=qA s (n+1) _ _ _ ht h;have hlt:=hgo.lt;rw[atom] at h;split at h
  ·rename_i hk;cases h
   have:=Q9 ht hk
   refine ⟨⟨fun h=>absurd h (by decide),this⟩,?_⟩
   simp only[leaf,iY]
   have:gM.size=0:=rfl
   omega
  ·split at h
   ·rename_i hk;cases h;have h1:=ht.lt (by rw[hk];decide) (by rw[hk];decide)
    have h2:=ht.le;have h3:=(uj s st.t.b h2).2;have h4:(txt s st.t).size=st.t.b - st.t.a:=by unfold txt;rw[dF];omega
    refine ⟨⟨fun _=>by rw[h4];omega,aK _⟩,?_⟩
    simp only[leaf,iY];omega
   ·split at h
    ·cases h;refine ⟨⟨fun h=>absurd h (by decide),by decide⟩,?_⟩
     simp only[leaf,iY]
     have:gM.size=0:=rfl
     omega
    ·split at h
     ·cases h;refine ⟨⟨fun h=>absurd h (by decide),by decide⟩,?_⟩
      simp only[leaf,iY]
      have:gM.size=0:=rfl
      omega
     ·split at h
      ·rename_i ho;have g0:=gX ht ho;have l0:=g0.lt;cases hp:atom s n (nx s st) with
       | error p=>rw[hp] at h;cases h
       | ok r =>
        obtain ⟨k,st1⟩:=r;rw[hp] at h;obtain ⟨k1,k2⟩:=ih _ _ _ g0.tk hp;cases h;exact ⟨k1,by simp only[iY];omega⟩
      ·split at h
       ·rename_i ho;have g0:=gX (st:=dn st) ht ho;have l0:st.t.a < (nx s (dn st)).t.a:=g0.lt;cases hp:expr s (atom s n) (nx s (dn st)) with
        | error p=>rw[hp] at h;cases h
        | ok r =>
         obtain ⟨k,st1⟩:=r;have g1:=A9 (qA s n) _ _ _ g0.tk hp;obtain ⟨k1,k2⟩:=Yl (qA s n) ih _ _ _ g0.tk hp;rw[hp] at h;simp only at h;split at h
         ·rename_i ho2;have g2:=gX g1.tk ho2;have l2:=g2.lt;have l3:st1.t.a < (qy (nx s st1)).t.a:=l2;cases h;exact ⟨k1.fE _,by rw[Vg];omega⟩
         ·cases h
       ·cases h
theorem Rf (s:fq):Az s (jN s):=Yl (qA s _) (zvb s _)
def BO (s:fq)(g:Ps->Except Nat (Sm×Ps)):Prop:=∀ st x st',Tk s st.t->g st=.ok (x,st')->xw x/\rA x+4 * st.t.a<=4 * st'.t.a
theorem Ym (hg:Goes s g)(hs:BO s g)(stop:Ps->Bool)(n:Nat):∀ (l:List Sm) (st:Ps) (x:List Sm) (st':Ps),Tk s st.t->ru l->stmts s g stop n l st=.ok (x,st')->ru x/\oC x+4 * st.t.a<=4 * st'.t.a+oC l:=by
 induction n with
 | zero=>intro l st x st' _ _ h;simp[stmts] at h
 | succ n ih =>
  intro l st x st' ht hl h;rw[stmts] at h;split at h
  ·cases h;exact ⟨hl,by omega⟩
  ·cases hp:g st with
   | error p=>rw[hp] at h;cases h
   | ok r =>
    obtain ⟨y,st1⟩:=r;rw[hp] at h;have g1:=hg _ _ _ ht hp;obtain ⟨m1,m2⟩:=hs _ _ _ ht hp;obtain ⟨i1,i2⟩:=ih _ _ _ _ g1.tk (Ye hl m1) h;rw[zng] at i2;exact ⟨i1,by omega⟩
theorem Jh (hg:Goes s g)(hs:BO s g){x:List Sm}(ht:Tk s st.t)(h:block s g st=.ok (x,st')):ru x/\oC x+4 * st.t.a<=4 * st'.t.a:=by
 unfold block at h;split at h
 ·rename_i ho;have g0:=gX (st:=dn st) ht ho;have l0:st.t.a < (nx s (dn st)).t.a:=g0.lt;cases hp:stmts s g (fun st=>gy s st.t ⟨#[125]⟩) (s.size+1) [] (nx s (dn st)) with
  | error p=>rw[hp] at h;cases h
  | ok r =>
   obtain ⟨l,st1⟩:=r;rw[hp] at h;obtain ⟨i1,i2⟩:=Ym hg hs _ _ _ _ _ _ g0.tk rz hp;obtain ⟨g1,g2⟩:=wQ hg _ _ _ _ _ _ g0.tk hp;have g3:=gX g1.tk g2;have l3:st1.t.a < (qy (nx s st1)).t.a:=g3.lt;rw[Ay] at i2;cases h;exact ⟨i1,by omega⟩
 ·cases h
theorem ztm (s:fq):BO s (kJ s):=by
 intro st x st' ht h;unfold kJ at h;cases h1:kind s 119 st with
 | error p=>rw[h1] at h;cases h
 | ok st1 =>
  rw[h1] at h;simp only at h;have g1:=oG ht (by decide) (by decide) h1
  obtain ⟨w1,w2⟩:=BL ht h1;cases h2:need s ⟨#[61]⟩ st1 with
  | error p=>rw[h2] at h;cases h
  | ok st2 =>
   rw[h2] at h;simp only at h;have g2:=lZ g1.tk h2;cases h3:jN s st2 with
   | error p=>rw[h3] at h;cases h
   | ok r =>
    obtain ⟨e,gV⟩:=r;rw[h3] at h;simp only at h;have g3:=rX s _ _ _ g2.tk h3;obtain ⟨e1,e2⟩:=Rf s _ _ _ g2.tk h3;cases h4:need s ⟨#[59]⟩ gV with
    | error p=>rw[h4] at h;cases h
    | ok jL =>
     have g4:=lZ g3.tk h4;rw[h4] at h;cases h;have l2:=g2.lt;have l4:=g4.lt;refine ⟨⟨fun _=>w1,aK _,BN e1,rz,rz⟩,?_⟩
     unfold rA;simp only[jk,Ay,wF]
     have:gM.size=0:=rfl
     omega
theorem zuz (s:fq):BO s (call s):=by
 intro st x st' ht h;unfold call at h;cases h1:kind s 119 st with
 | error p=>rw[h1] at h;cases h
 | ok st1 =>
  rw[h1] at h;simp only at h;have g1:=oG ht (by decide) (by decide) h1
  obtain ⟨w1,w2⟩:=BL ht h1;cases h2:need s ⟨#[40]⟩ st1 with
  | error p=>rw[h2] at h;cases h
  | ok st2 =>
   rw[h2] at h;simp only at h;have g2:=lZ g1.tk h2;generalize hz:({ jk with op:=99,fD:=txt s st.t,pl:=st.t.a,n:=1 }:Sm)=x2 at h
   have z0:x2.fD=txt s st.t/\x2.n=1/\x2.gu.size=0/\x2.undo.size=0/\x2.ex=none/\x2.one=[]/\x2.two=[]:=by rw[<- hz];exact ⟨rfl,rfl,rfl,rfl,rfl,rfl,rfl⟩
   cases h3:lJ s x2 st2 with
   | error p=>rw[h3] at h;cases h
   | ok r =>
    obtain ⟨x3,gV⟩:=r;rw[h3] at h;simp only at h;have g3:=Ez g2.tk h3;have z3:x3.fD=txt s st.t/\x3.n=1/\x3.gu.size=0/\x3.undo.size=0/\x3.one=[]/\x3.two=[]/\DZ x3.ex/\wF x3.ex+4 * st2.t.a<=4 * gV.t.a:=by
     unfold lJ at h3;split at h3
     ·cases h3;exact ⟨z0.1,z0.2.1,z0.2.2.1,z0.2.2.2.1,z0.2.2.2.2.2.1,z0.2.2.2.2.2.2,by rw[z0.2.2.2.2.1];exact BM,by rw[z0.2.2.2.2.1];simp[wF]⟩
     ·cases hp:jN s st2 with
      | error p=>rw[hp] at h3;cases h3
      | ok r =>
       obtain ⟨e,zO⟩:=r;rw[hp] at h3;obtain ⟨e1,e2⟩:=Rf s _ _ _ g2.tk hp;cases h3;exact ⟨z0.1,z0.2.1,z0.2.2.1,z0.2.2.2.1,z0.2.2.2.2.2.1,z0.2.2.2.2.2.2,BN e1,e2⟩
    cases h4:need s ⟨#[41]⟩ gV with
    | error p=>rw[h4] at h;cases h
    | ok jL =>
     rw[h4] at h;simp only at h;have g4:=lZ g3.tk h4;cases h5:lg s x3 jL with
     | error p=>rw[h5] at h;cases h
     | ok r5 =>
      obtain ⟨x5,kT⟩:=r5;rw[h5] at h;simp only at h;have g5:=Ey g4.tk h5;have z5:x5.fD=x3.fD/\x5.n=1/\x5.undo.size=0/\x5.one=[]/\x5.two=[]/\x5.ex=x3.ex/\x5.gu.size+4 * jL.t.a<=4 * kT.t.a:=by
       unfold lg at h5;split at h5
       ·rename_i ho;have g0:=gX g4.tk ho;have l0:=g0.lt;cases hp:kind s 119 (nx s jL) with
        | error p=>rw[hp] at h5;cases h5
        | ok st' =>
         rw[hp] at h5;obtain ⟨v1,v2⟩:=BL g0.tk hp;cases h5;exact ⟨rfl,z3.2.1,z3.2.2.2.1,z3.2.2.2.2.1,z3.2.2.2.2.2.1,rfl,by simp only;omega⟩
       ·cases h5;exact ⟨rfl,z3.2.1,z3.2.2.2.1,z3.2.2.2.2.1,z3.2.2.2.2.2.1,rfl,by rw[z3.2.2.1];omega⟩
      cases h6:lY s x5 kT with
      | error p=>rw[h6] at h;cases h
      | ok r6 =>
       obtain ⟨x6,mF⟩:=r6;rw[h6] at h;simp only at h;have g6:=Gy g5.tk h6;have z6:x6.fD=x5.fD/\x6.n=1/\x6.one=[]/\x6.two=[]/\x6.ex=x5.ex/\x6.gu=x5.gu/\x6.undo.size+4 * kT.t.a<=4 * mF.t.a:=by
        unfold lY at h6;split at h6
        ·rename_i ho;have g0:=gX g5.tk ho;have l0:=g0.lt;cases hp:kind s 119 (nx s kT) with
         | error p=>rw[hp] at h6;cases h6
         | ok st' =>
          rw[hp] at h6;obtain ⟨v1,v2⟩:=BL g0.tk hp;cases h6;exact ⟨rfl,z5.2.1,z5.2.2.2.1,z5.2.2.2.2.1,rfl,rfl,by simp only;omega⟩
        ·cases h6;exact ⟨rfl,z5.2.1,z5.2.2.2.1,z5.2.2.2.2.1,rfl,rfl,by rw[z5.2.2.1];omega⟩
       cases h7:nC s x6 mF with
       | error p=>rw[h7] at h;cases h
       | ok r7 =>
        obtain ⟨x7,pz⟩:=r7;rw[h7] at h;simp only at h;have g7:=Gz g6.tk h7;have z7:x7.fD=x6.fD/\x7.one=[]/\x7.two=[]/\x7.ex=x6.ex/\x7.gu=x6.gu/\x7.undo=x6.undo/\x7.n<=9999/\4 * mF.t.a<=4 * pz.t.a:=by
         unfold nC at h7;split at h7
         ·rename_i ho;have g0:=gX g6.tk ho;have l0:=g0.lt;cases hp:kind s 110 (nx s mF) with
          | error p=>rw[hp] at h7;cases h7
          | ok st' =>
           rw[hp] at h7;have v1:=M9 g0.tk hp;have g8:=oG g0.tk (by decide) (by decide) hp
           have l8:=g8.lt;cases h7;exact ⟨rfl,z6.2.2.1,z6.2.2.2.1,rfl,rfl,rfl,v1,by omega⟩
         ·cases h7;exact ⟨rfl,z6.2.2.1,z6.2.2.2.1,rfl,rfl,rfl,by rw[z6.2.1];decide,aj _⟩
        cases h8:need s ⟨#[59]⟩ pz with
        | error p=>rw[h8] at h;cases h
        | ok uz =>
         have g8:=lZ g7.tk h8;rw[h8] at h;cases h;have l1:=g1.lt;have l2:=g2.lt;have l4:=g4.lt;have l8:=g8.lt;have hw:x.fD=txt s st.t:=by rw[z7.1,z6.1,z5.1,z3.1]
         have he:x.ex=x3.ex:=by rw[z7.2.2.2.1,z6.2.2.2.2.1,z5.2.2.2.2.2.1]
         refine ⟨⟨fun _=>by rw[hw];exact w1,z7.2.2.2.2.2.2.1,by rw[he];exact z3.2.2.2.2.2.2.1,by rw[z7.2.1];exact rz,by rw[z7.2.2.1];exact rz⟩,?_⟩
         unfold rA;rw[he,z7.2.1,z7.2.2.1,Ay];have q3:=z3.2.2.2.2.2.2.2;have q5:=z5.2.2.2.2.2.2;have q6:=z6.2.2.2.2.2.2;have q7:=z7.2.2.2.2.2.2.2;omega
theorem zxj (hg:Goes s g)(hs:BO s g):∀ st x st',Tk s st.t->pK s g st=.ok (x,st')->xw x/\rA x+4 * st.t.a<=4 * st'.t.a+4:=by
 intro st x st' ht h;unfold pK at h;cases h1:jN s st with
 | error p=>rw[h1] at h;cases h
 | ok r =>
  obtain ⟨e,st1⟩:=r;rw[h1] at h;simp only at h;have g1:=rX s _ _ _ ht h1;obtain ⟨e1,e2⟩:=Rf s _ _ _ ht h1;cases h2:block s g st1 with
  | error p=>rw[h2] at h;cases h
  | ok r =>
   obtain ⟨l,st2⟩:=r;rw[h2] at h;simp only at h;have g2:=pE hg _ _ _ g1.tk h2;obtain ⟨m1,m2⟩:=Jh hg hs g1.tk h2;split at h
   ·rename_i ho;have g3:=gX g2.tk ho;have l3:=g3.lt;cases h4:block s g (nx s st2) with
    | error p=>rw[h4] at h;cases h
    | ok r =>
     obtain ⟨m,gV⟩:=r;obtain ⟨m3,m4⟩:=Jh hg hs g3.tk h4;rw[h4] at h;cases h;refine ⟨⟨fun h=>absurd h (by show ¬((105:Nat)=108\/(105:Nat)=99);decide),aK _,BN e1,m1,m3⟩,?_⟩
     unfold rA;simp only[wF]
     have:gM.size=0:=rfl
     omega
   ·cases h;refine ⟨⟨fun h=>absurd h (by show ¬((105:Nat)=108\/(105:Nat)=99);decide),aK _,BN e1,m1,rz⟩,?_⟩
    unfold rA;simp only[jk,wF,Ay]
    have:gM.size=0:=rfl
    omega
theorem zrh (hg:Goes s g)(hs:BO s g):∀ st x st',Tk s st.t->kK s g st=.ok (x,st')->xw x/\rA x+4 * st.t.a<=4 * st'.t.a+4:=by
 intro st x st' ht h;unfold kK at h;cases h1:block s g st with
 | error p=>rw[h1] at h;cases h
 | ok r =>
  obtain ⟨l,st1⟩:=r;rw[h1] at h;simp only at h;have g1:=pE hg _ _ _ ht h1;obtain ⟨m1,m2⟩:=Jh hg hs ht h1;cases h2:need s ⟨#[101,108,115,101]⟩ st1 with
  | error p=>rw[h2] at h;cases h
  | ok st2 =>
   rw[h2] at h;simp only at h;have g2:=lZ g1.tk h2;have l2:=g2.lt;cases h3:block s g st2 with
   | error p=>rw[h3] at h;cases h
   | ok r =>
    obtain ⟨m,gV⟩:=r;obtain ⟨m3,m4⟩:=Jh hg hs g2.tk h3;rw[h3] at h;cases h;refine ⟨⟨fun h=>absurd h (by show ¬((116:Nat)=108\/(116:Nat)=99);decide),aK _,BM,m1,m3⟩,?_⟩
    unfold rA;simp only[jk,wF]
    have:gM.size=0:=rfl
    omega
theorem zcp (hg:Goes s g)(hs:BO s g):∀ st x st',Tk s st.t->qz s g st=.ok (x,st')->xw x/\rA x+4 * st.t.a<=4 * st'.t.a+4:=by
 intro st x st' ht h;unfold qz at h;cases h1:kind s 110 st with
 | error p=>rw[h1] at h;cases h
 | ok st1 =>
  rw[h1] at h;simp only at h;have g1:=oG ht (by decide) (by decide) h1
  have l1:=g1.lt;have v1:=M9 ht h1;cases h2:block s g st1 with
  | error p=>rw[h2] at h;cases h
  | ok r =>
   obtain ⟨m,gV⟩:=r;obtain ⟨m1,m2⟩:=Jh hg hs g1.tk h2;rw[h2] at h;cases h;refine ⟨⟨fun h=>absurd h (by show ¬((114:Nat)=108\/(114:Nat)=99);decide),v1,BM,m1,rz⟩,?_⟩
   unfold rA;simp only[jk,wF,Ay]
   have:gM.size=0:=rfl
   omega
theorem zru (s:fq)(n:Nat):BO s (stmt s n):=by
 induction n with
 | zero=>intro st x st' _ h;simp[stmt] at h
 | succ n ih =>
  intro st x st' ht h;have hgo:=jS s (n+1) _ _ _ ht h;have hlt:=hgo.lt;rw[stmt] at h;split at h
  ·rename_i ho;have g1:=gX ht ho;have l1:=g1.lt;obtain ⟨m1,m2⟩:=ztm s _ _ _ g1.tk h;exact ⟨m1,by omega⟩
  ·split at h
   ·rename_i ho;have g1:=gX ht ho;have l1:=g1.lt;obtain ⟨m1,m2⟩:=zuz s _ _ _ g1.tk h;exact ⟨m1,by omega⟩
   ·split at h
    ·rename_i ho;have g1:=gX ht ho;have l1:=g1.lt;obtain ⟨m1,m2⟩:=zxj (jS s n) ih _ _ _ g1.tk h;exact ⟨m1,by omega⟩
    ·split at h
     ·rename_i ho;have g1:=gX ht ho;have l1:=g1.lt;obtain ⟨m1,m2⟩:=zrh (jS s n) ih _ _ _ g1.tk h;exact ⟨m1,by omega⟩
     ·split at h
      ·rename_i ho;have g1:=gX ht ho;have l1:=g1.lt;obtain ⟨m1,m2⟩:=zcp (jS s n) ih _ _ _ g1.tk h;exact ⟨m1,by omega⟩
      ·have ho:x={ jk with op:=102 }:=by
        unfold uh at h;cases h1:need s ⟨#[102,97,105,108]⟩ st with
        | error p=>rw[h1] at h;cases h
        | ok st1 =>
         rw[h1] at h;simp only at h;cases h2:need s ⟨#[59]⟩ st1 with
         | error p=>rw[h2] at h;cases h
         | ok st2=>rw[h2] at h;cases h;rfl
       rw[ho];refine ⟨⟨fun h=>absurd h (by decide),aK _,BM,rz,rz⟩,?_⟩
       unfold rA;simp only[jk,wF,Ay]
       have:gM.size=0:=rfl
       omega
theorem Na (h:read s=.ok l):ru l/\oC l<=1200:=by
 unfold read at h;split at h
 ·cases h
 ·rename_i hz;cases hp:stmts s (stmt s (s.size+1)) (fun st=>st.t.k == 0) (s.size+1) [] ⟨tok s 0,0,-1⟩ with
  | error p=>rw[hp] at h;cases h
  | ok r =>
   obtain ⟨l',st⟩:=r;rw[hp] at h;simp only at h;split at h
   ·cases h
   ·cases h;have ht:=(uj s 0 (aK _)).1;obtain ⟨i1,i2⟩:=Ym (jS s _) (zru s _) _ _ _ _ _ _ ht rz hp;obtain ⟨g2,_⟩:=wQ (jS s _) _ _ _ _ _ _ ht hp;have h1:=g2.tk.ab;have h2:=g2.tk.le;rw[Ay] at i2;exact ⟨i1,by omega⟩
theorem Yn (iv:fq->Nat)(x:Option Ex):(lu iv x).length<=wF x+1:=by
 rw[vX];cases x with
 | none=>exact aj _
 | some e=>show iY e<=iY e+1;omega
theorem Yo (iw iv:fq->Nat)(x:Sm)(h1:∀ p,(mkS iw iv x.one p).length<=oC x.one)(h2:∀ p,(mkS iw iv x.two p).length<=oC x.two)(p:Nat):(kE iw iv x p).length<=rA x:=by
 have e1:=Yn iv x.ex;have e2:(wS iw iv x.fD x.ex x.gu x.undo x.n).length<=wF x.ex+4:=by
  unfold wS;split<;>simp<;>omega
 unfold kE rA;split
 ·simp;omega
 ·split
  ·omega
  ·split
   ·have a1:=h1 (p+(lu iv x.ex).length+1);have a2:=h2 (p+(lu iv x.ex).length+1+(mkS iw iv x.one (p+(lu iv x.ex).length+1)).length+1);dsimp only;split
    ·simp only[ay,aC,aL];omega
    ·simp only[ay,aC,aL];omega
   ·split
    ·have a1:=h1 (p+1);have a2:=h2 (p+1+(mkS iw iv x.one (p+1)).length+1);simp only[ay,aC,aL];omega
    ·split
     ·have a1:=h1 (p+2);simp only[ay,aC,aL];omega
     ·simp only[aC,aL];omega
theorem xA (iw iv:fq->Nat)(l:List Sm):∀ p,(mkS iw iv l p).length<=oC l:=by
 match l with
 | []=>intro p;rw[EL,Ay];exact aj _
 | ⟨op,fD,pl,ex,gu,fZ,undo,n,gG,one,two⟩::rest =>
  intro p;rw[CK,D6,ay]
  have:=Yo iw iv ⟨op,fD,pl,ex,gu,fZ,undo,n,gG,one,two⟩ (xA iw iv one) (xA iw iv two) p
  have:=xA iw iv rest (p+(kE iw iv ⟨op,fD,pl,ex,gu,fZ,undo,n,gG,one,two⟩ p).length)
  omega
theorem Ji (ws:List fq)(x:fq):(gN ws x).length<=ws.length+1:=by
 unfold gN;split<;>simp
theorem Nb (ws:List fq)(x:fq):fM ws x<=ws.length:=by
 induction ws with
 | nil=>rw[fM];exact aj _
 | cons v r ih =>
  rw[fM];split
  ·exact aK _
  ·rw[aC];omega
theorem Nc (x:Ex)(vs:List fq):(jU x vs).length<=vs.length+iY x:=by
 match x with
 | ⟨op,n,fD,pl,own,none,r⟩ =>
  have:=Ji vs fD
  rw[jU,iY];split<;>omega
 | ⟨op,n,fD,pl,own,some l,none⟩ =>
  have:=Nc l vs
  rw[jU,iY];omega
 | ⟨op,n,fD,pl,own,some l,some r⟩ =>
  have h1:=Nc l vs
  have:=Nc r (jU l vs)
  rw[jU,iY];omega
theorem zv0 (x:Option Ex)(vs:List fq):(nM x vs).length<=vs.length+wF x:=by
 cases x with
 | none=>exact aj _
 | some e=>exact Nc e vs
theorem zvv (x:Sm)(h1:∀ ws,(jq x.one ws).length<=ws.length+oC x.one)(h2:∀ ws,(jq x.two ws).length<=ws.length+oC x.two)(ws:List fq):(kM x ws).length<=ws.length+rA x:=by
 have b1:=Ji ws x.fD;have b2:=Ji (gN ws x.fD) x.undo;have a1:=h1 ws;have a2:=h2 (jq x.one ws);unfold kM vB rA
 repeat' split
 all_goals omega
theorem D7 (l:List Sm):∀ ws,(jq l ws).length<=ws.length+oC l:=by
 match l with
 | []=>intro ws;rw[GX];omega
 | ⟨op,fD,pl,ex,gu,fZ,undo,n,gG,one,two⟩::rest =>
  intro ws;rw[CV,D6]
  have:=zvv ⟨op,fD,pl,ex,gu,fZ,undo,n,gG,one,two⟩ (D7 one) (D7 two) ws
  have:=D7 rest (kM ⟨op,fD,pl,ex,gu,fZ,undo,n,gG,one,two⟩ ws)
  omega
theorem zvz (x:Sm)(h1:∀ ws,(iV x.one ws).length<=ws.length+oC x.one)(h2:∀ ws,(iV x.two ws).length<=ws.length+oC x.two)(vs:List fq):(kF x vs).length<=vs.length+rA x:=by
 have a0:=zv0 x.ex vs;have a1:=Ji (nM x.ex vs) x.fD;have a2:=Ji (nM x.ex vs) x.gu;have b1:=h1 vs;have b2:=h2 (iV x.one vs);have b3:=h1 (nM x.ex vs);have b4:=h2 (iV x.one (nM x.ex vs));unfold kF rA
 repeat' split
 all_goals omega
theorem FZ (l:List Sm):∀ vs,(iV l vs).length<=vs.length+oC l:=by
 match l with
 | []=>intro ws;rw[Lr];omega
 | ⟨op,fD,pl,ex,gu,fZ,undo,n,gG,one,two⟩::rest =>
  intro ws;rw[ET,D6]
  have:=zvz ⟨op,fD,pl,ex,gu,fZ,undo,n,gG,one,two⟩ (FZ one) (FZ two) ws
  have:=FZ rest (kF ⟨op,fD,pl,ex,gu,fZ,undo,n,gG,one,two⟩ ws)
  omega
theorem AA (k:Nat)(hk:k < 20):ni ⟨k,0,0⟩:=⟨hk,by show 0 < 65536;decide,by show 0 < 65536;decide,fun _=>rfl,fun _=>rfl⟩
theorem oD (k a:Nat)(hk:k < 20)(hn:iD k=1)(ha:a < 65536):ni ⟨k,a,0⟩:=⟨hk,ha,by show 0 < 65536;decide,(fun h=>by rw[show iD k=1 from hn] at h;cases h),fun _=>rfl⟩
theorem Rh (a b:Nat)(ha:a < 65536)(hb:b < 65536):ni ⟨18,a,b⟩:=⟨by show 18 < 20;decide,ha,hb,(fun h=>by cases h),fun h=>absurd rfl h⟩
theorem zhu (op:Nat):pR op < 20:=by
 unfold pR
 repeat' split
 all_goals decide
theorem Nf {iv:fq->Nat}(hv:∀ w,iv w < 65536)(x:Ex)(hg:sP x):∀ i∈jo iv x,ni i:=by
 match x,hg with
 | ⟨op,n,fD,pl,own,none,r⟩,hg =>
  rw[sP] at hg;rw[jo];split
  ·intro i hi;rw[bq.1 hi];exact oD 1 _ (by decide) rfl (hv _)
  ·intro i hi;rw[bq.1 hi];exact oD 0 _ (by decide) rfl (by omega)
 | ⟨op,n,fD,pl,own,some l,none⟩,hg =>
  rw[sP] at hg;rw[jo];intro i hi;rcases bR.1 hi with hi | hi
  ·exact Nf hv l hg i hi
  ·rw[bq.1 hi];exact AA 11 (by decide)
 | ⟨op,n,fD,pl,own,some l,some r⟩,hg =>
  rw[sP] at hg;rw[jo];intro i hi;rcases bR.1 hi with hi | hi
  ·rcases bR.1 hi with hi | hi
   ·exact Nf hv l hg.1 i hi
   ·exact Nf hv r hg.2 i hi
  ·rw[bq.1 hi];exact AA _ (zhu op)
variable {iv:fq->Nat}
theorem ztc (hv:∀ w,iv w < 65536)(x:Option Ex)(hg:DZ x):∀ i∈lu iv x,ni i:=by
 cases x with
 | none=>intro i hi;rw[bq.1 hi];exact oD 0 _ (by decide) rfl (by decide)
 | some e=>exact Nf hv e (hg e rfl)
variable {a b:List Ins}
theorem tQ (ha:∀ i∈a,ni i)(hb:∀ i∈b,ni i):∀ i∈a++b,ni i:=fun i hi=>(bR.1 hi).elim (ha i) (hb i)
theorem wG {j:Ins}(h:ni j):∀ i∈[j],ni i:=fun i hi=>by rw[bq.1 hi];exact h
theorem ztb {iw:fq->Nat}(hw:∀ w,iw w < 65536)(hv:∀ w,iv w < 65536)(x:Sm)(hg:xw x)(h1:∀ p,p+oC x.one < 65536->∀ i∈mkS iw iv x.one p,ni i)(h2:∀ p,p+oC x.two < 65536->∀ i∈mkS iw iv x.two p,ni i)(p:Nat)(hp:p+rA x < 65536):∀ i∈kE iw iv x p,ni i:=by
 have e1:=Yn iv x.ex;have o:=ztc hv x.ex hg.2.2.1;have hn:=hg.2.1;unfold rA at hp;unfold kE;split
 ·exact tQ o (wG (oD 2 _ (by decide) rfl (hv _)))
 ·split
  ·unfold wS;refine tQ o (tQ (wG (Rh _ _ (hw _) (by omega))) (tQ ?_ (wG ?_)))
   ·split
    ·intro i hi;cases hi
    ·exact wG (oD 19 _ (by decide) rfl (hw _))
   ·split
    ·exact AA 3 (by decide)
    ·exact oD 2 _ (by decide) rfl (hv _)
  ·split
   ·have a1:=xA iw iv x.one (p+(lu iv x.ex).length+1);have a2:=xA iw iv x.two (p+(lu iv x.ex).length+1+(mkS iw iv x.one (p+(lu iv x.ex).length+1)).length+1);dsimp only;split
    ·exact tQ o (tQ (wG (oD 13 _ (by decide) rfl (by omega))) (h1 _ (by omega)))
    ·exact tQ o (tQ (wG (oD 13 _ (by decide) rfl (by omega))) (tQ (h1 _ (by omega)) (tQ (wG (oD 12 _ (by decide) rfl (by omega))) (h2 _ (by omega)))))
   ·split
    ·have a1:=xA iw iv x.one (p+1);have a2:=xA iw iv x.two (p+1+(mkS iw iv x.one (p+1)).length+1);exact tQ (wG (oD 15 _ (by decide) rfl (by omega))) (tQ (h1 _ (by omega)) (tQ (wG (oD 16 _ (by decide) rfl (by omega))) (h2 _ (by omega))))
    ·split
     ·have a1:=xA iw iv x.one (p+2);exact tQ (wG (oD 0 _ (by decide) rfl (by omega))) (tQ (wG (oD 14 _ (by decide) rfl (by omega))) (tQ (h1 _ (by omega)) (wG (oD 12 _ (by decide) rfl (by omega)))))
     ·exact wG (AA 17 (by decide))
theorem Jj {iw iv:fq->Nat}(hw:∀ w,iw w < 65536)(hv:∀ w,iv w < 65536)(l:List Sm)(hg:ru l):∀ p,p+oC l < 65536->∀ i∈mkS iw iv l p,ni i:=by
 match l,hg with
 | [],_=>intro p _ i hi;rw[EL] at hi;cases hi
 | ⟨op,fD,pl,ex,gu,fZ,undo,n,gG,one,two⟩::rest,hg =>
  intro p hp;obtain ⟨g1,g2⟩:=Jc.1 hg;rw[D6] at hp;rw[CK];have a1:=Yo iw iv ⟨op,fD,pl,ex,gu,fZ,undo,n,gG,one,two⟩ (xA iw iv one) (xA iw iv two) p;exact tQ (ztb hw hv _ g1 (Jj hw hv one g1.2.2.2.1) (Jj hw hv two g1.2.2.2.2) p (by omega)) (Jj hw hv rest g2 _ (by omega))
theorem zx0 (h:read s=.ok l):vC (codeOf (iL l))=some (iL l):=by
 obtain ⟨hg,hz⟩:=Na h;have hw:=D7 l [];have hv:=FZ l [];simp only[aL] at hw hv;refine pS (by show (iV l []).length < 65536;omega) (by show (jq l []).length < 65536;omega) ?_ ?_
 ·exact Jg l (Yi h) [] (fun w hw=>by cases hw)
 ·refine Jj (fun w=>?_) (fun w=>?_) l hg 0 (by omega)
  ·have:=Nb (jq l []) w;omega
  ·have:=Nb (iV l []) w;omega
theorem zii (h:∀ w∈ws,OkW w):(ws.flatMap wU).length<=9 * ws.length:=by
 induction ws with
 | nil=>exact aK _
 | cons w ws ih =>
  have h1:=(h w (dK ..)).le;have h2:=ih fun v hv=>h v (List.mem_cons_of_mem _ hv)
  rw[dQ,ay,aC]
  have:(wU w).length=w.size+1:=by unfold wU;rfl
  omega
theorem zij (l:List Ins):(l.flatMap qm).length<=5 * l.length:=by
 induction l with
 | nil=>exact aK _
 | cons i l ih =>
  rw[dQ,ay,aC]
  have:(qm i).length<=5:=by
   unfold qm
   repeat' split
   all_goals simp[b2]
  omega
theorem Ri (h:read s=.ok l):(codeOf (iL l)).length<=65536:=by
 obtain ⟨hg,hz⟩:=Na h;have hw:=D7 l [];simp only[aL] at hw;have a1:=zii (Jg l (Yi h) [] (fun w hw=>by cases hw))
 have a2:=zij (iL l).ins;have a3:(iL l).ins.length<=oC l:=xA _ _ l 0
 have:(codeOf (iL l)).length=13+(((iL l).fT.flatMap wU).length+((iL l).ins.flatMap qm).length):=by
  unfold codeOf;simp only[ay];have b1:lN.length=9:=rfl;have b2':∀ n,(b2 n).length=2:=fun n=>rfl
  rw[b1,b2',b2'];omega
 have a4:(iL l).fT=jq l []:=rfl;rw[a4] at this;omega
abbrev iB:=Nat×Option Nat
def iX (k:Nat):Nat:=if k < 2 then 0 else if k < 4 then 1 else if k < 11 then 2 else if k=11 then 1 else if k=13\/k=14\/k=18\/k=19 then 1 else 0
def kX (k:Nat):Nat:=if k < 2 then 1 else if k < 4 then 0 else if k < 12 then 1 else if k=14\/k=18\/k=19 then 1 else 0
def jW (P:Pg)(i:Ins):Bool :=
 if i.k=1\/i.k=2 then i.a < P.nv else if i.k=18\/i.k=19 then i.a < P.fT.length else if 12<=i.k/\i.k<=16 then i.a < P.ins.length+1 else true
def gW (S:List (Option iB))(p:Nat):Option iB:=S.getD p none
def lV (S:List (Option iB))(t:Option Nat):Nat :=
 match t with
 | none=>0
 | some q=>(match gW S q with
  | none=>0
  | some s=>s.1)
def iN (S:List (Option iB))(p:Nat)(s:iB):Option (List (Option iB)) :=
 match gW S p with
 | none=>some (S.set p (some s))
 | some t=>if t=s then some S else none
def oK (S:List (Option iB))(at_:Nat)(i:Ins)(now:iB):Option (List (Option iB)) :=
 let next:iB:=(now.1+kX i.k - iX i.k,now.2)
 if i.k=12 then iN S i.a next
 else if i.k=13 then (iN S i.a next).bind fun S=>iN S (at_+1) next
 else if i.k=14 then (iN S i.a (next.1 - 1,next.2)).bind fun S=>iN S (at_+1) next
 else if i.k=15 then (iN S i.a now).bind fun S=>iN S (at_+1) (next.1,some at_)
 else if i.k=16 then iN S i.a ((gW S (now.2.getD 0)).getD (0,none))
 else iN S (at_+1) next
def mD (P:Pg)(S:List (Option iB))(at_:Nat)(i:Ins):Option (List (Option iB)) :=
 match gW S at_ with
 | none=>none
 | some now =>
  if !jW P i then none
  else if now.1 < iX i.k+lV S now.2 then none
  else if i.k=16/\(now.2=none\/now.1≠lV S now.2) then none
  else oK S at_ i now
def mM (P:Pg):List (Option iB)->Nat->List Ins->Option (List (Option iB))
 | S,_,[]=>some S
 | S,p,i::l=>(mD P S p i).bind fun S=>mM P S (p+1) l
def nX (n:Nat):List (Option iB):=some (0,none)::List.replicate n none
def lF (P:Pg):Bool :=
 match mM P (nX P.ins.length) 0 P.ins with
 | none=>false
 | some S=>(match gW S P.ins.length with
  | none=>true
  | some s=>s == (0,none))
theorem Jk (P:Pg)(a b:List Ins):∀ (S:List (Option iB)) (p:Nat),mM P S p (a++b)=(mM P S p a).bind fun S=>mM P S (p+a.length) b:=by
 induction a with
 | nil=>intro S p;rfl
 | cons i a ih =>
  intro S p;rw[bG,mM,mM];cases h:mD P S p i with
  | none=>rfl
  | some S1 =>
   show mM P S1 (p+1) (a++b)=(mM P S1 (p+1) a).bind _
   rw[ih S1 (p+1),aC,show p+1+a.length=p+(a.length+1) by omega]
theorem Jl (S:List (Option iB))(p q:Nat)(s:iB)(hp:p < S.length):gW (S.set p (some s)) q=if q=p then some s else gW S q:=by
 unfold gW;rw[aX,aX,List.getElem?_set];by_cases h:p=q
 ·rw[if_pos h,if_pos h.symm,if_pos (by omega)]<;>rfl
 ·rw[if_neg h,if_neg (fun e=>h e.symm)]
variable {S S':List (Option iB)}
theorem AB {s:iB}(hp:p < S.length)(h:gW S p=none\/gW S p=some s):∃ S',iN S p s=some S'/\S'.length=S.length/\∀ q,gW S' q=if q=p then some s else gW S q:=by
 unfold iN;rcases h with h | h
 ·rw[h];exact ⟨_,rfl,dM,fun q=>Jl S p q s hp⟩
 ·rw[h];simp only[if_true];refine ⟨S,rfl,rfl,fun q=>?_⟩
  by_cases hq:q=p
  ·rw[if_pos hq,hq,h]
  ·rw[if_neg hq]
def gQ (P:Pg)(F:Nat)(l:List Ins)(p:Nat)(s t:iB):Prop:=∀ S:List (Option iB),S.length=P.ins.length+1->p+l.length<=P.ins.length->gW S p=some s->lV S s.2<=F->(∀ q,s.2=some q->q < p) ->
 (∀ q,p < q->q < p+l.length->gW S q=none)->(l≠[]->gW S (p+l.length)=none\/gW S (p+l.length)=some t) ->
 ∃ S',mM P S p l=some S'/\S'.length=S.length/\gW S' (p+l.length)=some t/\∀ q,q<=p\/p+l.length < q->gW S' q=gW S q
theorem gQ.nil (P:Pg)(F p:Nat)(s:iB):gQ P F [] p s s:=by
 intro S hS hp h0 h1 _ h2 h3;exact ⟨S,rfl,rfl,h0,fun _ _=>rfl⟩
theorem D8 {t:Option Nat}(ht:∀ q,t=some q->q < p)(h:∀ q,q<=p->gW S' q=gW S q):lV S' t=lV S t:=by
 cases t with
 | none=>rfl
 | some q =>
  unfold lV;simp only;rw[h q (by have:=ht q rfl;omega)]
variable {P:Pg}
theorem gQ.app {s t u:iB}(ha:gQ P F a p s t)(hb:gQ P F b (p+a.length) t u)(hst:t.2=s.2)(hbe:b=[]->t=u):gQ P F (a++b) p s u:=by
 by_cases hne:a=[]
 ·subst hne;intro S hS hp h0 h1 hq h2 h3;obtain ⟨S1,e1,l1,k1,f1⟩:=ha S hS (by simp;omega) h0 h1 hq (fun q g1 g2=>absurd g2 (by simp;omega)) (fun h=>absurd rfl h)
  cases e1;have k2:gW S p=some t:=k1;exact hb S hS hp k2 (by rw[hst];exact h1) (fun q g=>hq q (by rw[<- hst];exact g)) h2 h3
 ·by_cases hnb:b=[]
  ·have:=hbe hnb
   subst hnb this;rw[dG];exact ha
  ·intro S hS hp h0 h1 hq h2 h3;rw[ay] at hp h2 h3;have la:0 < a.length:=bV.2 hne;have lb:0 < b.length:=bV.2 hnb;obtain ⟨S1,e1,l1,k1,f1⟩:=ha S hS (by omega) h0 h1 hq (fun q g1 g2=>h2 q g1 (by omega)) (fun _=>ak (h2 _ (by omega) (by omega)))
   obtain ⟨S2,e2,l2,k2,f2⟩:=hb S1 (by omega) (by omega) k1 (by rw[hst,D8 hq (fun q g=>f1 q (ak g))];omega) (fun q g=>by have:=hq q (by rw[<- hst];exact g);omega) (fun q g1 g2=>by rw[f1 q (ah g1)];exact h2 q (by omega) (by omega)) (fun _=>by
    rw[f1 _ (ah (by omega)),show p+a.length+b.length=p+(a.length+b.length) by omega]
    exact h3 (by simp[hne]))
   refine ⟨S2,by rw[Jk,e1];exact e2,by omega,?_,?_⟩
   ·rw[ay,<- dN];exact k2
   ·intro q hq';rw[ay] at hq';rw[f2 q (by omega),f1 q (by omega)]
variable {i:Ins}
theorem gQ.one {s:iB}(hk:i.k < 12\/16 < i.k)(hf:jW P i=true)(hh:iX i.k+F<=s.1):gQ P F [i] p s (s.1+kX i.k - iX i.k,s.2):=by
 intro S hS hp h0 h1 hq h2 h3;have hp':p+1<=P.ins.length:=hp;obtain ⟨S',e1,e2,e3⟩:=AB (S:=S) (p:=p+1) (s:=(s.1+kX i.k - iX i.k,s.2)) (by omega) (h3 (by simp))
 refine ⟨S',?_,e2,?_,?_⟩
 ·show (mD P S p i).bind (fun S=>mM P S (p+1) [])=some S'
  unfold mD;rw[h0];simp only;rw[hf,if_neg (by simp),if_neg (by omega),if_neg (by omega)]
  unfold oK;simp only;rw[if_neg (by omega),if_neg (by omega),if_neg (by omega),if_neg (by omega),if_neg (by omega),e1]
  all_goals rfl
 ·show gW S' (p+1)=_
  rw[e3,if_pos rfl]
 ·intro q hq'
  have:q≠p+1:=by
   have:[i].length=1:=rfl
   omega
  rw[e3,if_neg this]
theorem tV (h1:i.k=1\/i.k=2->i.a < P.nv)(h2:i.k=18\/i.k=19->i.a < P.fT.length)(h3:12<=i.k/\i.k<=16->i.a < P.ins.length+1):jW P i=true:=by
 unfold jW;split
 ·rename_i h;simpa using h1 h
 ·split
  ·rename_i h;simpa using h2 h
  ·split
   ·rename_i h;simpa using h3 h
   ·rfl
theorem zht (op:Nat):4<=pR op/\pR op<=10:=by
 unfold pR
 repeat' split
 all_goals omega
def xB (V:List fq):Ex->Prop
 | ⟨op,_,fD,_,_,none,_⟩=>op=119->iH V fD=true
 | ⟨_,_,_,_,_,some l,none⟩=>xB V l
 | ⟨_,_,_,_,_,some l,some r⟩=>xB V l/\xB V r
theorem Ng {P:Pg}{V:List fq}(hV:V.length=P.nv)(F h:Nat)(t:Option Nat)(hF:F<=h)(x:Ex)(hx:xB V x):∀ p,gQ P F (jo (fM V) x) p (h,t) (h+1,t):=by
 match x,hx with
 | ⟨op,n,fD,pl,own,none,r⟩,hx =>
  intro p;rw[xB] at hx;rw[jo];split
  ·rename_i ho
   have:=GV (hx ho)
   exact gQ.one (i:=⟨1,fM V fD,0⟩) (s:=(h,t)) (ak (by show 1 < 12;decide)) (tV (fun _=>by show fM V fD < P.nv;omega) (fun h=>by rcases h with h | h<;>cases h) (fun h=>absurd h (by show ¬ (12<=1/\1<=16);decide))) (by show 0+F<=h;omega)
  ·exact gQ.one (i:=⟨0,n,0⟩) (s:=(h,t)) (ak (by show 0 < 12;decide)) (tV (fun h=>by rcases h with h | h<;>cases h) (fun h=>by rcases h with h | h<;>cases h) (fun h=>absurd h (by show ¬ (12<=0/\0<=16);decide))) (by show 0+F<=h;omega)
 | ⟨op,n,fD,pl,own,some l,none⟩,hx =>
  intro p;rw[xB] at hx;rw[jo];refine gQ.app (t:=(h+1,t)) (Ng hV F h t hF l hx p) ?_ rfl (fun h=>by cases h)
  exact gQ.one (i:=⟨11,0,0⟩) (s:=(h+1,t)) (ak (by show 11 < 12;decide)) (tV (fun h=>by rcases h with h | h<;>cases h) (fun h=>by rcases h with h | h<;>cases h) (fun h=>absurd h (by show ¬ (12<=11/\11<=16);decide))) (by show 1+F<=h+1;omega)
 | ⟨op,n,fD,pl,own,some l,some r⟩,hx =>
  intro p;rw[xB] at hx;rw[jo];have hr:=zht op;have e1:iX (pR op)=2:=by unfold iX;rw[if_neg (by omega),if_neg (by omega),if_pos (by omega)]
  have e2:kX (pR op)=1:=by unfold kX;rw[if_neg (by omega),if_neg (by omega),if_pos (by omega)]
  refine gQ.app (t:=(h+2,t)) (gQ.app (t:=(h+1,t)) (Ng hV F h t hF l hx.1 p) (Ng hV F (h+1) t (by omega) r hx.2 _) rfl (fun e=>?_)) ?_ rfl (fun h=>by cases h)
  ·exfalso
   have:=uH (fM V) r
   rw[e] at this
   have:0 < iY r:=by
    match r with
    | ⟨_,_,_,_,_,none,_⟩=>rw[iY];decide
    | ⟨_,_,_,_,_,some l,none⟩=>rw[iY];omega
    | ⟨_,_,_,_,_,some l,some r⟩=>rw[iY];omega
   simp at *;omega
  ·have:=gQ.one (P:=P) (F:=F) (i:=⟨pR op,0,0⟩) (p:=p+(jo (fM V) l++jo (fM V) r).length) (s:=(h+2,t)) (ak (by show pR op < 12;omega)) (tV (fun h=>by show _ < _;exfalso;simp at h;omega) (fun h=>by exfalso;simp at h;omega) (fun h=>by exfalso;simp at h;omega)) (by show iX (pR op)+F<=h+2;omega)
   have e3:((h+2,t).1+kX (pR op) - iX (pR op),(h+2,t).2)=(h+1,t):=by rw[e1,e2]<;>rfl
   rw[e3] at this;exact this
structure rC (S S':List (Option iB)):Prop where
 len:S'.length=S.length
 keep:∀ q s,gW S q=some s->gW S' q=some s
theorem rC.refl (S:List (Option iB)):rC S S:=⟨rfl,fun _ _ h=>h⟩
theorem rC.trans {S S1 S2:List (Option iB)}(h:rC S S1)(k:rC S1 S2):rC S S2:=⟨k.len.trans h.len,fun q s e=>k.keep q s (h.keep q s e)⟩
theorem zfv {s:iB}(h:iN S p s=some S')(hp:p < S.length):rC S S'/\gW S' p=some s/\∀ q t,gW S' q=some t->gW S q=some t\/t=s:=by
 unfold iN at h;split at h
 ·rename_i hn;cases h;refine ⟨⟨dM,fun q t e=>?_⟩,by rw[Jl S p p s hp,if_pos rfl],fun q t e=>?_⟩
  ·rw[Jl S p q s hp];by_cases hq:q=p
   ·subst hq;rw[hn] at e;cases e
   ·rw[if_neg hq];exact e
  ·rw[Jl S p q s hp] at e;by_cases hq:q=p
   ·rw[if_pos hq] at e;cases e;exact ah rfl
   ·rw[if_neg hq] at e;exact ak e
 ·rename_i t hn;split at h
  ·rename_i ht;cases h;exact ⟨rC.refl _,by rw[hn,ht],fun q t e=>ak e⟩
  ·cases h
def qg (P:Pg)(S:List (Option iB)):Prop:=∀ p h q,gW S p=some (h,some q)->(∃ i,P.ins[q]?=some i/\i.k=15)/\∃ s,gW S q=some s/\s.1<=h
theorem qg.add (h:qg P S)(hl:rC S S'){s:iB}(hs:∀ q,s.2=some q->(∃ i,P.ins[q]?=some i/\i.k=15)/\∃ t,gW S q=some t/\t.1<=s.1)(hn:∀ q t,gW S' q=some t->gW S q=some t\/t=s):qg P S':=by
 intro p h' q e;rcases hn p _ e with g | g
 ·obtain ⟨a,t,b,c⟩:=h p h' q g;exact ⟨a,t,hl.keep _ _ b,c⟩
 ·subst g;obtain ⟨a,t,b,c⟩:=hs q rfl;exact ⟨a,t,hl.keep _ _ b,c⟩
variable {now:iB}
theorem xC (h:qg P S)(hl:rC S S')(e:gW S p=some now):lV S' now.2=lV S now.2/\lV S now.2<=now.1:=by
 obtain ⟨h0,t⟩:=now;cases t with
 | none=>exact ⟨rfl,aK _⟩
 | some q =>
  obtain ⟨_,s,b,c⟩:=h p h0 q e;unfold lV;simp only;rw[b,hl.keep _ _ b];exact ⟨rfl,c⟩
def sF (S:List (Option iB))(p:Nat)(i:Ins)(now:iB):Prop :=
 (i.k=12->gW S i.a=some now) /\
 (i.k=13->gW S i.a=some (now.1 - 1,now.2)/\gW S (p+1)=some (now.1 - 1,now.2)) /\
 (i.k=14->gW S i.a=some (now.1 - 1,now.2)/\gW S (p+1)=some now) /\
 (i.k=15->gW S i.a=some now/\gW S (p+1)=some (now.1,some p)) /\
 (i.k=16->∃ q s,now.2=some q/\gW S q=some s/\now.1=s.1/\gW S i.a=some s) /\
 (i.k < 12\/16 < i.k->gW S (p+1)=some (now.1+kX i.k - iX i.k,now.2))
def F3 (P:Pg)(S:List (Option iB))(p:Nat)(i:Ins):Prop:=∃ now,gW S p=some now/\jW P i=true/\iX i.k+lV S now.2<=now.1/\sF S p i now
theorem sF.le (hl:rC S S')(h:sF S p i now):sF S' p i now:=by
 obtain ⟨a,b,c,d,e,f⟩:=h;refine ⟨fun k=>hl.keep _ _ (a k),fun k=>⟨hl.keep _ _ (b k).1,hl.keep _ _ (b k).2⟩,fun k=>⟨hl.keep _ _ (c k).1,hl.keep _ _ (c k).2⟩,fun k=>⟨hl.keep _ _ (d k).1,hl.keep _ _ (d k).2⟩,fun k=>?_,fun k=>hl.keep _ _ (f k)⟩
 obtain ⟨q,s,e1,e2,e3,e4⟩:=e k;exact ⟨q,s,e1,hl.keep _ _ e2,e3,hl.keep _ _ e4⟩
theorem F3.le {P:Pg}{S S':List (Option iB)}(hT:qg P S)(hl:rC S S'){p:Nat}{i:Ins}(h:F3 P S p i):F3 P S' p i:=by
 obtain ⟨now,a,b,c,d⟩:=h;exact ⟨now,hl.keep _ _ a,b,by rw[(xC hT hl a).1];exact c,d.le hl⟩
def nO (S:List (Option iB))(c:Nat):Prop:=∀ q s,gW S q=some s->s.1<=c
theorem nO.add {c:Nat}(h:nO S c){s:iB}(hs:s.1<=c)(hn:∀ q t,gW S' q=some t->gW S q=some t\/t=s):nO S' c:=by
 intro q t e;rcases hn q t e with g | g
 ·exact h q t g
 ·rw[g];exact hs
theorem Nh (k:Nat):kX k<=1:=by
 unfold kX
 repeat' split
 all_goals omega
theorem AJ {c:Nat}{s:iB}(h:iN S p s=some S')(hp:p < S.length)(hT:qg P S)(hH:nO S c)(hs:∀ q,s.2=some q->(∃ i,P.ins[q]?=some i/\i.k=15)/\∃ t,gW S q=some t/\t.1<=s.1)(hc:s.1<=c):rC S S'/\gW S' p=some s/\qg P S'/\nO S' c:=by
 obtain ⟨a,b,d⟩:=zfv h hp;exact ⟨a,b,hT.add a hs d,hH.add hc d⟩
theorem look_ok (h:mD P S p i=some S')(hS:S.length=P.ins.length+1)(hp:P.ins[p]?=some i)(hT:qg P S)(hH:nO S p):rC S S'/\F3 P S' p i/\qg P S'/\nO S' (p+1):=by
 have hpl:p < P.ins.length:=(aU.1 hp).1;have hH1:nO S (p+1):=fun q s e=>by have:=hH q s e;omega
 unfold mD at h;split at h
 ·cases h
 ·rename_i now mX;have hn1:=hH p now mX;split at h
  ·cases h
  ·rename_i hf;have hf:jW P i=true:=by simpa using hf
   split at h
   ·cases h
   ·rename_i ht;split at h
    ·cases h
    ·rename_i hk;have hfl:=xC hT (rC.refl S) mX;have htr:∀ x:Nat,lV S now.2<=x->∀ q,now.2=some q->(∃ i,P.ins[q]?=some i/\i.k=15)/\∃ t,gW S q=some t/\t.1<=x:=by
      intro x hx q hq;obtain ⟨h0,t⟩:=now;subst hq;obtain ⟨g1,s,g2,g3⟩:=hT p h0 q mX;refine ⟨g1,s,g2,?_⟩;unfold lV at hx;simp only[g2] at hx;exact hx
     have hfa:12<=i.k/\i.k<=16->i.a < S.length:=by
      intro hr;unfold jW at hf;rw[if_neg (by omega),if_neg (by omega),if_pos hr] at hf
      have:=of_decide_eq_true hf
      omega
     unfold oK at h;simp only at h;split at h
     ·rename_i k;have e1:kX i.k=0:=by rw[k]<;>rfl
      have e2:iX i.k=0:=by rw[k]<;>rfl
      rw[e1,e2] at h;obtain ⟨a,b,c,d⟩:=AJ h (hfa (by omega)) hT hH1 (htr _ (by show _<=now.1+0 - 0;omega)) (by show now.1+0 - 0<=_;omega)
      refine ⟨a,⟨now,a.keep _ _ mX,hf,by rw[(xC hT a mX).1];omega,fun _=>b,by omega,by omega,by omega,by omega,by omega⟩,c,d⟩
     ·split at h
      ·rename_i k;have e1:kX i.k=0:=by rw[k]<;>rfl
       have e2:iX i.k=1:=by rw[k]<;>rfl
       rw[e2] at ht;rw[e1,e2] at h;cases h1:iN S i.a (now.1+0 - 1,now.2) with
       | none=>rw[h1] at h;cases h
       | some S1 =>
        rw[h1] at h
        replace h:iN S1 (p+1) (now.1+0 - 1,now.2)=some S':=h
        obtain ⟨a,b,c,d⟩:=AJ h1 (hfa (by omega)) hT hH1 (htr _ (by show _<=now.1+0 - 1;omega)) (by show now.1+0 - 1<=_;omega)
        obtain ⟨a',b',c',d'⟩:=AJ h (by rw[a.len];omega) c d (fun q hq=>by obtain ⟨u,s,v,x⟩:=htr _ (by show _<=now.1+0 - 1;omega) q hq;exact ⟨u,s,a.keep _ _ v,x⟩) (by show now.1+0 - 1<=_;omega)
        have aa:=a.trans a';refine ⟨aa,⟨now,aa.keep _ _ mX,hf,by rw[(xC hT aa mX).1,e2];omega,by omega,fun _=>⟨a'.keep _ _ b,b'⟩,by omega,by omega,by omega,by omega⟩,c',d'⟩
      ·split at h
       ·rename_i k;have e1:kX i.k=1:=by rw[k]<;>rfl
        have e2:iX i.k=1:=by rw[k]<;>rfl
        rw[e2] at ht;rw[e1,e2] at h;cases h1:iN S i.a (now.1+1 - 1 - 1,now.2) with
        | none=>rw[h1] at h;cases h
        | some S1 =>
         rw[h1] at h
         replace h:iN S1 (p+1) (now.1+1 - 1,now.2)=some S':=h
         obtain ⟨a,b,c,d⟩:=AJ h1 (hfa (by omega)) hT hH1 (htr _ (by show _<=now.1+1 - 1 - 1;omega)) (by show now.1+1 - 1 - 1<=_;omega)
         obtain ⟨a',b',c',d'⟩:=AJ h (by rw[a.len];omega) c d (fun q hq=>by obtain ⟨u,s,v,x⟩:=htr _ (by show _<=now.1+1 - 1;omega) q hq;exact ⟨u,s,a.keep _ _ v,x⟩) (by show now.1+1 - 1<=_;omega)
         have aa:=a.trans a';refine ⟨aa,⟨now,aa.keep _ _ mX,hf,by rw[(xC hT aa mX).1,e2];omega,by omega,by omega,fun _=>⟨a'.keep _ _ b,b'⟩,by omega,by omega,by omega⟩,c',d'⟩
       ·split at h
        ·rename_i k;have e1:kX i.k=0:=by rw[k]<;>rfl
         have e2:iX i.k=0:=by rw[k]<;>rfl
         rw[e1,e2] at h;cases h1:iN S i.a now with
         | none=>rw[h1] at h;cases h
         | some S1 =>
          rw[h1] at h
          replace h:iN S1 (p+1) (now.1+0 - 0,some p)=some S':=h
          obtain ⟨a,b,c,d⟩:=AJ h1 (hfa (by omega)) hT hH1 (htr _ hfl.2) (by omega)
          obtain ⟨a',b',c',d'⟩:=AJ h (by rw[a.len];omega) c d (fun q hq=>by cases hq;exact ⟨⟨i,hp,k⟩,now,a.keep _ _ mX,by show now.1<=now.1+0 - 0;omega⟩) (by show now.1+0 - 0<=_;omega)
          have aa:=a.trans a';refine ⟨aa,⟨now,aa.keep _ _ mX,hf,by rw[(xC hT aa mX).1,e2];omega,by omega,by omega,by omega,fun _=>⟨a'.keep _ _ b,b'⟩,by omega,by omega⟩,c',d'⟩
        ·split at h
         ·rename_i k;obtain ⟨h0,t⟩:=now;cases t with
          | none=>exact absurd ⟨k,ak rfl⟩ hk
          | some q =>
           obtain ⟨g1,s,g2,g3⟩:=hT p h0 q mX;have hs0:h0=s.1:=by
            by_cases e:h0=s.1
            ·exact e
            ·exact absurd ⟨k,ah (by unfold lV;simp only[g2];exact e)⟩ hk
           replace h:iN S i.a ((gW S q).getD (0,none))=some S':=h
           rw[g2] at h
           replace h:iN S i.a s=some S':=h
           obtain ⟨a,b,c,d⟩:=AJ h (hfa (by omega)) hT hH1 (fun r hr=>by
            obtain ⟨s1,s2⟩:=s;subst hr;exact hT q s1 r g2) (by have:=hH q s g2;omega)
           have ht':=(xC hT a mX).1;exact ⟨a,⟨(h0,some q),a.keep _ _ mX,hf,by rw[ht'];omega,by omega,by omega,by omega,by omega,fun _=>⟨q,s,rfl,a.keep _ _ g2,hs0,b⟩,by omega⟩,c,d⟩
         ·have hg:=Nh i.k;obtain ⟨a,b,c,d⟩:=AJ h (by omega) hT hH1 (htr _ (by show _<=now.1+kX i.k - iX i.k;omega)) (by show now.1+kX i.k - iX i.k<=_;omega)
          exact ⟨a,⟨now,a.keep _ _ mX,hf,by rw[(xC hT a mX).1];omega,by omega,by omega,by omega,by omega,by omega,fun _=>b⟩,c,d⟩
theorem Il:∀ (l:List Ins) (S S':List (Option iB)) (p:Nat),mM P S p l=some S'->S.length=P.ins.length+1->(∀ j,l[j]?=P.ins[p+j]?)->qg P S->nO S p->rC S S'/\(∀ j i,l[j]?=some i->F3 P S' (p+j) i)/\qg P S'/\nO S' (p+l.length):=by
 intro l;induction l with
 | nil=>intro S S' p h hS _ hT hH;cases h;exact ⟨rC.refl _,fun j i e=>by simp at e,hT,hH⟩
 | cons i l ih =>
  intro S S' p h hS hl hT hH;rw[mM] at h;cases h1:mD P S p i with
  | none=>rw[h1] at h;cases h
  | some S1 =>
   rw[h1] at h
   replace h:mM P S1 (p+1) l=some S':=h
   obtain ⟨a,b,c,d⟩:=look_ok h1 hS (by have:=hl 0;simpa using this.symm) hT hH
   obtain ⟨a',b',c',d'⟩:=ih S1 S' (p+1) h (by rw[a.len];exact hS) (fun j=>by have:=hl (j+1);rw[aM] at this;rw[this];congr 1;omega) c d
   refine ⟨a.trans a',fun j i' e=>?_,c',by rw[aC,show p+(l.length+1)=p+1+l.length by omega];exact d'⟩
   cases j with
   | zero=>simp at e;subst e;exact b.le c a'
   | succ j=>rw[show p+(j+1)=p+1+j by omega];exact b' j i' (by simpa using e)
structure xD (P:Pg)(S:List (Option iB)):Prop where
 len:S.length=P.ins.length+1
 ok:∀ p i,P.ins[p]?=some i->F3 P S p i
 AL:qg P S
 high:∀ q s,gW S q=some s->s.1<=P.ins.length
 start:gW S 0=some (0,none)
 fin:∀ s,gW S P.ins.length=some s->s=(0,none)
theorem zkm (h:lF P=true):∃ S,xD P S:=by
 unfold lF at h;split at h
 ·cases h
 ·rename_i S hS;have h0:gW (nX P.ins.length) 0=some (0,none):=rfl;have hs:∀ q s,gW (nX P.ins.length) q=some s->s=(0,none):=by
   intro q s e;unfold gW nX at e;cases q with
   | zero=>simp at e;exact e.symm
   | succ q =>
    rw[aX,aM,dH] at e;split at e<;>cases e
  obtain ⟨a,b,c,d⟩:=Il P.ins _ S 0 hS (by simp[nX]) (fun j=>by rw[bX]) (fun p h q e=>by have:=hs _ _ e;cases this) (fun q s e=>by rw[hs _ _ e];exact aj _)
  refine ⟨S,by rw[a.len];simp[nX],fun p i e=>by have:=b p i e;rwa [bX] at this,c,fun q s e=>by have:=d q s e;omega,a.keep _ _ h0,fun s e=>?_⟩
  rw[e] at h;exact beq_iff_eq.1 h
