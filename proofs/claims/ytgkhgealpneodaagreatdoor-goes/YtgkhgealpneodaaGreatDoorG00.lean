import Derived.Test.YtgkhgealpneodaaGreatDoorProg
import Derived.WalkSpells
import Derived.Deep.RegionLaw
set_option maxRecDepth 100000
namespace Go.Proofs.YtgkhgealpneodaaGreatDoor
abbrev dX:=ByteArray
abbrev dZ:=Value
abbrev dY:=World
abbrev dN:=@Array.getElem?_eq_none
abbrev aN:=@Array.getElem?_eq_some_iff
abbrev aD:=@Array.getElem?_push
abbrev dx:=@Array.length_toList
abbrev dS:=@Array.size_push
abbrev aI:=@Go.RowKit.Below.heap_alloc
abbrev bO:=@Go.RowKit.Below.heap_setCell
abbrev aF:=@Go.RowKit.Below.refl
abbrev bH:=@Bool.and_eq_true
abbrev bI:=@Bool.eq_iff_iff
abbrev dJ:=@Bool.false_eq_true
abbrev dD:=@Bool.not_eq_true'
abbrev dK:=@Bool.or_eq_false_iff
abbrev bY:=@Bool.or_eq_true
abbrev dW:=@ByteArray.size_extract
abbrev aP:=@ByteArray.toList_eq
abbrev aB:=@Calls.mono
abbrev aU:=@Decidable.byContradiction
abbrev aM:=@List.append_assoc
abbrev bQ:=@List.append_nil
abbrev bJ:=@List.cons_append
abbrev bM:=@List.dropLast_concat_getLast
abbrev bV:=@List.drop_eq_getElem_cons
abbrev dh:=@List.drop_of_length_le
abbrev aL:=@List.getD_eq_getElem?_getD
abbrev bg:=@List.getElem?_append_left
abbrev aY:=@List.getElem?_append_right
abbrev bC:=@List.getElem?_cons_succ
abbrev bN:=@List.getElem?_eq_getElem
abbrev aT:=@List.getElem?_eq_some_iff
abbrev bE:=@List.getElem?_take_of_lt
abbrev dV:=@List.getElem_cons_zero
abbrev dQ:=@List.getElem_of_mem
abbrev bP:=@List.getLastD_eq_getLast?
abbrev dB:=@List.isEmpty_iff
abbrev aC:=@List.length_append
abbrev aG:=@List.length_cons
abbrev cK:=@List.length_dropLast
abbrev bA:=@List.length_eq_zero_iff
abbrev aV:=@List.length_nil
abbrev bR:=@List.length_pos_iff
abbrev aS:=@List.length_singleton
abbrev dI:=@List.length_tail
abbrev bZ:=@List.length_take
abbrev dR:=@List.map_cons
abbrev bT:=@List.mem_append
abbrev bn:=@List.mem_cons
abbrev dA:=@List.mem_cons_self
abbrev bL:=@List.mem_of_getElem?
abbrev dP:=@List.mem_range
abbrev bD:=@List.mem_singleton
abbrev dz:=@List.nil_append
abbrev aR:=@List.prefix_refl
abbrev dO:=@List.reverse_cons
abbrev dM:=@List.tail_cons
abbrev dH:=@List.take_length
abbrev dG:=@List.take_of_length_le
abbrev aZ:=@List.take_succ_eq_append_getElem
abbrev dL:=@Nat.add_assoc
abbrev bU:=@Nat.le_of_lt
abbrev ay:=@Nat.le_refl
abbrev bF:=@Nat.le_succ
abbrev bq:=@Nat.le_succ_of_le
abbrev aK:=@Nat.le_trans
abbrev aJ:=@Nat.lt_of_lt_of_le
abbrev dF:=@Nat.lt_or_ge
abbrev bX:=@Nat.succ_pos
abbrev cZ:=@Nat.zero_add
abbrev aQ:=@Nat.zero_le
abbrev bG:=@Option.map_eq_some_iff
abbrev ak:=@Or.inl
abbrev aj:=@Or.inr
abbrev bK:=@World.cell?_alloc_lt
abbrev aH:=@World.cell?_of_block
abbrev dU:=@World.frozen?_alloc_old
abbrev cO:=@World.frozen?_of_block
abbrev aX:=@World.ownsRow_nil
abbrev ah:=@if_neg
abbrev aA:=@if_pos
abbrev fq(b:Nat):Go.Value:=.pointer (some ⟨b,0,none⟩)
abbrev eF(n:Int):Go.Value:=.int .i64 n
abbrev fM(v:Go.Value):Go.Ending:=.returned v
abbrev iE:Go.Value:=.slice none 0 0
abbrev fI:=Go.Calls Go.Proofs.Tryz.prog
abbrev gU(w v:Go.World):=Go.RowKit.Below w.heap.size w v
namespace Px
def mg(c:UInt8):Bool:=decide (97<=c.toNat)&&decide (c.toNat<=122)
def lT(c:UInt8):Bool:=decide (48<=c.toNat)&&decide (c.toNat<=57)
def rW(c:UInt8):Bool:=c==32||c==10
def kT:List UInt8:=[61,59,40,41,123,125,60,35,43,45,42,47]
def yg(c:UInt8):Bool:=kT.contains c
def yh:List (List UInt8):=[[108,101,116],[99,97,108,108],[97,115],[117,110,100,111],[116,114,105,101,115],[105,102],[101,108,115,101],[116,114,121],[114,101,112,101,97,116],[102,97,105,108],[116,114,117,101],[102,97,108,115,101],[110,111,116]]
def tN(w:List UInt8):Bool:=yh.contains w
def rX(p:UInt8->Bool)(s:dX):Nat->Nat->Nat
 |0,i=>i
 |n+1,i=>if h:i<s.size then(if p s[i]then rX p s n (i+1)else i)else i
def kU(p:UInt8->Bool)(s:dX)(i:Nat):Nat:=rX p s (s.size-i) i
theorem Vj(p:UInt8->Bool)(s:dX)(n i:Nat):i<=rX p s n i:=by
 induction n generalizing i with| zero=>simp[rX]| succ n ih=>
 unfold rX;split
 ·split;·have:=ih (i+1);omega
  omega
 omega
theorem sE(p:UInt8->Bool)(s:dX)(n i:Nat)(h:i<=s.size):rX p s n i<=s.size:=by
 induction n generalizing i with| zero=>simpa[rX]using h| succ n ih=>
 unfold rX;split
 ·split;·exact ih (i+1) (by omega)
  omega
 omega
theorem Pz(p:UInt8->Bool)(s:dX)(n i:Nat):∀k(hk:k<s.size),i<=k->k<rX p s n i->p s[k]=true:=by
 induction n generalizing i with| zero=>intro k hk h1 h2;simp[rX]at h2;omega| succ n ih=>
 intro k hk h1 h2;unfold rX at h2;split at h2
 ·split at h2
  ·rename_i hp;by_cases e:k=i;·subst e;exact hp
   exact ih (i+1) k hk (by omega) h2
  omega
 omega
theorem Vk(p:UInt8->Bool)(s:dX)(n i:Nat)(hn:s.size-i<=n):∀(h:rX p s n i<s.size),p s[rX p s n i]=false:=by
 induction n generalizing i with| zero=>intro h;simp[rX]at h;omega| succ n ih=>
 intro h;by_cases hi:i<s.size
 ·by_cases hp:p s[i]=true
  ·have e:rX p s (n+1) i=rX p s n (i+1):=by rw[rX,dif_pos hi,aA hp]
   simp only[e]at h |-;exact ih (i+1) (by omega) h
  have e:rX p s (n+1) i=i:=by rw[rX,dif_pos hi,ah hp]
  simp only[e]at h |-;simpa using hp
 have e:rX p s (n+1) i=i:=by rw[rX,dif_neg hi]
 simp only[e]at h;omega
theorem LP(p:UInt8->Bool)(s:dX)(i:Nat):i<=kU p s i:=Vj _ _ _ _
theorem AX(p:UInt8->Bool)(s:dX)(i:Nat)(h:i<=s.size):kU p s i<=s.size:=sE _ _ _ _ h
theorem yX(p:UInt8->Bool)(s:dX)(i k:Nat)(h1:i<=k)(h2:k<=s.size)(ha:∀j(hj:j<s.size),i<=j->j<k->p s[j]=true)(hs:∀(h:k<s.size),p s[k]=false):kU p s i=k:=by
 have g1:=LP p s i;have g2:=AX p s i (by omega);obtain h|h|h:=Nat.lt_trichotomy (kU p s i) k;·have:=Vk p s (s.size-i) i (ay _) (by unfold kU at h;omega);have h3:=ha (kU p s i) (by omega) g1 h;unfold kU at h3;rw[this]at h3;simp at h3
 ·exact h
 have h3:=Pz p s (s.size-i) i k (by omega) h1 h;rw[hs (by omega)]at h3;simp at h3
structure iy where
 k:Nat
 a:Nat
 b:Nat
def tQ(s:dX)(a:Nat):iy:=
 if h:a<s.size then
  if mg s[a]then
   if tN (s.extract a (kU mg s a)).toList then⟨107,a,kU mg s a⟩else if 8<kU mg s a-a then⟨63,a,a⟩else⟨119,a,kU mg s a⟩
  else if lT s[a]then
   if 4<kU lT s a-a then⟨63,a,a⟩else⟨110,a,kU lT s a⟩
  else if yg s[a]then⟨107,a,a+1⟩else⟨63,a,a⟩
 else⟨0,s.size,s.size⟩
def gY(s:dX)(i:Nat):iy:=tQ s (kU rW s i)
variable{s:dX}{a b:Nat}
theorem PD(h:¬a<s.size):tQ s a=⟨0,s.size,s.size⟩:=by rw[tQ,dif_neg h]
theorem LQ(h:a<s.size)(hs:mg s[a]=true)(hb:kU mg s a=b)(hk:tN (s.extract a b).toList=true):tQ s a=⟨107,a,b⟩:=by subst hb;rw[tQ,dif_pos h,aA hs,aA hk]
theorem LU(h:a<s.size)(hs:mg s[a]=true)(hb:kU mg s a=b)(hk:tN (s.extract a b).toList=false)(hl:8<b-a):tQ s a=⟨63,a,a⟩:=by subst hb;rw[tQ,dif_pos h,aA hs,ah (by simp[hk]),aA hl]
theorem LV(h:a<s.size)(hs:mg s[a]=true)(hb:kU mg s a=b)(hk:tN (s.extract a b).toList=false)(hl:¬8<b-a):tQ s a=⟨119,a,b⟩:=by subst hb;rw[tQ,dif_pos h,aA hs,ah (by simp[hk]),ah hl]
theorem LW(h:a<s.size)(hs:mg s[a]=false)(hd:lT s[a]=true)(hb:kU lT s a=b)(hl:4<b-a):tQ s a=⟨63,a,a⟩:=by subst hb;rw[tQ,dif_pos h,ah (by simp[hs]),aA hd,aA hl]
theorem LX(h:a<s.size)(hs:mg s[a]=false)(hd:lT s[a]=true)(hb:kU lT s a=b)(hl:¬4<b-a):tQ s a=⟨110,a,b⟩:=by subst hb;rw[tQ,dif_pos h,ah (by simp[hs]),aA hd,ah hl]
theorem PE(h:a<s.size)(hs:mg s[a]=false)(hd:lT s[a]=false)(hm:yg s[a]=true):tQ s a=⟨107,a,a+1⟩:=by rw[tQ,dif_pos h,ah (by simp[hs]),ah (by simp[hd]),aA hm]
theorem PG(h:a<s.size)(hs:mg s[a]=false)(hd:lT s[a]=false)(hm:yg s[a]=false):tQ s a=⟨63,a,a⟩:=by rw[tQ,dif_pos h,ah (by simp[hs]),ah (by simp[hd]),ah (by simp[hm])]
end Px
open Go.RowKit
theorem _root_.Go.RowKit.Hid.o{p:Prop}(h:Hid p):p:=h.out
structure Kp(b:Nat)(w w':dY):Prop where
 os:w'.os=w.os
 tape:w'.tape=w.tape
 output:w'.output=w.output
 size:w.heap.size<=w'.heap.size
 block:∀k,k<w.heap.size->k≠b->w'.heap[k]?=w.heap[k]?
theorem Kp.refl(b:Nat)(w:dY):Kp b w w:=⟨rfl,rfl,rfl,ay _,fun _ _ _=>rfl⟩
theorem Kp.trans{b:Nat}{w w1 w2:dY}(h:Kp b w w1)(k:Kp b w1 w2):Kp b w w2:=⟨k.os.trans h.os,k.tape.trans h.tape,k.output.trans h.output,aK h.size k.size,fun i hi hb=>(k.block i (aJ hi h.size) hb).trans (h.block i hi hb)⟩
theorem Kp.drew{b:Nat}{w w1:dY}(h:Kp b w w1):Kp b w w1.drew:=⟨h.os,h.tape,h.output,h.size,h.block⟩
theorem Kp.below{b:Nat}{w w1 w2:dY}(h:Kp b w w1)(k:gU w1 w2):Kp b w w2:=h.trans ⟨k.os,k.tape,k.output,k.size,fun i hi _=>k.block i hi⟩
theorem Kp.alloc{b:Nat}{w w1:dY}(h:Kp b w w1)(o:Obj):Kp b w (w1.alloc o):=h.below ((aF _ _).alloc (ay _) _)
theorem Kp.setCell{b:Nat}{w w1:dY}(h:Kp b w w1)(p:Addr)(hp:p.block=b\/w.heap.size<=p.block)(u:dZ):Kp b w (w1.setCell p u):=⟨h.os,h.tape,h.output,by simpa[World.setCell]using h.size,fun i hi hb=>by rw[bO _ _ _ _ (by obtain hp|hp:=hp<;>omega)];exact h.block i hi hb⟩
theorem Kp.kF{b o:Nat}{w w1:dY}(h:Kp b w w1)(u:dZ):Kp b w (w1.setCell ⟨b,o,none⟩ u):=h.setCell _ (ak rfl) u
theorem Kp.iD{b k o:Nat}{w w1:dY}(h:Kp b w w1)(hk:w.heap.size<=k)(u:dZ):Kp b w (w1.setCell ⟨k,o,none⟩ u):=h.setCell _ (aj hk) u
theorem Kp.cell{b:Nat}{w w':dY}(h:Kp b w w'){k o:Nat}(hk:k<w.heap.size)(hb:k≠b):w'.cell? ⟨k,o,none⟩=w.cell? ⟨k,o,none⟩:=aH (w:=w) (h.block k hk hb)
theorem Kp.qj{b B:Nat}{w w':dY}(h:Kp b w w')(hB:B<=b)(hs:B<=w.heap.size):Below B w w':=⟨h.os,h.tape,h.output,h.size,fun k hk=>h.block k (by omega) (by omega)⟩
theorem lt_of_cell{w:dY}{b o:Nat}{v:dZ}(h:w.cell? ⟨b,o,none⟩=some v):b<w.heap.size:=by
 obtain hb|hb:=dF b w.heap.size;·exact hb
 have:w.heap[b]?=none:=by simp[hb]
 simp[World.cell?,this]at h
theorem qR{w:dY}{k:Nat}{a b c d:dZ}{t:TypeId}(h:w.heap[k]?=some (.cells #[a,b,c,d] t)):w.cell? ⟨k,0,none⟩=some a/\w.cell? ⟨k,1,none⟩=some b/\w.cell? ⟨k,2,none⟩=some c/\w.cell? ⟨k,3,none⟩=some d/\∀o,w.frozen? ⟨k,o,none⟩=false:=by refine⟨?_,?_,?_,?_,?_⟩<;>simp[World.cell?,World.frozen?,h]
theorem sL{w W w1:dY}{o p:Obj}(hW:W.heap=(w.heap.push o).push p)(h:gU W w1):w1.heap[w.heap.size]?=some o/\w1.heap[w.heap.size+1]?=some p:=by
 have e0:W.heap.size=w.heap.size+2:=by rw[hW];simp
 constructor;·rw[h.block _ (by omega),hW,aD,ah (by simp),aD,aA rfl]
 rw[h.block _ (by omega),hW,aD,aA (by simp)]
theorem yY{b:Nat}{w w1:dY}{o:Obj}(h:Kp b (w.alloc o) w1)(hb:b<w.heap.size):w1.heap[w.heap.size]?=some o:=by rw[h.block _ (by simp) (by omega)];show(w.heap.push o)[w.heap.size]?=some o;rw[aD,aA rfl]
theorem Kp.wZ{b:Nat}{w w1:dY}{o:Obj}(h:Kp b (w.alloc o) w1):Kp b w w1:=((Kp.refl b w).alloc o).trans h
namespace Px
def gN(s:dX)(t:iy)(x:dX):Bool:=t.k==107&&(s.extract t.a t.b).toList==x.toList
def um(eP fu:Int)(a:Nat):Int:=if 4<=eP/\fu<0 then a else fu
structure fG where
 op:Nat
 n:Nat
 eH:dX
 pl:Nat
 own:Nat
 l:Option fG
 r:Option fG
structure Sm where
 op:Nat
 eH:dX
 pl:Nat
 ex:Option fG
 gH:dX
 gG:Nat
 undo:dX
 n:Nat
 gZ:Nat
 one:List Sm
 two:List Sm
structure eO where
 t:iy
 eP:Int
 fu:Int
def eZ(s:dX)(st:eO):eO:=⟨gY s st.t.b,st.eP,st.fu⟩
def dn(st:eO):eO:=⟨st.t,st.eP+1,um st.eP st.fu st.t.a⟩
def rC(st:eO):eO:=⟨st.t,st.eP-1,st.fu⟩
def txt(s:dX)(t:iy):dX:=s.extract t.a t.b
def iq(l:List UInt8):Nat:=l.foldl (fun n c=>10*n+(c.toNat-48)) 0
def iF:dX:=⟨#[]⟩
def gQ(s:dX)(part:eO->Except Nat (fG×eO))(a b:UInt8):Nat->Nat->fG->eO->Except Nat (fG×eO)
 |0,_,_,st=>.error st.t.a
 |n+1,pl,e,st=>
  if gN s st.t ⟨#[a]⟩then
   match part (eZ s st)with
   |.error p=>.error p
   |.ok (k,st')=>gQ s part a b n pl ⟨a.toNat,0,iF,pl,st.t.a,some e,some k⟩ st'
  else if gN s st.t ⟨#[b]⟩then
   match part (eZ s st)with
   |.error p=>.error p
   |.ok (k,st')=>gQ s part a b n pl ⟨b.toNat,0,iF,pl,st.t.a,some e,some k⟩ st'
  else .ok (e,st)
def row(s:dX)(part:eO->Except Nat (fG×eO))(a b:UInt8)(st:eO):Except Nat (fG×eO):=
 match part st with
 |.error p=>.error p
 |.ok (e,st')=>gQ s part a b (s.size+1) st.t.a e st'
def qm(s:dX)(fH:eO->Except Nat (fG×eO))(st:eO):Except Nat (fG×eO):=row s fH 42 47 st
def sum(s:dX)(fH:eO->Except Nat (fG×eO))(st:eO):Except Nat (fG×eO):=row s (qm s fH) 43 45 st
def qU(s:dX)(t:iy):Option Nat:=if gN s t ⟨#[60]⟩then some 60 else if gN s t ⟨#[61]⟩then some 61 else if gN s t ⟨#[35]⟩then some 35 else none
def expr(s:dX)(fH:eO->Except Nat (fG×eO))(st:eO):Except Nat (fG×eO):=
 match sum s fH st with
 |.error p=>.error p
 |.ok (e,st1)=>
  match qU s st1.t with
  |none=>.ok (e,st1)
  |some o=>
   match sum s fH (eZ s st1)with
   |.error p=>.error p
   |.ok (k,st2)=>.ok (⟨o,0,iF,st.t.a,st1.t.a,some e,some k⟩,st2)
def jo(op n:Nat)(w:dX)(a:Nat):fG:=⟨op,n,w,a,a,none,none⟩
def fH(s:dX):Nat->eO->Except Nat (fG×eO)
 |0,st=>.error st.t.a
 |n+1,st=>
  if st.t.k=110 then .ok (jo 110 (iq (txt s st.t).toList) iF st.t.a,eZ s st)
  else if st.t.k=119 then .ok (jo 119 0 (txt s st.t) st.t.a,eZ s st)
  else if gN s st.t ⟨#[116,114,117,101]⟩then .ok (jo 116 1 iF st.t.a,eZ s st)
  else if gN s st.t ⟨#[102,97,108,115,101]⟩then .ok (jo 116 0 iF st.t.a,eZ s st)
  else if gN s st.t ⟨#[110,111,116]⟩then
   match fH s n (eZ s st)with
   |.error p=>.error p
   |.ok (k,st')=>.ok (⟨33,0,iF,st.t.a,st.t.a,some k,none⟩,st')
  else if gN s st.t ⟨#[40]⟩then
   match expr s (fH s n) (eZ s (dn st))with
   |.error p=>.error p
   |.ok (e,st')=>if gN s st'.t ⟨#[41]⟩then .ok ({e with pl:=st.t.a},rC (eZ s st'))else .error st'.t.a
  else .error st.t.a
def lG(s:dX)(st:eO):Except Nat (fG×eO):=expr s (fH s (s.size+1)) st
def need(s:dX)(x:dX)(st:eO):Except Nat eO:=if gN s st.t x then .ok (eZ s st)else .error st.t.a
def kind(s:dX)(k:Nat)(st:eO):Except Nat eO:=if st.t.k=k then .ok (eZ s st)else .error st.t.a
def gy(s:dX)(fJ:eO->Except Nat (Sm×eO))(stop:eO->Bool):Nat->List Sm->eO->Except Nat (List Sm×eO)
 |0,_,st=>.error st.t.a
 |n+1,l,st=>
  if stop st then .ok (l,st)else
   match fJ st with
   |.error p=>.error p
   |.ok (x,st')=>gy s fJ stop n (l++[x]) st'
def block(s:dX)(fJ:eO->Except Nat (Sm×eO))(st:eO):Except Nat (List Sm×eO):=
 if gN s st.t ⟨#[123]⟩then
  match gy s fJ (fun st=>gN s st.t ⟨#[125]⟩) (s.size+1) [] (eZ s (dn st))with
  |.error p=>.error p
  |.ok (l,st')=>.ok (l,rC (eZ s st'))
 else .error st.t.a
def jY:Sm:=⟨0,iF,0,none,iF,0,iF,0,0,[],[]⟩
def ng(s:dX)(x:Sm)(st:eO):Except Nat (Sm×eO):=
 if gN s st.t ⟨#[97,115]⟩then
  match kind s 119 (eZ s st)with
  |.error p=>.error p
  |.ok st'=>.ok ({x with gH:=txt s (eZ s st).t,gG:=(eZ s st).t.a},st')
 else .ok (x,st)
def nT(s:dX)(x:Sm)(st:eO):Except Nat (Sm×eO):=
 if gN s st.t ⟨#[117,110,100,111]⟩then
  match kind s 119 (eZ s st)with
  |.error p=>.error p
  |.ok st'=>.ok ({x with undo:=txt s (eZ s st).t},st')
 else .ok (x,st)
def oP(s:dX)(x:Sm)(st:eO):Except Nat (Sm×eO):=
 if gN s st.t ⟨#[116,114,105,101,115]⟩then
  match kind s 110 (eZ s st)with
  |.error p=>.error p
  |.ok st'=>.ok ({x with n:=iq (txt s (eZ s st).t).toList,gZ:=(eZ s st).t.a},st')
 else .ok (x,st)
def nK(s:dX)(x:Sm)(st:eO):Except Nat (Sm×eO):=
 if gN s st.t ⟨#[41]⟩then .ok (x,st)else
  match lG s st with
  |.error p=>.error p
  |.ok (e,st')=>.ok ({x with ex:=some e},st')
def call(s:dX)(st:eO):Except Nat (Sm×eO):=
 match kind s 119 st with
 |.error p=>.error p
 |.ok st1=>
 match need s ⟨#[40]⟩ st1 with
 |.error p=>.error p
 |.ok st2=>
 match nK s {jY with op:=99,eH:=txt s st.t,pl:=st.t.a,n:=1} st2 with
 |.error p=>.error p
 |.ok (x3,jg)=>
 match need s ⟨#[41]⟩ jg with
 |.error p=>.error p
 |.ok lH=>
 match ng s x3 lH with
 |.error p=>.error p
 |.ok (x5,mD)=>
 match nT s x5 mD with
 |.error p=>.error p
 |.ok (x6,oq)=>
 match oP s x6 oq with
 |.error p=>.error p
 |.ok (x7,qV)=>
 match need s ⟨#[59]⟩ qV with
 |.error p=>.error p
 |.ok wH=>.ok (x7,wH)
def mF(s:dX)(st:eO):Except Nat (Sm×eO):=
 match kind s 119 st with
 |.error p=>.error p
 |.ok st1=>
 match need s ⟨#[61]⟩ st1 with
 |.error p=>.error p
 |.ok st2=>
 match lG s st2 with
 |.error p=>.error p
 |.ok (e,jg)=>
 match need s ⟨#[59]⟩ jg with
 |.error p=>.error p
 |.ok lH=>.ok ({jY with op:=108,eH:=txt s st.t,pl:=st.t.a,ex:=some e},lH)
def rD(s:dX)(fJ:eO->Except Nat (Sm×eO))(st:eO):Except Nat (Sm×eO):=
 match lG s st with
 |.error p=>.error p
 |.ok (e,st1)=>
 match block s fJ st1 with
 |.error p=>.error p
 |.ok (l,st2)=>
 if gN s st2.t ⟨#[101,108,115,101]⟩then
  match block s fJ (eZ s st2)with
  |.error p=>.error p
  |.ok (m,jg)=>.ok ({jY with op:=105,ex:=some e,one:=l,two:=m},jg)
 else .ok ({jY with op:=105,ex:=some e,one:=l},st2)
def mG(s:dX)(fJ:eO->Except Nat (Sm×eO))(st:eO):Except Nat (Sm×eO):=
 match block s fJ st with
 |.error p=>.error p
 |.ok (l,st1)=>
 match need s ⟨#[101,108,115,101]⟩ st1 with
 |.error p=>.error p
 |.ok st2=>
 match block s fJ st2 with
 |.error p=>.error p
 |.ok (m,jg)=>.ok ({jY with op:=116,one:=l,two:=m},jg)
def sG(s:dX)(fJ:eO->Except Nat (Sm×eO))(st:eO):Except Nat (Sm×eO):=
 match kind s 110 st with
 |.error p=>.error p
 |.ok st1=>
 match block s fJ st1 with
 |.error p=>.error p
 |.ok (l,st2)=>.ok ({jY with op:=114,n:=iq (txt s st.t).toList,gZ:=st.t.a,one:=l},st2)
def vR(s:dX)(st:eO):Except Nat (Sm×eO):=
 match need s ⟨#[102,97,105,108]⟩ st with
 |.error p=>.error p
 |.ok st1=>
 match need s ⟨#[59]⟩ st1 with
 |.error p=>.error p
 |.ok st2=>.ok ({jY with op:=102},st2)
def fJ(s:dX):Nat->eO->Except Nat (Sm×eO)
 |0,st=>.error st.t.a
 |n+1,st=>
  if gN s st.t ⟨#[108,101,116]⟩then mF s (eZ s st)
  else if gN s st.t ⟨#[99,97,108,108]⟩then call s (eZ s st)
  else if gN s st.t ⟨#[105,102]⟩then rD s (fJ s n) (eZ s st)
  else if gN s st.t ⟨#[116,114,121]⟩then mG s (fJ s n) (eZ s st)
  else if gN s st.t ⟨#[114,101,112,101,97,116]⟩then sG s (fJ s n) (eZ s st)
  else vR s st
def read(s:dX):Except (Nat×Nat) (List Sm):=
 if 300<s.size then .error (1,0)else
  match gy s (fJ s (s.size+1)) (fun st=>st.t.k==0) (s.size+1) [] ⟨gY s 0,0,-1⟩with
  |.error p=>.error (2,p)
  |.ok (l,st)=>if 0<=st.fu then .error (3,st.fu.toNat)else .ok l
variable{s x:dX}
theorem Vl{p:UInt8->Bool}{i:Nat}(h:i<s.size)(hp:p s[i]=true):i<kU p s i:=by unfold kU;obtain⟨n,hn⟩:∃n,s.size-i=n+1:=⟨s.size-i-1,by omega⟩;rw[hn,rX,dif_pos h,aA hp];have:=Vj p s n (i+1);omega
structure Tk(s:dX)(t:iy):Prop where
 ab:t.a<=t.b
 le:t.b<=s.size
 lt:t.k≠0->t.k≠63->t.a<t.b
 kinds:t.k=0\/t.k=63\/t.k=107\/t.k=110\/t.k=119
 fin:t.k=0->t.a=s.size
 num:t.k=110->t.b-t.a<=4/\∀j(hj:j<s.size),t.a<=j->j<t.b->lT s[j]=true
theorem sR(s:dX)(a:Nat)(ha:a<=s.size):Tk s (tQ s a)/\a<=(tQ s a).a:=by
 by_cases h:a<s.size
 ·cases hs:mg s[a]
  ·cases hd:lT s[a]
   ·cases hm:yg s[a];·rw[PG h hs hd hm];exact⟨⟨by simp,by simp;omega,by simp,by simp,by simp,by simp⟩,by simp⟩
    rw[PE h hs hd hm];exact⟨⟨by simp,by simp;omega,by simp,by simp,by simp,by simp⟩,by simp⟩
   by_cases hl:4<kU lT s a-a;·rw[LW h hs hd rfl hl];exact⟨⟨by simp,by simp;omega,by simp,by simp,by simp,by simp⟩,by simp⟩
   rw[LX h hs hd rfl hl];have g:=Vl h hd;have l:=AX lT s a ha;exact⟨⟨by simp;omega,by simpa using l,by intro _ _;exact g,by simp,by simp,by intro _;exact⟨by simp;omega,fun j hj h1 h2=>Pz lT s _ a j hj h1 h2⟩⟩,by simp⟩
  have g:=Vl h hs;have l:=AX mg s a ha;cases hk:tN (s.extract a (kU mg s a)).toList
  ·by_cases hl:8<kU mg s a-a;·rw[LU h hs rfl hk hl];exact⟨⟨by simp,by simp;omega,by simp,by simp,by simp,by simp⟩,by simp⟩
   rw[LV h hs rfl hk hl];exact⟨⟨by simp;omega,by simpa using l,by intro _ _;exact g,by simp,by simp,by simp⟩,by simp⟩
  rw[LQ h hs rfl hk];exact⟨⟨by simp;omega,by simpa using l,by intro _ _;exact g,by simp,by simp,by simp⟩,by simp⟩
 rw[PD h];exact⟨⟨by simp,by simp,by simp,by simp,by simp,by simp⟩,by simpa using ha⟩
theorem wI(s:dX)(i:Nat)(hi:i<=s.size):Tk s (gY s i)/\i<=(gY s i).a:=by have h:=sR s (kU rW s i) (AX _ _ _ hi);have g:=LP rW s i;exact⟨h.1,aK g h.2⟩
variable{t:iy}
theorem uT(h:gN s t x=true):t.k=107:=by unfold gN at h;simp at h;exact h.1
variable{a b st st':eO}
theorem yZ(h:Tk s st.t):Tk s (eZ s st).t:=(wI s st.t.b h.le).1
theorem Iz(h:Tk s st.t)(h0:st.t.k≠0)(h1:st.t.k≠63):st.t.a<(eZ s st).t.a:=aJ (h.lt h0 h1) (wI s st.t.b h.le).2
structure iV(s:dX)(st st':eO):Prop where
 tk:Tk s st'.t
 lt:st.t.a<st'.t.a
 eP:st'.eP=st.eP
theorem iV.trans{s:dX}{a b c:eO}(h:iV s a b)(k:iV s b c):iV s a c:=⟨k.tk,Nat.lt_trans h.lt k.lt,k.eP.trans h.eP⟩
theorem wJ(h:Tk s st.t)(h0:st.t.k≠0)(h1:st.t.k≠63):iV s st (eZ s st):=⟨yZ h,Iz h h0 h1,rfl⟩
theorem jh(h:Tk s st.t)(ho:gN s st.t x=true):iV s st (eZ s st):=wJ h (by rw[uT ho];decide) (by rw[uT ho];decide)
def fP{α:Type}(s:dX)(g:eO->Except Nat (α×eO)):Prop:=∀st x st',Tk s st.t->g st=.ok (x,st')->iV s st st'
variable{g:eO->Except Nat (fG×eO)}
theorem sT(hg:fP s g)(a b:UInt8)(n:Nat):∀(pl:Nat)(e:fG)(st:eO)(x:fG)(st':eO),Tk s st.t->gQ s g a b n pl e st=.ok (x,st')->Tk s st'.t/\st.t.a<=st'.t.a/\st'.eP=st.eP:=by
 induction n with| zero=>intro pl e st x st' _ h;simp[gQ]at h| succ n ih=>
 intro pl e st x st' ht h;rw[gQ]at h;by_cases ha:gN s st.t ⟨#[a]⟩=true
 ·rw[aA ha]at h;have g1:=jh ht ha;cases hp:g (eZ s st)with
  |error p=>rw[hp]at h;cases h
  |ok r=>
  obtain⟨k,st1⟩:=r;rw[hp]at h;have g2:=g1.trans (hg _ _ _ g1.tk hp);obtain⟨i1,i2,i3⟩:=ih _ _ _ _ _ g2.tk h;exact⟨i1,by have:=g2.lt;omega,by rw[i3,g2.eP]⟩
 rw[ah ha]at h;by_cases hb:gN s st.t ⟨#[b]⟩=true
 ·rw[aA hb]at h;have g1:=jh ht hb;cases hp:g (eZ s st)with
  |error p=>rw[hp]at h;cases h
  |ok r=>
  obtain⟨k,st1⟩:=r;rw[hp]at h;have g2:=g1.trans (hg _ _ _ g1.tk hp);obtain⟨i1,i2,i3⟩:=ih _ _ _ _ _ g2.tk h;exact⟨i1,by have:=g2.lt;omega,by rw[i3,g2.eP]⟩
 rw[ah hb]at h;cases h;exact⟨ht,ay _,rfl⟩
theorem Vm(hg:fP s g)(a b:UInt8):fP s (row s g a b):=by
 intro st x st' ht h;unfold row at h;cases hp:g st with
 |error p=>rw[hp]at h;cases h
 |ok r=>
 obtain⟨e,st1⟩:=r;rw[hp]at h;have g1:=hg _ _ _ ht hp;obtain⟨i1,i2,i3⟩:=sT hg a b _ _ _ _ _ _ g1.tk h;exact⟨i1,by have:=g1.lt;omega,by rw[i3,g1.eP]⟩
theorem D7(hg:fP s g):fP s (qm s g):=Vm hg _ _
theorem AY(hg:fP s g):fP s (sum s g):=Vm (D7 hg) _ _
theorem Gd{o:Nat}(h:qU s t=some o):t.k=107:=by
 unfold qU at h;split at h;·rename_i h1;exact uT h1
 split at h;·rename_i h1;exact uT h1
 split at h;·rename_i h1;exact uT h1
 cases h
theorem CJ(hg:fP s g):fP s (expr s g):=by
 intro st x st' ht h;unfold expr at h;cases hp:sum s g st with
 |error p=>rw[hp]at h;cases h
 |ok r=>
 obtain⟨e,st1⟩:=r;rw[hp]at h;have g1:=AY hg _ _ _ ht hp;simp only at h;cases hc:qU s st1.t with
 |none=>rw[hc]at h;cases h;exact g1
 |some o=>
 rw[hc]at h;have g2:=g1.trans (wJ g1.tk (by rw[Gd hc];decide) (by rw[Gd hc];decide));simp only at h;cases hq:sum s g (eZ s st1)with
 |error p=>rw[hq]at h;cases h
 |ok r2=>
 obtain⟨k,st2⟩:=r2;rw[hq]at h;cases h;exact g2.trans (AY hg _ _ _ g2.tk hq)
theorem rE(s:dX)(n:Nat):fP s (fH s n):=by
 induction n with| zero=>intro st x st' _ h;simp[fH]at h| succ n ih=>
 intro st x st' ht h;rw[fH]at h;split at h;·rename_i hk;cases h;exact wJ ht (by omega) (by omega)
 split at h;·rename_i hk;cases h;exact wJ ht (by omega) (by omega)
 split at h;·rename_i hk;cases h;exact jh ht hk
 split at h;·rename_i hk;cases h;exact jh ht hk
 split at h
 ·rename_i hk;have g1:=jh ht hk;cases hp:fH s n (eZ s st)with
  |error p=>rw[hp]at h;cases h
  |ok r=>
  obtain⟨k,st1⟩:=r;rw[hp]at h;cases h;exact g1.trans (ih _ _ _ g1.tk hp)
 split at h
 ·rename_i hk;have g1:=jh ht hk;cases hp:expr s (fH s n) (eZ s (dn st))with
  |error p=>rw[hp]at h;cases h
  |ok r=>
  obtain⟨k,st1⟩:=r;rw[hp]at h;simp only at h;have g2:=CJ ih _ _ _ (show Tk s (eZ s (dn st)).t from g1.tk) hp;split at h
  ·rename_i hc;cases h;have g3:=jh g2.tk hc;have h1:st.t.a<(eZ s (dn st)).t.a:=g1.lt;have h2:=g2.lt;have h3:=g3.lt;refine⟨g3.tk,?_,?_⟩;·show st.t.a<(eZ s st1).t.a;omega
   show st1.eP-1=st.eP;rw[g2.eP];show st.eP+1-1=st.eP;omega
  cases h
 cases h
theorem og(ht:Tk s st.t)(h:need s x st=.ok st'):iV s st st':=by
 unfold need at h;split at h;·rename_i ho;cases h;exact jh ht ho
 cases h
theorem qA{k:Nat}(ht:Tk s st.t)(hk:k≠0)(hk':k≠63)(h:kind s k st=.ok st'):iV s st st':=by
 unfold kind at h;split at h;·rename_i ho;cases h;exact wJ ht (by omega) (by omega)
 cases h
theorem uJ(s:dX):fP s (lG s):=CJ (rE s _)
structure jP(s:dX)(st st':eO):Prop where
 tk:Tk s st'.t
 le:st.t.a<=st'.t.a
 eP:st'.eP=st.eP
theorem iV.zero(h:iV s a b):jP s a b:=⟨h.tk,bU h.lt,h.eP⟩
theorem jP.trans{s:dX}{a b c:eO}(h:jP s a b)(k:jP s b c):jP s a c:=⟨k.tk,aK h.le k.le,k.eP.trans h.eP⟩
theorem iV.LY{c:eO}(h:iV s a b)(k:jP s b c):iV s a c:=⟨k.tk,aJ h.lt k.le,k.eP.trans h.eP⟩
theorem jP.refl(h:Tk s a.t):jP s a a:=⟨h,ay _,rfl⟩
theorem yt{g:eO->Except Nat (Sm×eO)}(hg:fP s g)(stop:eO->Bool)(n:Nat):∀(l:List Sm)(st:eO)(x:List Sm)(st':eO),Tk s st.t->gy s g stop n l st=.ok (x,st')->jP s st st'/\stop st'=true:=by
 induction n with
 |zero=>intro l st x st' _ h;simp[gy]at h
 |succ n ih=>
 intro l st x st' ht h;rw[gy]at h;split at h;·rename_i hs;cases h;exact⟨jP.refl ht,hs⟩
 cases hp:g st with
 |error p=>rw[hp]at h;cases h
 |ok r=>
 obtain⟨k,st1⟩:=r;rw[hp]at h;have g1:=hg _ _ _ ht hp;obtain⟨i1,i2⟩:=ih _ _ _ _ g1.tk h;exact⟨g1.zero.trans i1,i2⟩
theorem qW{g:eO->Except Nat (Sm×eO)}(hg:fP s g):fP s (block s g):=by
 intro st x st' ht h;unfold block at h;split at h
 ·rename_i ho;have g1:=jh ht ho;cases hp:gy s g (fun st=>gN s st.t ⟨#[125]⟩) (s.size+1) [] (eZ s (dn st))with
  |error p=>rw[hp]at h;cases h
  |ok r=>
  obtain⟨l,st1⟩:=r;rw[hp]at h;cases h;obtain⟨g2,hs⟩:=yt hg _ _ _ _ _ _ (show Tk s (eZ s (dn st)).t from g1.tk) hp;have g3:=jh g2.tk hs;have h1:st.t.a<(eZ s (dn st)).t.a:=g1.lt;have h2:=g2.le;have h3:=g3.lt;refine⟨g3.tk,?_,?_⟩;·show st.t.a<(eZ s st1).t.a;omega
  show st1.eP-1=st.eP;rw[g2.eP];show st.eP+1-1=st.eP;omega
 cases h
theorem sX(s:dX):fP s (mF s):=by
 intro st x st' ht h;unfold mF at h;cases h1:kind s 119 st with
 |error p=>rw[h1]at h;cases h
 |ok st1=>
 rw[h1]at h;simp only at h;have g1:=qA ht (by decide) (by decide) h1;cases h2:need s ⟨#[61]⟩ st1 with
 |error p=>rw[h2]at h;cases h
 |ok st2=>
 rw[h2]at h;simp only at h;have g2:=g1.trans (og g1.tk h2);cases h3:lG s st2 with
 |error p=>rw[h3]at h;cases h
 |ok r=>
 obtain⟨e,jg⟩:=r;rw[h3]at h;simp only at h;have g3:=g2.trans (uJ s _ _ _ g2.tk h3);cases h4:need s ⟨#[59]⟩ jg with
 |error p=>rw[h4]at h;cases h
 |ok lH=>
 rw[h4]at h;cases h;exact g3.trans (og g3.tk h4)
variable{y:Sm}
theorem IB{x:Sm}(ht:Tk s st.t)(h:ng s x st=.ok (y,st')):jP s st st':=by
 unfold ng at h;split at h
 ·rename_i ho;have g1:=jh ht ho;cases h1:kind s 119 (eZ s st)with
  |error p=>rw[h1]at h;cases h
  |ok st1=>rw[h1]at h;cases h;exact(g1.trans (qA g1.tk (by decide) (by decide) h1)).zero
 cases h;exact jP.refl ht
theorem IC{x:Sm}(ht:Tk s st.t)(h:nT s x st=.ok (y,st')):jP s st st':=by
 unfold nT at h;split at h
 ·rename_i ho;have g1:=jh ht ho;cases h1:kind s 119 (eZ s st)with
  |error p=>rw[h1]at h;cases h
  |ok st1=>rw[h1]at h;cases h;exact(g1.trans (qA g1.tk (by decide) (by decide) h1)).zero
 cases h;exact jP.refl ht
theorem IE{x:Sm}(ht:Tk s st.t)(h:oP s x st=.ok (y,st')):jP s st st':=by
 unfold oP at h;split at h
 ·rename_i ho;have g1:=jh ht ho;cases h1:kind s 110 (eZ s st)with
  |error p=>rw[h1]at h;cases h
  |ok st1=>rw[h1]at h;cases h;exact(g1.trans (qA g1.tk (by decide) (by decide) h1)).zero
 cases h;exact jP.refl ht
theorem IG{x:Sm}(ht:Tk s st.t)(h:nK s x st=.ok (y,st')):jP s st st':=by
 unfold nK at h;split at h;·cases h;exact jP.refl ht
 cases h1:lG s st with
 |error p=>rw[h1]at h;cases h
 |ok r=>obtain⟨e,st1⟩:=r;rw[h1]at h;cases h;exact(uJ s _ _ _ ht h1).zero
theorem sY(s:dX):fP s (call s):=by
 intro st x st' ht h;unfold call at h;cases h1:kind s 119 st with
 |error p=>rw[h1]at h;cases h
 |ok st1=>
 rw[h1]at h;simp only at h;have g1:=qA ht (by decide) (by decide) h1;cases h2:need s ⟨#[40]⟩ st1 with
 |error p=>rw[h2]at h;cases h
 |ok st2=>
 rw[h2]at h;simp only at h;have g2:=g1.trans (og g1.tk h2);cases h3:nK s {jY with op:=99,eH:=txt s st.t,pl:=st.t.a,n:=1} st2 with
 |error p=>rw[h3]at h;cases h
 |ok r3=>
 obtain⟨x3,jg⟩:=r3;rw[h3]at h;simp only at h;have g3:=g2.LY (IG g2.tk h3);cases h4:need s ⟨#[41]⟩ jg with
 |error p=>rw[h4]at h;cases h
 |ok lH=>
 rw[h4]at h;simp only at h;have g4:=g3.trans (og g3.tk h4);cases h5:ng s x3 lH with
 |error p=>rw[h5]at h;cases h
 |ok r5=>
 obtain⟨x5,mD⟩:=r5;rw[h5]at h;simp only at h;have g5:=g4.LY (IB g4.tk h5);cases h6:nT s x5 mD with
 |error p=>rw[h6]at h;cases h
 |ok r6=>
 obtain⟨x6,oq⟩:=r6;rw[h6]at h;simp only at h;have g6:=g5.LY (IC g5.tk h6);cases h7:oP s x6 oq with
 |error p=>rw[h7]at h;cases h
 |ok r7=>
 obtain⟨x7,qV⟩:=r7;rw[h7]at h;simp only at h;have g7:=g6.LY (IE g6.tk h7);cases h8:need s ⟨#[59]⟩ qV with
 |error p=>rw[h8]at h;cases h
 |ok wH=>rw[h8]at h;cases h;exact g7.trans (og g7.tk h8)
theorem tA{g:eO->Except Nat (Sm×eO)}(hg:fP s g):fP s (rD s g):=by
 intro st x st' ht h;unfold rD at h;cases h1:lG s st with
 |error p=>rw[h1]at h;cases h
 |ok r=>
 obtain⟨e,st1⟩:=r;rw[h1]at h;simp only at h;have g1:=uJ s _ _ _ ht h1;cases h2:block s g st1 with
 |error p=>rw[h2]at h;cases h
 |ok r=>
 obtain⟨l,st2⟩:=r;rw[h2]at h;simp only at h;have g2:=g1.trans (qW hg _ _ _ g1.tk h2);split at h
 ·rename_i ho;have g3:=g2.trans (jh g2.tk ho);cases h4:block s g (eZ s st2)with
  |error p=>rw[h4]at h;cases h
  |ok r=>obtain⟨m,jg⟩:=r;rw[h4]at h;cases h;exact g3.trans (qW hg _ _ _ g3.tk h4)
 cases h;exact g2
theorem tB{g:eO->Except Nat (Sm×eO)}(hg:fP s g):fP s (mG s g):=by
 intro st x st' ht h;unfold mG at h;cases h1:block s g st with
 |error p=>rw[h1]at h;cases h
 |ok r=>
 obtain⟨l,st1⟩:=r;rw[h1]at h;simp only at h;have g1:=qW hg _ _ _ ht h1;cases h2:need s ⟨#[101,108,115,101]⟩ st1 with
 |error p=>rw[h2]at h;cases h
 |ok st2=>
 rw[h2]at h;simp only at h;have g2:=g1.trans (og g1.tk h2);cases h3:block s g st2 with
 |error p=>rw[h3]at h;cases h
 |ok r=>obtain⟨m,jg⟩:=r;rw[h3]at h;cases h;exact g2.trans (qW hg _ _ _ g2.tk h3)
theorem tD{g:eO->Except Nat (Sm×eO)}(hg:fP s g):fP s (sG s g):=by
 intro st x st' ht h;unfold sG at h;cases h1:kind s 110 st with
 |error p=>rw[h1]at h;cases h
 |ok st1=>
 rw[h1]at h;simp only at h;have g1:=qA ht (by decide) (by decide) h1;cases h2:block s g st1 with
 |error p=>rw[h2]at h;cases h
 |ok r=>obtain⟨m,jg⟩:=r;rw[h2]at h;cases h;exact g1.trans (qW hg _ _ _ g1.tk h2)
theorem tE(s:dX):fP s (vR s):=by
 intro st x st' ht h;unfold vR at h;cases h1:need s ⟨#[102,97,105,108]⟩ st with
 |error p=>rw[h1]at h;cases h
 |ok st1=>
 rw[h1]at h;simp only at h;have g1:=og ht h1;cases h2:need s ⟨#[59]⟩ st1 with
 |error p=>rw[h2]at h;cases h
 |ok st2=>rw[h2]at h;cases h;exact g1.trans (og g1.tk h2)
theorem lQ(s:dX)(n:Nat):fP s (fJ s n):=by
 induction n with| zero=>intro st x st' _ h;simp[fJ]at h| succ n ih=>
 intro st x st' ht h;rw[fJ]at h;split at h;·rename_i ho;have g1:=jh ht ho;exact g1.trans (sX s _ _ _ g1.tk h)
 split at h;·rename_i ho;have g1:=jh ht ho;exact g1.trans (sY s _ _ _ g1.tk h)
 split at h;·rename_i ho;have g1:=jh ht ho;exact g1.trans (tA ih _ _ _ g1.tk h)
 split at h;·rename_i ho;have g1:=jh ht ho;exact g1.trans (tB ih _ _ _ g1.tk h)
 split at h;·rename_i ho;have g1:=jh ht ho;exact g1.trans (tD ih _ _ _ g1.tk h)
 exact tE s _ _ _ ht h
end Px
namespace Lg
open Px
def Gg(g:eO->Except Nat (fG×eO)):Prop:=∀st x st',g st=.ok (x,st')->x.pl=st.t.a
variable{s:dX}{g:eO->Except Nat (fG×eO)}
theorem tG{a b:UInt8}(n:Nat):∀(pl:Nat)(e:fG)(st:eO)(x:fG)(st':eO),e.pl=pl->gQ s g a b n pl e st=.ok (x,st')->x.pl=pl:=by
 induction n with| zero=>intro pl e st x st' _ h;simp[gQ]at h| succ n ih=>
 intro pl e st x st' he h;rw[gQ]at h;split at h
 ·cases hp:g (eZ s st)with
  |error p=>rw[hp]at h;cases h
  |ok r=>obtain⟨k,st1⟩:=r;rw[hp]at h;exact ih pl ⟨a.toNat,0,iF,pl,st.t.a,some e,some k⟩ _ _ _ rfl h
 split at h
 ·cases hp:g (eZ s st)with
  |error p=>rw[hp]at h;cases h
  |ok r=>obtain⟨k,st1⟩:=r;rw[hp]at h;exact ih pl ⟨b.toNat,0,iF,pl,st.t.a,some e,some k⟩ _ _ _ rfl h
 cases h;exact he
theorem Vn(hg:Gg g)(a b:UInt8):Gg (Px.row s g a b):=by
 intro st x st' h;unfold Px.row at h;cases hp:g st with
 |error p=>rw[hp]at h;cases h
 |ok r=>obtain⟨e,st1⟩:=r;rw[hp]at h;exact tG _ _ _ _ _ _ (hg _ _ _ hp) h
theorem tI(hg:Gg g):Gg (Px.expr s g):=by
 intro st x st' h;unfold Px.expr at h;cases hp:Px.sum s g st with
 |error p=>rw[hp]at h;cases h
 |ok r=>
 obtain⟨e,st1⟩:=r;rw[hp]at h;simp only at h;cases hc:qU s st1.t with
 |none=>rw[hc]at h;cases h;exact Vn (Vn hg _ _) _ _ _ _ _ hp
 |some o=>
 rw[hc]at h;simp only at h;cases hq:Px.sum s g (eZ s st1)with
 |error p=>rw[hq]at h;cases h
 |ok r2=>obtain⟨k,st2⟩:=r2;rw[hq]at h;cases h;rfl
theorem tM(s:dX)(n:Nat):Gg (fH s n):=by
 intro st x st' h;cases n with| zero=>simp[fH]at h| succ n=>
 rw[fH]at h;split at h;·cases h;rfl
 split at h;·cases h;rfl
 split at h;·cases h;rfl
 split at h;·cases h;rfl
 split at h
 ·cases hp:fH s n (eZ s st)with
  |error p=>rw[hp]at h;cases h
  |ok r=>obtain⟨k,st1⟩:=r;rw[hp]at h;cases h;rfl
 split at h
 ·cases hp:Px.expr s (fH s n) (eZ s (Px.dn st))with
  |error p=>rw[hp]at h;cases h
  |ok r=>
  obtain⟨k,st1⟩:=r;rw[hp]at h;simp only at h;split at h;·cases h;rfl
  cases h
 cases h
theorem PI(s:dX):Gg (lG s):=tI (tM s _)
end Lg
namespace Px
open Lg
structure gM where
 vars:List (dX×Nat)
 e:Nat
 pl:Nat
def say(e p:Nat)(c:gM):gM:=if c.e=0\/p<c.pl\/(p=c.pl/\e<c.e)then⟨c.vars,e,p⟩else c
def jG(l:List (dX×Nat))(w:dX):Option Nat:=
 match l with
 |[]=>none
 |(v,_)::r=>if v.toList==w.toList then some 0 else(jG r w).map (·+1)
def pG(l:List (dX×Nat))(i:Nat):Nat:=(l.getD i (⟨#[]⟩,0)).2
def jL(k want:Nat):Bool:=k==want||k==63
def vS(a b:Nat):Bool:=a != b&&a != 63&&b != 63
def Ai(op:Nat)(eH:dX)(own:Nat)(c:gM):Nat×gM:=
 if op=110 then(105,c)
 else if op=116 then(98,c)
 else
  match jG c.vars eH with
  |none=>(63,say 5 own c)
  |some i=>(pG c.vars i,c)
def sH(own:Nat)(r:Nat×gM):Nat×gM:=(98,if jL r.1 98 then r.2 else say 6 own r.2)
def pI(op own a:Nat)(r:Nat×gM):Nat×gM:=
 if op=61\/op=35 then(98,if vS a r.1 then say 6 own r.2 else r.2)
 else(if op=60 then 98 else 105,if jL a 105&&jL r.1 105 then r.2 else say 6 own r.2)
def jr:fG->gM->Nat×gM
 |⟨op,_,eH,_,own,none,_⟩,c=>Ai op eH own c
 |⟨_,_,_,_,own,some l,none⟩,c=>sH own (jr l c)
 |⟨op,_,_,_,own,some l,some r⟩,c=>pI op own (jr l c).1 (jr r (jr l c).2)
def nU:fG->Prop
 |⟨op,_,_,_,_,none,none⟩=>op=110\/op=116\/op=119
 |⟨op,_,_,_,_,some l,none⟩=>op=33/\nU l
 |⟨op,_,_,_,_,some l,some r⟩=>(op=42\/op=47\/op=43\/op=45\/op=60\/op=61\/op=35)/\nU l/\nU r
 |⟨_,_,_,_,_,none,some _⟩=>False
theorem nU.eD{x:fG}(h:nU x)(a:Nat):nU {x with pl:=a}:=by match x with| ⟨_,_,_,_,_,none,none⟩=>exact h| ⟨_,_,_,_,_,some _,none⟩=>exact h| ⟨_,_,_,_,_,some _,some _⟩=>exact h| ⟨_,_,_,_,_,none,some _⟩=>exact h
def AZ(g:eO->Except Nat (fG×eO)):Prop:=∀st x st',g st=.ok (x,st')->nU x
def CK(a:UInt8):Prop:=a.toNat=42\/a.toNat=47\/a.toNat=43\/a.toNat=45\/a.toNat=60\/a.toNat=61\/a.toNat=35
variable{s w:dX}{a b:UInt8}
theorem tP{g:eO->Except Nat (fG×eO)}(hg:AZ g)(ha:CK a)(hb:CK b)(n:Nat):∀(pl:Nat)(e:fG)(st:eO)(x:fG)(st':eO),nU e->gQ s g a b n pl e st=.ok (x,st')->nU x:=by
 induction n with| zero=>intro pl e st x st' _ h;simp[gQ]at h| succ n ih=>
 intro pl e st x st' he h;rw[gQ]at h;split at h
 ·cases hp:g (eZ s st)with
  |error p=>rw[hp]at h;cases h
  |ok r=>
  obtain⟨k,st1⟩:=r;rw[hp]at h;exact ih pl ⟨a.toNat,0,iF,pl,st.t.a,some e,some k⟩ _ _ _ ⟨ha,he,hg _ _ _ hp⟩ h
 split at h
 ·cases hp:g (eZ s st)with
  |error p=>rw[hp]at h;cases h
  |ok r=>
  obtain⟨k,st1⟩:=r;rw[hp]at h;exact ih pl ⟨b.toNat,0,iF,pl,st.t.a,some e,some k⟩ _ _ _ ⟨hb,he,hg _ _ _ hp⟩ h
 cases h;exact he
theorem Vo{g:eO->Except Nat (fG×eO)}(hg:AZ g)(ha:CK a)(hb:CK b):AZ (row s g a b):=by
 intro st x st' h;unfold row at h;cases hp:g st with
 |error p=>rw[hp]at h;cases h
 |ok r=>
 obtain⟨e,st1⟩:=r;rw[hp]at h;exact tP hg ha hb _ _ _ _ _ _ (hg _ _ _ hp) h
theorem PK{g:eO->Except Nat (fG×eO)}(hg:AZ g):AZ (sum s g):=Vo (Vo hg (by unfold CK;decide) (by unfold CK;decide)) (by unfold CK;decide) (by unfold CK;decide)
theorem Vp{g:eO->Except Nat (fG×eO)}(hg:AZ g):AZ (expr s g):=by
 intro st x st' h;unfold expr at h;cases hp:sum s g st with
 |error p=>rw[hp]at h;cases h
 |ok r=>
 obtain⟨e,st1⟩:=r;rw[hp]at h;simp only at h;cases hc:qU s st1.t with
 |none=>rw[hc]at h;cases h;exact PK hg _ _ _ hp
 |some o=>
 rw[hc]at h;simp only at h;have ho:o=60\/o=61\/o=35:=by
  unfold qU at hc;split at hc;·cases hc;simp
  split at hc;·cases hc;simp
  split at hc;·cases hc;simp
  cases hc
 cases hq:sum s g (eZ s st1)with
 |error p=>rw[hq]at h;cases h
 |ok r2=>
 obtain⟨k,st2⟩:=r2;rw[hq]at h;cases h;exact⟨by omega,PK hg _ _ _ hp,PK hg _ _ _ hq⟩
theorem tR(s:dX)(n:Nat):AZ (fH s n):=by
 induction n with| zero=>intro st x st' h;simp[fH]at h| succ n ih=>
 intro st x st' h;rw[fH]at h;split at h;·cases h;exact ak rfl
 split at h;·cases h;exact aj (aj rfl)
 split at h;·cases h;exact aj (ak rfl)
 split at h;·cases h;exact aj (ak rfl)
 split at h
 ·cases hp:fH s n (eZ s st)with
  |error p=>rw[hp]at h;cases h
  |ok r=>
  obtain⟨k,st1⟩:=r;rw[hp]at h;cases h;exact⟨rfl,ih _ _ _ hp⟩
 split at h
 ·cases hp:expr s (fH s n) (eZ s (dn st))with
  |error p=>rw[hp]at h;cases h
  |ok r=>
  obtain⟨k,st1⟩:=r;rw[hp]at h;simp only at h;split at h;·cases h;exact(Vp ih _ _ _ hp).eD _
  cases h
 cases h
theorem PL(s:dX):AZ (lG s):=Vp (tR s _)
def oQ(w:dX)(p k:Nat)(c:gM):gM:=
 match jG c.vars w with
 |none=>⟨c.vars++[(w,k)],c.e,c.pl⟩
 |some i=>if vS (pG c.vars i) k then say 6 p c else c
def nD(x:Option fG)(k:Nat)(c:gM):gM:=
 match x with
 |none=>c
 |some x=>if jL (jr x c).1 k then(jr x c).2 else say 6 x.pl (jr x c).2
def jv:List Sm->gM->gM
 |[],c=>c
 |⟨op,eH,pl,ex,gH,gG,_,n,gZ,one,two⟩::rest,c=>
  jv rest (
   if op=108 then
    match ex with
    |none=>c
    |some x=>oQ eH pl (jr x c).1 (jr x c).2
   else if op=99 then
    let c1:=nD ex 105 c
    let c2:=if gH.toList.isEmpty then c1 else oQ gH gG 105 c1
    if n<1\/5<n then say 4 gZ c2 else c2
   else if op=105 then jv two (jv one (nD ex 98 c))
   else if op=116 then jv two (jv one c)
   else if op=114 then jv one (if 9<n then say 4 gZ c else c)
   else c)
def gI(s:dX):Nat×Nat:=
 match read s with
 |.error r=>r
 |.ok l=>let c:=jv l ⟨[],0,0⟩;if c.e=0 then(0,0)else(c.e,c.pl)
def iJ:List Sm->Nat
 |[]=>0
 |⟨_,_,_,_,_,_,_,_,_,one,two⟩::rest=>1+iJ one+iJ two+iJ rest
def Aj(x:Option fG):Prop:=∀e,x=some e->nU e
def xg(x:Sm):Prop:=Aj x.ex/\((x.op=108/\x.ex≠none)\/x.op=99\/(x.op=105/\x.ex≠none)\/x.op=116\/x.op=114\/x.op=102)
def jZ:List Sm->Prop
 |[]=>True
 |⟨op,eH,pl,ex,gH,gG,undo,n,gZ,one,two⟩::rest=>xg ⟨op,eH,pl,ex,gH,gG,undo,n,gZ,one,two⟩/\jZ one/\jZ two/\jZ rest
theorem ze:jZ []:=by rw[jZ];trivial
variable{x y:Sm}{l:List Sm}
theorem Ak:jZ (x::l)↔xg x/\jZ x.one/\jZ x.two/\jZ l:=by obtain⟨op,eH,pl,ex,gH,gG,undo,n,gZ,one,two⟩:=x;rw[jZ]
theorem tS(h:jZ l)(h1:xg x)(h2:jZ x.one)(h3:jZ x.two):jZ (l++[x]):=by
 induction l with| nil=>exact Ak.2 ⟨h1,h2,h3,ze⟩| cons y l ih=>
 obtain⟨g1,g2,g3,g4⟩:=Ak.1 h;exact Ak.2 ⟨g1,g2,g3,ih g4⟩
theorem Al:iJ []=0:=by rw[iJ]
theorem D8(x:Sm)(l:List Sm):iJ (x::l)=1+iJ x.one+iJ x.two+iJ l:=by obtain⟨op,eH,pl,ex,gH,gG,undo,n,gZ,one,two⟩:=x;rw[iJ]
theorem tU(l:List Sm)(x:Sm):iJ (l++[x])=iJ l+1+iJ x.one+iJ x.two:=by induction l with| nil=>simp[D8,Al]| cons y l ih=>rw[bJ,D8,D8,ih];omega
def Gh(s:dX)(g:eO->Except Nat (Sm×eO)):Prop:=∀st x st',Tk s st.t->g st=.ok (x,st')->xg x/\jZ x.one/\jZ x.two/\st.t.a+1+iJ x.one+iJ x.two<=st'.t.a
variable{g:eO->Except Nat (Sm×eO)}
theorem Vq(hg:fP s g)(hm:Gh s g)(stop:eO->Bool)(n:Nat):∀(l:List Sm)(st:eO)(x:List Sm)(st':eO),Tk s st.t->jZ l->gy s g stop n l st=.ok (x,st')->jZ x/\st.t.a+iJ x<=st'.t.a+iJ l:=by
 induction n with
 |zero=>intro l st x st' _ _ h;simp[gy]at h
 |succ n ih=>
 intro l st x st' ht hl h;rw[gy]at h;split at h;·cases h;exact⟨hl,ay _⟩
 cases hp:g st with
 |error p=>rw[hp]at h;cases h
 |ok r=>
 obtain⟨k,st1⟩:=r;rw[hp]at h;have g1:=hg _ _ _ ht hp;obtain⟨m1,m2,m3,m4⟩:=hm _ _ _ ht hp;obtain⟨i1,i2⟩:=ih _ _ _ _ g1.tk (tS hl m1 m2 m3) h;rw[tU]at i2;exact⟨i1,by omega⟩
variable{st st':eO}
theorem II(hg:fP s g)(hm:Gh s g){x:List Sm}(ht:Tk s st.t)(h:block s g st=.ok (x,st')):jZ x/\st.t.a+iJ x<=st'.t.a:=by
 unfold block at h;split at h
 ·rename_i ho;have g1:=jh ht ho;cases hp:gy s g (fun st=>gN s st.t ⟨#[125]⟩) (s.size+1) [] (eZ s (dn st))with
  |error p=>rw[hp]at h;cases h
  |ok r=>
  obtain⟨l,st1⟩:=r;rw[hp]at h;cases h;obtain⟨g2,hs⟩:=yt hg _ _ _ _ _ _ (show Tk s (eZ s (dn st)).t from g1.tk) hp;obtain⟨i1,i2⟩:=Vq hg hm _ _ _ _ _ _ (show Tk s (eZ s (dn st)).t from g1.tk) ze hp;have g3:=jh g2.tk hs;have h1:st.t.a<(eZ s (dn st)).t.a:=g1.lt;have h3:st1.t.a<(eZ s st1).t.a:=g3.lt;rw[Al]at i2;refine⟨i1,?_⟩;show st.t.a+iJ _<=(eZ s st1).t.a;omega
 cases h
theorem LZ:Aj none:=fun e h=>by cases h
theorem L8{e:fG}(h:nU e):Aj (some e):=fun e' h'=>by cases h';exact h
theorem uA(s:dX)(h:mF s st=.ok (x,st')):xg x/\x.one=[]/\x.two=[]:=by
 unfold mF at h;cases h1:kind s 119 st with
 |error p=>rw[h1]at h;cases h
 |ok st1=>
 rw[h1]at h;simp only at h;cases h2:need s ⟨#[61]⟩ st1 with
 |error p=>rw[h2]at h;cases h
 |ok st2=>
 rw[h2]at h;simp only at h;cases h3:lG s st2 with
 |error p=>rw[h3]at h;cases h
 |ok r=>
 obtain⟨e,jg⟩:=r;rw[h3]at h;simp only at h;cases h4:need s ⟨#[59]⟩ jg with
 |error p=>rw[h4]at h;cases h
 |ok lH=>
 rw[h4]at h;cases h;exact⟨⟨L8 (PL s _ _ _ h3),ak ⟨rfl,by simp⟩⟩,rfl,rfl⟩
def Am(x:Sm):Prop:=Aj x.ex/\x.op=99/\x.one=[]/\x.two=[]
theorem uB(hx:Am x)(h:ng s x st=.ok (y,st')):Am y:=by
 unfold ng at h;split at h
 ·cases h1:kind s 119 (eZ s st)with
  |error p=>rw[h1]at h;cases h
  |ok st1=>rw[h1]at h;cases h;exact hx
 cases h;exact hx
theorem uC(hx:Am x)(h:nT s x st=.ok (y,st')):Am y:=by
 unfold nT at h;split at h
 ·cases h1:kind s 119 (eZ s st)with
  |error p=>rw[h1]at h;cases h
  |ok st1=>rw[h1]at h;cases h;exact hx
 cases h;exact hx
theorem vA(hx:Am x)(h:oP s x st=.ok (y,st')):Am y:=by
 unfold oP at h;split at h
 ·cases h1:kind s 110 (eZ s st)with
  |error p=>rw[h1]at h;cases h
  |ok st1=>rw[h1]at h;cases h;exact hx
 cases h;exact hx
theorem xF(hx:Am x)(h:nK s x st=.ok (y,st')):Am y:=by
 unfold nK at h;split at h;·cases h;exact hx
 cases h1:lG s st with
 |error p=>rw[h1]at h;cases h
 |ok r=>obtain⟨e,st1⟩:=r;rw[h1]at h;cases h;exact⟨L8 (PL s _ _ _ h1),hx.2⟩
theorem xN(s:dX)(h:call s st=.ok (x,st')):Am x:=by
 unfold call at h;cases h1:kind s 119 st with
 |error p=>rw[h1]at h;cases h
 |ok st1=>
 rw[h1]at h;simp only at h;cases h2:need s ⟨#[40]⟩ st1 with
 |error p=>rw[h2]at h;cases h
 |ok st2=>
 rw[h2]at h;simp only at h;cases h3:nK s {jY with op:=99,eH:=txt s st.t,pl:=st.t.a,n:=1} st2 with
 |error p=>rw[h3]at h;cases h
 |ok r3=>
 obtain⟨x3,jg⟩:=r3;rw[h3]at h;simp only at h;have g3:Am x3:=xF ⟨LZ,rfl,rfl,rfl⟩ h3;cases h4:need s ⟨#[41]⟩ jg with
 |error p=>rw[h4]at h;cases h
 |ok lH=>
 rw[h4]at h;simp only at h;cases h5:ng s x3 lH with
 |error p=>rw[h5]at h;cases h
 |ok r5=>
 obtain⟨x5,mD⟩:=r5;rw[h5]at h;simp only at h;have g5:=uB g3 h5;cases h6:nT s x5 mD with
 |error p=>rw[h6]at h;cases h
 |ok r6=>
 obtain⟨x6,oq⟩:=r6;rw[h6]at h;simp only at h;have g6:=uC g5 h6;cases h7:oP s x6 oq with
 |error p=>rw[h7]at h;cases h
 |ok r7=>
 obtain⟨x7,qV⟩:=r7;rw[h7]at h;simp only at h;have g7:=vA g6 h7;cases h8:need s ⟨#[59]⟩ qV with
 |error p=>rw[h8]at h;cases h
 |ok wH=>rw[h8]at h;cases h;exact g7
theorem yW(hg:fP s g)(hm:Gh s g)(ht:Tk s st.t)(h:rD s g st=.ok (x,st')):xg x/\jZ x.one/\jZ x.two/\st.t.a+iJ x.one+iJ x.two<=st'.t.a:=by
 unfold rD at h;cases h1:lG s st with
 |error p=>rw[h1]at h;cases h
 |ok r=>
 obtain⟨e,st1⟩:=r;rw[h1]at h;simp only at h;have g1:=uJ s _ _ _ ht h1;have w1:=PL s _ _ _ h1;have l1:=g1.lt;cases h2:block s g st1 with
 |error p=>rw[h2]at h;cases h
 |ok r=>
 obtain⟨l,st2⟩:=r;rw[h2]at h;simp only at h;have g2:=qW hg _ _ _ g1.tk h2;obtain⟨m1,m2⟩:=II hg hm g1.tk h2;split at h
 ·rename_i ho;have g3:=jh g2.tk ho;have l3:=g3.lt;cases h4:block s g (eZ s st2)with
  |error p=>rw[h4]at h;cases h
  |ok r=>
  obtain⟨m,jg⟩:=r;obtain⟨m3,m4⟩:=II hg hm g3.tk h4;rw[h4]at h;cases h;exact⟨⟨L8 w1,aj (aj (ak ⟨rfl,by simp⟩))⟩,m1,m3,by simp only;omega⟩
 cases h;exact⟨⟨L8 w1,aj (aj (ak ⟨rfl,by simp⟩))⟩,m1,ze,by simp only[jY,Al];omega⟩
theorem An(hg:fP s g)(hm:Gh s g)(ht:Tk s st.t)(h:mG s g st=.ok (x,st')):xg x/\jZ x.one/\jZ x.two/\st.t.a+iJ x.one+iJ x.two<=st'.t.a:=by
 unfold mG at h;cases h1:block s g st with
 |error p=>rw[h1]at h;cases h
 |ok r=>
 obtain⟨l,st1⟩:=r;rw[h1]at h;simp only at h;have g1:=qW hg _ _ _ ht h1;obtain⟨m1,m2⟩:=II hg hm ht h1;cases h2:need s ⟨#[101,108,115,101]⟩ st1 with
 |error p=>rw[h2]at h;cases h
 |ok st2=>
 rw[h2]at h;simp only at h;have g2:=og g1.tk h2;have l2:=g2.lt;cases h3:block s g st2 with
 |error p=>rw[h3]at h;cases h
 |ok r=>
 obtain⟨m,jg⟩:=r;obtain⟨m3,m4⟩:=II hg hm g2.tk h3;rw[h3]at h;cases h;exact⟨⟨LZ,aj (aj (aj (ak rfl)))⟩,m1,m3,by simp only;omega⟩
theorem As(hg:fP s g)(hm:Gh s g)(ht:Tk s st.t)(h:sG s g st=.ok (x,st')):xg x/\jZ x.one/\jZ x.two/\st.t.a+iJ x.one+iJ x.two<=st'.t.a:=by
 unfold sG at h;cases h1:kind s 110 st with
 |error p=>rw[h1]at h;cases h
 |ok st1=>
 rw[h1]at h;simp only at h;have g1:=qA ht (by decide) (by decide) h1;have l1:=g1.lt;cases h2:block s g st1 with
 |error p=>rw[h2]at h;cases h
 |ok r=>
 obtain⟨m,jg⟩:=r;obtain⟨m1,m2⟩:=II hg hm g1.tk h2;rw[h2]at h;cases h;exact⟨⟨LZ,aj (aj (aj (aj (ak rfl))))⟩,m1,ze,by simp only[jY,Al];omega⟩
theorem At(h:vR s st=.ok (x,st')):xg x/\x.one=[]/\x.two=[]:=by
 unfold vR at h;cases h1:need s ⟨#[102,97,105,108]⟩ st with
 |error p=>rw[h1]at h;cases h
 |ok st1=>
 rw[h1]at h;simp only at h;cases h2:need s ⟨#[59]⟩ st1 with
 |error p=>rw[h2]at h;cases h
 |ok st2=>rw[h2]at h;cases h;exact⟨⟨LZ,aj (aj (aj (aj (aj rfl))))⟩,rfl,rfl⟩
theorem Ax(s:dX)(n:Nat):Gh s (fJ s n):=by
 induction n with| zero=>intro st x st' _ h;simp[fJ]at h| succ n ih=>
 intro st x st' ht h;have hgo:=lQ s (n+1) _ _ _ ht h;have hlt:=hgo.lt;rw[fJ]at h;split at h;·obtain⟨m1,m2,m3⟩:=uA s h;rw[m2,m3,Al];exact⟨m1,ze,ze,by omega⟩
 split at h;·obtain⟨m1,m2,m3,m4⟩:=xN s h;rw[m3,m4,Al];exact⟨⟨m1,aj (ak m2)⟩,ze,ze,by omega⟩
 split at h;·rename_i ho;have g1:=jh ht ho;have l1:=g1.lt;obtain⟨m1,m2,m3,m4⟩:=yW (lQ s n) ih g1.tk h;exact⟨m1,m2,m3,by omega⟩
 split at h;·rename_i ho;have g1:=jh ht ho;have l1:=g1.lt;obtain⟨m1,m2,m3,m4⟩:=An (lQ s n) ih g1.tk h;exact⟨m1,m2,m3,by omega⟩
 split at h;·rename_i ho;have g1:=jh ht ho;have l1:=g1.lt;obtain⟨m1,m2,m3,m4⟩:=As (lQ s n) ih g1.tk h;exact⟨m1,m2,m3,by omega⟩
 obtain⟨m1,m2,m3⟩:=At h;rw[m2,m3,Al];exact⟨m1,ze,ze,by omega⟩
theorem Ao(h:read s=.ok l):jZ l/\iJ l<=300:=by
 unfold read at h;split at h;·cases h
 rename_i hz;cases hp:gy s (fJ s (s.size+1)) (fun st=>st.t.k==0) (s.size+1) [] ⟨gY s 0,0,-1⟩with
 |error p=>rw[hp]at h;cases h
 |ok r=>
 obtain⟨l',st⟩:=r;rw[hp]at h;simp only at h;split at h;·cases h
 cases h;have ht:=(wI s 0 (aQ _)).1;obtain⟨i1,i2⟩:=Vq (lQ s _) (Ax s _) _ _ _ _ _ _ ht ze hp;obtain⟨g2,_⟩:=yt (lQ s _) _ _ _ _ _ _ ht hp;have h1:=g2.tk.ab;have h2:=g2.tk.le;rw[Al]at i2;exact⟨i1,by omega⟩
theorem A8(e p:Nat)(c:gM):(say e p c).vars=c.vars:=by unfold say;split<;>rfl
theorem Aq(x:fG)(c:gM):(jr x c).2.vars=c.vars:=by
 match x with
 |⟨op,_,eH,_,own,none,_⟩=>
  show(Ai op eH own c).2.vars=_;unfold Ai;split;·rfl
  split;·rfl
  split;·exact A8 _ _ _
  rfl
 |⟨_,_,_,_,own,some l,none⟩=>
  show(sH own (jr l c)).2.vars=_;unfold sH;simp only;split;·exact Aq l c
  rw[A8];exact Aq l c
 |⟨op,_,_,_,own,some l,some r⟩=>
 show(pI op own (jr l c).1 (jr r (jr l c).2)).2.vars=_;have h1:=Aq l c;have h2:=Aq r (jr l c).2;unfold pI;split
 ·simp only;split;·rw[A8,h2,h1]
  rw[h2,h1]
 simp only;split;·rw[h2,h1]
 rw[A8,h2,h1]
theorem Vr(w:dX)(p k:Nat)(c:gM):(oQ w p k c).vars.length<=c.vars.length+1:=by
 unfold oQ;split;·simp
 split;·rw[A8];omega
 omega
theorem D9(x:Option fG)(k:Nat)(c:gM):(nD x k c).vars=c.vars:=by
 unfold nD;split;·rfl
 split;·exact Aq _ _
 rw[A8];exact Aq _ _
def qF(x:Sm)(c:gM):gM:=
 if x.op=108 then
  match x.ex with
  |none=>c
  |some e=>oQ x.eH x.pl (jr e c).1 (jr e c).2
 else if x.op=99 then
  let c1:=nD x.ex 105 c
  let c2:=if x.gH.toList.isEmpty then c1 else oQ x.gH x.gG 105 c1
  if x.n<1\/5<x.n then say 4 x.gZ c2 else c2
 else if x.op=105 then jv x.two (jv x.one (nD x.ex 98 c))
 else if x.op=116 then jv x.two (jv x.one c)
 else if x.op=114 then jv x.one (if 9<x.n then say 4 x.gZ c else c)
 else c
theorem L9(c:gM):jv [] c=c:=by rw[jv]
theorem Ma(x:Sm)(l:List Sm)(c:gM):jv (x::l) c=jv l (qF x c):=by obtain⟨op,eH,pl,ex,gH,gG,undo,n,gZ,one,two⟩:=x;rw[jv.eq_def];all_goals rfl
theorem zh(l:List Sm)(c:gM):(jv l c).vars.length<=c.vars.length+iJ l:=by
 match l with
 |[]=>rw[L9,Al];omega
 |⟨op,eH,pl,ex,gH,gG,undo,n,gZ,one,two⟩::rest=>
 rw[Ma,D8];have h0:=zh rest (qF ⟨op,eH,pl,ex,gH,gG,undo,n,gZ,one,two⟩ c);have h1:(qF ⟨op,eH,pl,ex,gH,gG,undo,n,gZ,one,two⟩ c).vars.length<=c.vars.length+1+iJ one+iJ two:=by
  unfold qF;simp only;split
  ·cases ex with| none=>simp only;omega| some e=>
   have:=Vr eH pl (jr e c).1 (jr e c).2;rw[Aq]at this;simp only;omega
  split
  ·have a1:=D9 ex 105 c;have a2:=Vr gH gG 105 (nD ex 105 c);rw[a1]at a2;split
   ·rw[A8];split;·rw[a1];omega
    omega
   split;·rw[a1];omega
   omega
  split;·have a1:=zh one (nD ex 98 c);have a2:=zh two (jv one (nD ex 98 c));rw[D9]at a1;omega
  split;·have a1:=zh one c;have a2:=zh two (jv one c);omega
  split
  ·have a1:=zh one (if 9<n then say 4 gZ c else c);have a3:(if 9<n then say 4 gZ c else c).vars=c.vars:=by
    split;·exact A8 _ _ _
    rfl
   rw[a3]at a1;omega
  omega
 have e1:(⟨op,eH,pl,ex,gH,gG,undo,n,gZ,one,two⟩:Sm).one=one:=rfl;have e2:(⟨op,eH,pl,ex,gH,gG,undo,n,gZ,one,two⟩:Sm).two=two:=rfl;rw[e1,e2];omega
def qB(e p:Nat)(c:gM):gM:=if c.e=0\/p<c.pl then⟨c.vars,e,p⟩else c
def qG(a b:Nat):Bool:=a==b||(a==63||b==63)
def CO(op:Nat)(eH:dX)(own:Nat)(c:gM):Nat×gM:=
 if op=110 then(105,c)
 else if op=116 then(98,c)
 else
  match jG c.vars eH with
  |none=>(63,qB 5 own c)
  |some i=>(pG c.vars i,c)
def oU(own:Nat)(r:Nat×gM):Nat×gM:=(98,if qG r.1 98 then r.2 else qB 6 own r.2)
def A9(op:Nat):Nat:=if op=61\/op=35 then 63 else 105
def Ea(op:Nat):Nat:=if op=61\/op=35\/op=60 then 98 else 105
def vT(op own a:Nat)(r:Nat×gM):Nat×gM:=(Ea op,if qG a (A9 op)&&qG r.1 (A9 op)&&qG a r.1 then r.2 else qB 6 own r.2)
def jM:fG->gM->Nat×gM
 |⟨op,_,eH,_,own,none,_⟩,c=>CO op eH own c
 |⟨_,_,_,_,own,some l,none⟩,c=>oU own (jM l c)
 |⟨op,_,_,_,own,some l,some r⟩,c=>vT op own (jM l c).1 (jM r (jM l c).2)
def uo(w:dX)(p k:Nat)(c:gM):gM:=
 match jG c.vars w with
 |none=>⟨c.vars++[(w,k)],c.e,c.pl⟩
 |some i=>if qG (pG c.vars i) k then c else qB 6 p c
def uq(x:fG)(k:Nat)(c:gM):gM:=if qG (jM x c).1 k then(jM x c).2 else qB 6 x.pl (jM x c).2
def ou(x:Option fG)(c:gM):gM:=
 match x with
 |none=>c
 |some x=>uq x 105 c
def tV(w:dX)(p:Nat)(c:gM):gM:=if w.size=0 then c else uo w p 105 c
def iP(n p least most:Nat)(c:gM):gM:=if n<least\/most<n then qB 4 p c else c
def kV:List Sm->gM->gM
 |[],c=>c
 |⟨op,eH,pl,ex,gH,gG,_,n,gZ,one,two⟩::rest,c=>
  kV rest (
   if op=108 then
    match ex with
    |none=>c
    |some x=>uo eH pl (jM x c).1 (jM x c).2
   else if op=99 then iP n gZ 1 5 (tV gH gG (ou ex c))
   else if op=105 then
    match ex with
    |none=>c
    |some x=>kV two (kV one (uq x 98 c))
   else if op=116 then kV two (kV one c)
   else if op=114 then kV one (iP n gZ 0 9 c)
   else c)
def Sp:fG->Nat->Nat->Prop
 |⟨_,_,_,_,own,none,none⟩,lo,hi=>lo<=own/\own<hi
 |⟨_,_,_,_,own,some l,none⟩,lo,hi=>lo<=own/\own<hi/\Sp l lo hi
 |⟨_,_,_,_,own,some l,some r⟩,lo,hi=>lo<=own/\own<hi/\∃mid,lo<=mid/\mid<=hi/\Sp l lo mid/\Sp r mid hi
 |⟨_,_,_,_,_,none,some _⟩,_,_=>False
theorem Sp.mono{x:fG}{lo hi lo' hi':Nat}(h:Sp x lo hi)(h1:lo'<=lo)(h2:hi<=hi'):Sp x lo' hi':=by
 match x with
 |⟨_,_,_,_,own,none,none⟩=>have h3:=h.1;have h4:=h.2;exact⟨by omega,by omega⟩
 |⟨_,_,_,_,own,some l,none⟩=>obtain⟨h3,h4,h5⟩:=h;exact⟨by omega,by omega,h5.mono h1 h2⟩
 |⟨_,_,_,_,own,some l,some r⟩=>obtain⟨h3,h4,mid,h5,h6,h7,h8⟩:=h;exact⟨by omega,by omega,mid,by omega,by omega,h7.mono h1 (ay _),h8.mono (ay _) h2⟩
 |⟨_,_,_,_,_,none,some _⟩=>exact h.elim
variable{hi i k lo m n p:Nat}
theorem Sp.eD{x:fG}(h:Sp x lo hi)(a:Nat):Sp {x with pl:=a} lo hi:=by match x with| ⟨_,_,_,_,own,none,none⟩=>exact h| ⟨_,_,_,_,own,some l,none⟩=>exact h| ⟨_,_,_,_,own,some l,some r⟩=>exact h| ⟨_,_,_,_,_,none,some _⟩=>exact h.elim
structure Inv(c:gM)(n:Nat):Prop where
 e:c.e<=6
 p:c.e=0\/c.pl<n
variable{c:gM}
theorem Inv.mono(h:Inv c n)(hm:n<=m):Inv c m:=⟨h.e,by obtain h|h:=h.p;exact ak h;exact aj (by omega)⟩
theorem Gi(p:Nat)(h:Inv c n):qB 6 p c=say 6 p c:=by
 unfold qB say;have:=h.e;by_cases h1:c.e=0\/p<c.pl;·rw[aA h1,aA (by omega)]
 rw[ah h1,ah (by omega)]
theorem PN{e:Nat}(h:Inv c n)(hp:n<=p):qB e p c=say e p c:=by
 unfold qB say;by_cases h0:c.e=0;·rw[aA (ak h0),aA (ak h0)]
 have:=h.p;rw[ah (by omega),ah (by omega)]
theorem Inv.say{c:gM}{n m e p:Nat}(h:Inv c n)(he:e<=6)(hp:p<m)(hm:n<=m):Inv (say e p c) m:=by
 unfold Px.say;split;·exact⟨he,aj hp⟩
 exact h.mono hm
theorem Mc(k want:Nat)(h:want≠63):qG k want=jL k want:=by
 unfold qG jL;have:(want==63)=false:=by simpa using h
 rw[this,Bool.or_false]
theorem Vt(a b:Nat):qG a b=!vS a b:=by unfold qG vS;cases h1:(a==b)<;>cases h2:(a==63)<;>cases h3:(b==63)<;>simp_all [bne]
def K3(k:Nat):Prop:=k=105\/k=98\/k=63
def V3(c:gM):Prop:=∀v∈c.vars,K3 v.2
theorem V3.say{c:gM}(h:V3 c)(e p:Nat):V3 (say e p c):=by unfold Px.say;split<;>exact h
theorem wK{l:List (dX×Nat)}(h:jG l w=some i):i<l.length:=by
 induction l generalizing i with
 |nil=>cases h
 |cons x r ih=>
 obtain⟨v,k⟩:=x;unfold jG at h;split at h;·cases h;simp
 cases hr:jG r w with
 |none=>rw[hr]at h;cases h
 |some j=>rw[hr]at h;cases h;have:=ih hr;simp;omega
theorem Md{l:List (dX×Nat)}(h:i<l.length):∃v∈l,pG l i=v.2:=by unfold pG;rw[List.getD,bN h];exact⟨l[i],List.getElem_mem h,rfl⟩
theorem IJ(x:fG):∀(c:gM)(lo hi:Nat),nU x->Sp x lo hi->Inv c lo->V3 c->jM x c=jr x c/\Inv (jr x c).2 hi/\V3 (jr x c).2/\K3 (jr x c).1:=by
 match x with
 |⟨op,n,eH,pl,own,none,none⟩=>
  intro c lo hi hw hs hi' hv;have h1:=hs.1;have h2:=hs.2;simp only[jM,jr,CO,Ai];split;·exact⟨rfl,hi'.mono (by omega),hv,ak rfl⟩
  split;·exact⟨rfl,hi'.mono (by omega),hv,aj (ak rfl)⟩
  cases hf:jG c.vars eH with| none=>exact⟨by simp only;rw[PN hi' h1],hi'.say (by omega) h2 (by omega),hv.say _ _,aj (aj rfl)⟩| some i=>
  obtain⟨v,hv1,hv2⟩:=Md (wK hf);exact⟨rfl,hi'.mono (by omega),hv,by simp only;rw[hv2];exact hv v hv1⟩
 |⟨op,n,eH,pl,own,some l,none⟩=>
  intro c lo hi hw hs hi' hv;obtain⟨h1,h2,h3⟩:=hs;obtain⟨e1,e2,e3,e4⟩:=IJ l c lo hi hw.2 h3 hi' hv;simp only[jM,jr,oU,sH];rw[e1,Mc _ _ (by decide)];split;·exact⟨rfl,e2,e3,aj (ak rfl)⟩
  exact⟨by rw[Gi _ e2],e2.say (by omega) h2 (ay _),e3.say _ _,aj (ak rfl)⟩
 |⟨op,n,eH,pl,own,some l,some r⟩=>
  intro c lo hi hw hs hi' hv;obtain⟨h1,h2,mid,h3,h4,h5,h6⟩:=hs;obtain⟨hop,hwl,hwr⟩:=hw;obtain⟨e1,e2,e3,e4⟩:=IJ l c lo mid hwl h5 hi' hv;obtain⟨f1,f2,f3,f4⟩:=IJ r (jr l c).2 mid hi hwr h6 e2 e3;simp only[jM,jr];rw[e1,f1];generalize jr l c=kl at *;generalize jr r kl.2=kr at *;unfold vT pI;by_cases ho:op=61\/op=35
  ·rw[aA ho,A9,aA ho,Ea,aA (by omega),Vt kl.1 kr.1];have t1:∀k,qG k 63=true:=by intro k;unfold qG;simp
   rw[t1,t1];cases hu:vS kl.1 kr.1;·exact⟨rfl,by simpa using f2,by simpa using f3,aj (ak rfl)⟩
   refine⟨?_,?_,?_,aj (ak rfl)⟩;·simp[Gi _ f2]
   ·simpa using f2.say (by omega) h2 (ay _)
   simpa using f3.say _ _
  rw[ah ho,A9,ah ho,Mc _ _ (by decide),Mc _ _ (by decide)];have hmk:Ea op=if op=60 then 98 else 105:=by unfold Ea;by_cases h:op=60<;>simp[h,ho]<;>omega
  rw[hmk];have hk3:K3 (if op=60 then 98 else 105):=by split;exact aj (ak rfl);exact ak rfl
  cases ha:jL kl.1 105;·simp only[Bool.false_and,dJ,if_false];exact⟨by rw[Gi _ f2],f2.say (by omega) h2 (ay _),f3.say _ _,hk3⟩
  cases hb:jL kr.1 105;·simp only[Bool.true_and,Bool.false_and,dJ,if_false];exact⟨by rw[Gi _ f2],f2.say (by omega) h2 (ay _),f3.say _ _,hk3⟩
  have:qG kl.1 kr.1=true:=by unfold jL at ha hb;unfold qG;simp only[bY,beq_iff_eq]at ha hb |-;omega
  rw[this];simp only[Bool.true_and,if_true];exact⟨trivial,f2,f3,hk3⟩
 |⟨_,_,_,_,_,none,some _⟩=>intro c lo hi hw;exact hw.elim
def Ss:List Sm->Nat->Nat->Prop
 |[],lo,hi=>lo<=hi
 |⟨op,_,pl,ex,gH,gG,_,n,gZ,one,two⟩::rest,lo,hi=>∃md,Ss rest md hi/\lo<=md /\
   ((op=108/\∃x,ex=some x/\Sp x lo md/\pl<md) \/
    (op=99/\∃m1 m2,lo<=m1/\m1<=m2/\m2<=md/\(∀x,ex=some x->Sp x lo m1/\x.pl<m1)/\(gH.size=0\/gG<m2)/\((1<=n/\n<=5)\/(m2<=gZ/\gZ<md))) \/
    (op=105/\∃x a b c d m1,ex=some x/\Sp x lo m1/\x.pl<m1/\m1<=a/\Ss one a b/\b<=c/\Ss two c d/\d<=md) \/
    (op=116/\∃a b c d,lo<=a/\Ss one a b/\b<=c/\Ss two c d/\d<=md) \/
    (op=114/\∃a b,lo<=gZ/\gZ<a/\Ss one a b/\b<=md)\/op=102)
def S1(x:Sm)(lo md:Nat):Prop:=lo<=md /\
   ((x.op=108/\∃e,x.ex=some e/\Sp e lo md/\x.pl<md) \/
    (x.op=99/\∃m1 m2,lo<=m1/\m1<=m2/\m2<=md/\(∀e,x.ex=some e->Sp e lo m1/\e.pl<m1)/\(x.gH.size=0\/x.gG<m2)/\((1<=x.n/\x.n<=5)\/(m2<=x.gZ/\x.gZ<md))) \/
    (x.op=105/\∃e a b c d m1,x.ex=some e/\Sp e lo m1/\e.pl<m1/\m1<=a/\Ss x.one a b/\b<=c/\Ss x.two c d/\d<=md) \/
    (x.op=116/\∃a b c d,lo<=a/\Ss x.one a b/\b<=c/\Ss x.two c d/\d<=md) \/
    (x.op=114/\∃a b,lo<=x.gZ/\x.gZ<a/\Ss x.one a b/\b<=md)\/x.op=102)
theorem PU:Ss [] lo hi↔lo<=hi:=by rw[Ss]
theorem Vu:Ss (x::l) lo hi↔∃md,Ss l md hi/\S1 x lo md:=by obtain⟨op,eH,pl,ex,gH,gG,undo,n,gZ,one,two⟩:=x;rw[Ss];all_goals rfl
def Ba(s:dX)(g:eO->Except Nat (fG×eO)):Prop:=∀st x st',Tk s st.t->g st=.ok (x,st')->Sp x st.t.a st'.t.a
theorem A0{g:eO->Except Nat (fG×eO)}(hg:fP s g)(hs:Ba s g)(a b:UInt8)(n:Nat):∀(pl lo:Nat)(e:fG)(st:eO)(x:fG)(st':eO),Tk s st.t->lo<=st.t.a->Sp e lo st.t.a->gQ s g a b n pl e st=.ok (x,st')->Sp x lo st'.t.a:=by
 induction n with| zero=>intro pl lo e st x st' _ _ _ h;simp[gQ]at h| succ n ih=>
 intro pl lo e st x st' ht hlo he h;rw[gQ]at h;split at h
 ·rename_i ho;have g0:=jh ht ho;have l0:=g0.lt;cases hp:g (eZ s st)with
  |error p=>rw[hp]at h;cases h
  |ok r=>
  obtain⟨k,st1⟩:=r;rw[hp]at h;have g1:=hg _ _ _ g0.tk hp;have l1:=g1.lt;exact ih pl lo ⟨a.toNat,0,iF,pl,st.t.a,some e,some k⟩ _ _ _ g1.tk (by omega) ⟨hlo,by omega,(eZ s st).t.a,by omega,by omega,he.mono (ay _) (by omega),hs _ _ _ g0.tk hp⟩ h
 split at h
 ·rename_i ho;have g0:=jh ht ho;have l0:=g0.lt;cases hp:g (eZ s st)with
  |error p=>rw[hp]at h;cases h
  |ok r=>
  obtain⟨k,st1⟩:=r;rw[hp]at h;have g1:=hg _ _ _ g0.tk hp;have l1:=g1.lt;exact ih pl lo ⟨b.toNat,0,iF,pl,st.t.a,some e,some k⟩ _ _ _ g1.tk (by omega) ⟨hlo,by omega,(eZ s st).t.a,by omega,by omega,he.mono (ay _) (by omega),hs _ _ _ g0.tk hp⟩ h
 cases h;exact he
theorem Vv{g:eO->Except Nat (fG×eO)}(hg:fP s g)(hs:Ba s g)(a b:UInt8):Ba s (row s g a b):=by
 intro st x st' ht h;unfold row at h;cases hp:g st with
 |error p=>rw[hp]at h;cases h
 |ok r=>
 obtain⟨e,st1⟩:=r;rw[hp]at h;have g1:=hg _ _ _ ht hp;exact A0 hg hs _ _ _ _ _ _ _ _ _ g1.tk (bU g1.lt) (hs _ _ _ ht hp) h
theorem Vw{g:eO->Except Nat (fG×eO)}(hg:fP s g)(hs:Ba s g):Ba s (sum s g):=Vv (D7 hg) (Vv hg hs _ _) _ _
theorem Vx{g:eO->Except Nat (fG×eO)}(hg:fP s g)(hs:Ba s g):Ba s (expr s g):=by
 intro st x st' ht h;unfold expr at h;cases hp:sum s g st with
 |error p=>rw[hp]at h;cases h
 |ok r=>
 obtain⟨e,st1⟩:=r;rw[hp]at h;simp only at h;have g1:=AY hg _ _ _ ht hp;have s1:=Vw hg hs _ _ _ ht hp;have l1:=g1.lt;cases hc:qU s st1.t with
 |none=>rw[hc]at h;cases h;exact s1
 |some o=>
 rw[hc]at h;simp only at h;have hk:=Gd hc;have g0:iV s st1 (eZ s st1):=wJ g1.tk (by rw[hk];decide) (by rw[hk];decide);have l0:=g0.lt;cases hq:sum s g (eZ s st1)with
 |error p=>rw[hq]at h;cases h
 |ok r2=>
 obtain⟨k,st2⟩:=r2;rw[hq]at h;have g2:=AY hg _ _ _ g0.tk hq;have s2:=Vw hg hs _ _ _ g0.tk hq;have l2:=g2.lt;cases h;exact⟨by omega,by omega,(eZ s st1).t.a,by omega,by omega,s1.mono (ay _) (by omega),s2⟩
theorem A4(s:dX)(n:Nat):Ba s (fH s n):=by
 induction n with| zero=>intro st x st' _ h;simp[fH]at h| succ n ih=>
 intro st x st' ht h;have hgo:=rE s (n+1) _ _ _ ht h;have hlt:=hgo.lt;rw[fH]at h;split at h;·cases h;exact⟨ay _,hlt⟩
 split at h;·cases h;exact⟨ay _,hlt⟩
 split at h;·cases h;exact⟨ay _,hlt⟩
 split at h;·cases h;exact⟨ay _,hlt⟩
 split at h
 ·rename_i ho;have g0:=jh ht ho;cases hp:fH s n (eZ s st)with
  |error p=>rw[hp]at h;cases h
  |ok r=>
  obtain⟨k,st1⟩:=r;rw[hp]at h;cases h;exact⟨ay _,hlt,(ih _ _ _ g0.tk hp).mono (bU g0.lt) (ay _)⟩
 split at h
 ·rename_i ho;have g0:=jh (st:=dn st) ht ho;have l0:st.t.a<(eZ s (dn st)).t.a:=g0.lt;cases hp:expr s (fH s n) (eZ s (dn st))with
  |error p=>rw[hp]at h;cases h
  |ok r=>
  obtain⟨k,st1⟩:=r;have g1:=CJ (rE s n) _ _ _ g0.tk hp;have s1:=Vx (rE s n) ih _ _ _ g0.tk hp;rw[hp]at h;simp only at h;split at h;·rename_i ho2;have g2:=jh g1.tk ho2;have l2:=g2.lt;cases h;exact(s1.mono (bU l0) (bU l2)).eD _
  cases h
 cases h
theorem PV(s:dX):Ba s (lG s):=Vx (rE s _) (A4 s _)
def zi(s:dX)(g:eO->Except Nat (Sm×eO)):Prop:=∀st x st',Tk s st.t->g st=.ok (x,st')->S1 x st.t.a st'.t.a
theorem Vy(hg:fP s g)(hs:zi s g)(stop:eO->Bool)(n:Nat):∀(l:List Sm)(st:eO)(x:List Sm)(st':eO),Tk s st.t->gy s g stop n l st=.ok (x,st')->∃r,x=l++r/\Ss r st.t.a st'.t.a:=by
 induction n with
 |zero=>intro l st x st' _ h;simp[gy]at h
 |succ n ih=>
 intro l st x st' ht h;rw[gy]at h;split at h;·cases h;exact⟨[],by simp,PU.2 (ay _)⟩
 cases hp:g st with
 |error p=>rw[hp]at h;cases h
 |ok r=>
 obtain⟨y,st1⟩:=r;rw[hp]at h;have g1:=hg _ _ _ ht hp;obtain⟨r,hr,h2⟩:=ih _ _ _ _ g1.tk h;exact⟨y::r,by rw[hr];simp,Vu.2 ⟨_,h2,hs _ _ _ ht hp⟩⟩
theorem IK(hg:fP s g)(hs:zi s g){x:List Sm}(ht:Tk s st.t)(h:block s g st=.ok (x,st')):∃a b,st.t.a<a/\Ss x a b/\b<=st'.t.a:=by
 unfold block at h;split at h
 ·rename_i ho;have g0:=jh (st:=dn st) ht ho;cases hp:gy s g (fun st=>gN s st.t ⟨#[125]⟩) (s.size+1) [] (eZ s (dn st))with
  |error p=>rw[hp]at h;cases h
  |ok r=>
  obtain⟨l,st1⟩:=r;rw[hp]at h;obtain⟨r,hr,h2⟩:=Vy hg hs _ _ _ _ _ _ g0.tk hp;obtain⟨g1,g2⟩:=yt hg _ _ _ _ _ _ g0.tk hp;have g3:=jh g1.tk g2;cases h;rw[dz]at hr;subst hr;exact⟨_,_,g0.lt,h2,bU g3.lt⟩
 cases h
theorem A5(s:dX):zi s (mF s):=by
 intro st x st' ht h;unfold mF at h;cases h1:kind s 119 st with
 |error p=>rw[h1]at h;cases h
 |ok st1=>
 rw[h1]at h;simp only at h;have g1:=qA ht (by decide) (by decide) h1;cases h2:need s ⟨#[61]⟩ st1 with
 |error p=>rw[h2]at h;cases h
 |ok st2=>
 rw[h2]at h;simp only at h;have g2:=og g1.tk h2;cases h3:lG s st2 with
 |error p=>rw[h3]at h;cases h
 |ok r=>
 obtain⟨e,jg⟩:=r;rw[h3]at h;simp only at h;have g3:=uJ s _ _ _ g2.tk h3;have s3:=PV s _ _ _ g2.tk h3;cases h4:need s ⟨#[59]⟩ jg with
 |error p=>rw[h4]at h;cases h
 |ok lH=>
 have g4:=og g3.tk h4;rw[h4]at h;cases h;have l1:=g1.lt;have l2:=g2.lt;have l3:=g3.lt;have l4:=g4.lt;exact⟨by omega,ak ⟨rfl,e,rfl,s3.mono (by omega) (by omega),by show st.t.a<_;omega⟩⟩
theorem A6(s:dX):zi s (call s):=by
 intro st x st' ht h;unfold call at h;cases h1:kind s 119 st with
 |error p=>rw[h1]at h;cases h
 |ok st1=>
 rw[h1]at h;simp only at h;have g1:=qA ht (by decide) (by decide) h1;cases h2:need s ⟨#[40]⟩ st1 with
 |error p=>rw[h2]at h;cases h
 |ok st2=>
 rw[h2]at h;simp only at h;have g2:=og g1.tk h2;generalize hz:({jY with op:=99,eH:=txt s st.t,pl:=st.t.a,n:=1}:Sm)=x2 at h;have z0:x2.op=99/\x2.n=1/\x2.gH.size=0/\x2.ex=none:=by rw[<- hz];exact⟨rfl,rfl,rfl,rfl⟩
 cases h3:nK s x2 st2 with
 |error p=>rw[h3]at h;cases h
 |ok r=>
 obtain⟨x3,jg⟩:=r;rw[h3]at h;simp only at h;have g3:=IG g2.tk h3;have z3:x3.op=99/\x3.n=1/\x3.gH.size=0/\(∀e,x3.ex=some e->Sp e st2.t.a jg.t.a/\e.pl<jg.t.a):=by
  unfold nK at h3;split at h3;·cases h3;exact⟨z0.1,z0.2.1,z0.2.2.1,fun e he=>by rw[z0.2.2.2]at he;cases he⟩
  cases hp:lG s st2 with
  |error p=>rw[hp]at h3;cases h3
  |ok r=>
  obtain⟨e,Eb⟩:=r;rw[hp]at h3;cases h3;refine⟨z0.1,z0.2.1,z0.2.2.1,fun e' he=>?_⟩;cases he;exact⟨PV s _ _ _ g2.tk hp,by rw[PI s _ _ _ hp];exact(uJ s _ _ _ g2.tk hp).lt⟩
 cases h4:need s ⟨#[41]⟩ jg with
 |error p=>rw[h4]at h;cases h
 |ok lH=>
 rw[h4]at h;simp only at h;have g4:=og g3.tk h4;cases h5:ng s x3 lH with
 |error p=>rw[h5]at h;cases h
 |ok r5=>
 obtain⟨x5,mD⟩:=r5;rw[h5]at h;simp only at h;have g5:=IB g4.tk h5;have z5:x5.op=99/\x5.n=1/\x5.ex=x3.ex/\(x5.gH.size=0\/x5.gG<mD.t.a):=by
  unfold ng at h5;split at h5
  ·rename_i ho;have g0:=jh g4.tk ho;cases hp:kind s 119 (eZ s lH)with
   |error p=>rw[hp]at h5;cases h5
   |ok st'=>
   rw[hp]at h5;have g6:=qA g0.tk (by decide) (by decide) hp;cases h5;exact⟨z3.1,z3.2.1,rfl,aj g6.lt⟩
  cases h5;exact⟨z3.1,z3.2.1,rfl,ak z3.2.2.1⟩
 cases h6:nT s x5 mD with
 |error p=>rw[h6]at h;cases h
 |ok r6=>
 obtain⟨x6,oq⟩:=r6;rw[h6]at h;simp only at h;have g6:=IC g5.tk h6;have z6:x6.op=99/\x6.n=1/\x6.ex=x5.ex/\x6.gH=x5.gH/\x6.gG=x5.gG:=by
  unfold nT at h6;split at h6
  ·cases hp:kind s 119 (eZ s mD)with
   |error p=>rw[hp]at h6;cases h6
   |ok st'=>
   rw[hp]at h6;cases h6;exact⟨z5.1,z5.2.1,rfl,rfl,rfl⟩
  cases h6;exact⟨z5.1,z5.2.1,rfl,rfl,rfl⟩
 cases h7:oP s x6 oq with
 |error p=>rw[h7]at h;cases h
 |ok r7=>
 obtain⟨x7,qV⟩:=r7;rw[h7]at h;simp only at h;have g7:=IE g6.tk h7;have z7:x7.op=99/\x7.ex=x6.ex/\x7.gH=x6.gH/\x7.gG=x6.gG/\((1<=x7.n/\x7.n<=5)\/(oq.t.a<=x7.gZ/\x7.gZ<qV.t.a)):=by
  unfold oP at h7;split at h7
  ·rename_i ho;have g0:=jh g6.tk ho;cases hp:kind s 110 (eZ s oq)with
   |error p=>rw[hp]at h7;cases h7
   |ok st'=>
   rw[hp]at h7;have g8:=qA g0.tk (by decide) (by decide) hp;cases h7;exact⟨z6.1,rfl,rfl,rfl,aj ⟨bU g0.lt,g8.lt⟩⟩
  cases h7;exact⟨z6.1,rfl,rfl,rfl,ak ⟨by rw[z6.2.1];decide,by rw[z6.2.1];decide⟩⟩
 cases h8:need s ⟨#[59]⟩ qV with
 |error p=>rw[h8]at h;cases h
 |ok wH=>
 have g8:=og g7.tk h8;rw[h8]at h;cases h;have l1:=g1.lt;have l2:=g2.lt;have l3:=g3.le;have l4:=g4.lt;have l5:=g5.le;have l6:=g6.le;have l7:=g7.le;have l8:=g8.lt;refine⟨by omega,aj (ak ⟨z7.1,jg.t.a,oq.t.a,by omega,by omega,by omega,?_,?_,?_⟩)⟩;·intro e he;rw[z7.2.1,z6.2.2.1,z5.2.2.1]at he;obtain⟨e1,e2⟩:=z3.2.2.2 e he;exact⟨e1.mono (by omega) (ay _),e2⟩
 ·rw[z7.2.2.1,z7.2.2.2.1,z6.2.2.2.1,z6.2.2.2.2];obtain h|h:=z5.2.2.2;·exact ak h
  exact aj (by omega)
 obtain h|h:=z7.2.2.2.2;·exact ak h
 exact aj ⟨h.1,by omega⟩
theorem A7(hg:fP s g)(hs:zi s g):zi s (rD s g):=by
 intro st x st' ht h;unfold rD at h;cases h1:lG s st with
 |error p=>rw[h1]at h;cases h
 |ok r=>
 obtain⟨e,st1⟩:=r;rw[h1]at h;simp only at h;have g1:=uJ s _ _ _ ht h1;have w1:=PV s _ _ _ ht h1;have p1:e.pl<st1.t.a:=by rw[PI s _ _ _ h1];exact g1.lt
 have l1:=g1.lt;cases h2:block s g st1 with
 |error p=>rw[h2]at h;cases h
 |ok r=>
 obtain⟨l,st2⟩:=r;rw[h2]at h;simp only at h;have g2:=qW hg _ _ _ g1.tk h2;have l2:=g2.lt;obtain⟨a,b,m1,m2,m3⟩:=IK hg hs g1.tk h2;split at h
 ·rename_i ho;have g3:=jh g2.tk ho;have l3:=g3.lt;cases h4:block s g (eZ s st2)with
  |error p=>rw[h4]at h;cases h
  |ok r=>
  obtain⟨m,jg⟩:=r;have g4:=qW hg _ _ _ g3.tk h4;have l4:=g4.lt;obtain⟨c,d,m4,m5,m6⟩:=IK hg hs g3.tk h4;rw[h4]at h;cases h;exact⟨by omega,aj (aj (ak ⟨rfl,e,a,b,c,d,st1.t.a,rfl,w1,p1,by omega,m2,by omega,m5,m6⟩))⟩
 cases h;exact⟨by omega,aj (aj (ak ⟨rfl,e,a,b,b,b,st1.t.a,rfl,w1,p1,by omega,m2,ay _,PU.2 (ay _),m3⟩))⟩
theorem Be(hg:fP s g)(hs:zi s g):zi s (mG s g):=by
 intro st x st' ht h;unfold mG at h;cases h1:block s g st with
 |error p=>rw[h1]at h;cases h
 |ok r=>
 obtain⟨l,st1⟩:=r;rw[h1]at h;simp only at h;have g1:=qW hg _ _ _ ht h1;have l1:=g1.lt;obtain⟨a,b,m1,m2,m3⟩:=IK hg hs ht h1;cases h2:need s ⟨#[101,108,115,101]⟩ st1 with
 |error p=>rw[h2]at h;cases h
 |ok st2=>
 rw[h2]at h;simp only at h;have g2:=og g1.tk h2;have l2:=g2.lt;cases h3:block s g st2 with
 |error p=>rw[h3]at h;cases h
 |ok r=>
 obtain⟨m,jg⟩:=r;have g3:=qW hg _ _ _ g2.tk h3;have l3:=g3.lt;obtain⟨c,d,m4,m5,m6⟩:=IK hg hs g2.tk h3;rw[h3]at h;cases h;exact⟨by omega,aj (aj (aj (ak ⟨rfl,a,b,c,d,by omega,m2,by omega,m5,m6⟩)))⟩
theorem Bi(hg:fP s g)(hs:zi s g):zi s (sG s g):=by
 intro st x st' ht h;unfold sG at h;cases h1:kind s 110 st with
 |error p=>rw[h1]at h;cases h
 |ok st1=>
 rw[h1]at h;simp only at h;have g1:=qA ht (by decide) (by decide) h1;have l1:=g1.lt;cases h2:block s g st1 with
 |error p=>rw[h2]at h;cases h
 |ok r=>
 obtain⟨m,jg⟩:=r;have g2:=qW hg _ _ _ g1.tk h2;have l2:=g2.lt;obtain⟨a,b,m1,m2,m3⟩:=IK hg hs g1.tk h2;rw[h2]at h;cases h;exact⟨by omega,aj (aj (aj (aj (ak ⟨rfl,a,b,ay _,by show st.t.a<a;omega,m2,m3⟩))))⟩
theorem S1.down{lo' md:Nat}(h:S1 x lo md)(hl:lo'<=lo):S1 x lo' md:=by
 obtain⟨h0,h⟩:=h;refine⟨by omega,?_⟩;obtain⟨o,e,h1,h2,h3⟩|⟨o,m1,m2,h1,h2,h3,h4,h5,h6⟩|⟨o,e,a,b,c,d,m1,h1,h2,h3,h4,h5,h6,h7,h8⟩|⟨o,a,b,c,d,h1,h2,h3,h4,h5⟩|⟨o,a,b,h1,h2,h3,h4⟩|o:=h;·exact ak ⟨o,e,h1,h2.mono hl (ay _),h3⟩
 ·exact aj (ak ⟨o,m1,m2,by omega,h2,h3,fun e he=>⟨(h4 e he).1.mono hl (ay _),(h4 e he).2⟩,h5,h6⟩)
 ·exact aj (aj (ak ⟨o,e,a,b,c,d,m1,h1,h2.mono hl (ay _),h3,h4,h5,h6,h7,h8⟩))
 ·exact aj (aj (aj (ak ⟨o,a,b,c,d,by omega,h2,h3,h4,h5⟩)))
 ·exact aj (aj (aj (aj (ak ⟨o,a,b,by omega,h2,h3,h4⟩))))
 exact aj (aj (aj (aj (aj o))))
theorem Bk(s:dX)(n:Nat):zi s (fJ s n):=by
 induction n with| zero=>intro st x st' _ h;simp[fJ]at h| succ n ih=>
 intro st x st' ht h;have hgo:=lQ s (n+1) _ _ _ ht h;have hlt:=hgo.lt;rw[fJ]at h;split at h;·rename_i ho;have g1:=jh ht ho;exact(A5 s _ _ _ g1.tk h).down (bU g1.lt)
 split at h;·rename_i ho;have g1:=jh ht ho;exact(A6 s _ _ _ g1.tk h).down (bU g1.lt)
 split at h;·rename_i ho;have g1:=jh ht ho;exact(A7 (lQ s n) ih _ _ _ g1.tk h).down (bU g1.lt)
 split at h;·rename_i ho;have g1:=jh ht ho;exact(Be (lQ s n) ih _ _ _ g1.tk h).down (bU g1.lt)
 split at h;·rename_i ho;have g1:=jh ht ho;exact(Bi (lQ s n) ih _ _ _ g1.tk h).down (bU g1.lt)
 have ho:x.op=102:=by
  unfold vR at h;cases h1:need s ⟨#[102,97,105,108]⟩ st with
  |error p=>rw[h1]at h;cases h
  |ok st1=>
  rw[h1]at h;simp only at h;cases h2:need s ⟨#[59]⟩ st1 with
  |error p=>rw[h2]at h;cases h
  |ok st2=>rw[h2]at h;cases h;rfl
 exact⟨bU hlt,aj (aj (aj (aj (aj ho))))⟩
theorem Bs(h:read s=.ok l):∃lo hi,Ss l lo hi:=by
 unfold read at h;split at h;·cases h
 cases hp:gy s (fJ s (s.size+1)) (fun st=>st.t.k==0) (s.size+1) [] ⟨gY s 0,0,-1⟩with
 |error p=>rw[hp]at h;cases h
 |ok r=>
 obtain⟨l',st⟩:=r;rw[hp]at h;simp only at h;split at h;·cases h
 cases h;have ht:=(wI s 0 (aQ _)).1;obtain⟨r,hr,h2⟩:=Vy (lQ s _) (Bk s _) _ _ _ _ _ _ ht hp;rw[dz]at hr;subst hr;exact⟨_,_,h2⟩
theorem V3.give(h:V3 c)(hk:K3 k):V3 (oQ w p k c):=by
 unfold oQ;split
 ·intro v hv;obtain h1|h1:=bT.1 hv;·exact h v h1
  rw[bD]at h1;rw[h1];exact hk
 split;·exact h.say _ _
 exact h
theorem Vz(w:dX)(p k:Nat)(h:Inv c n)(hp:p<m)(hm:n<=m):uo w p k c=oQ w p k c/\Inv (oQ w p k c) m:=by
 unfold uo oQ;cases hf:jG c.vars w with| none=>refine⟨rfl,?_⟩;have:=h.mono hm;exact⟨this.e,this.p⟩| some i=>
 simp only;rw[Vt];cases hu:vS (pG c.vars i) k;·exact⟨rfl,h.mono hm⟩
 exact⟨Gi _ h,h.say (by omega) hp hm⟩
theorem VA{x:fG}(hw:nU x)(hs:Sp x lo m)(hp:x.pl<m)(h:Inv c lo)(hv:V3 c)(hk:k≠63):uq x k c=nD (some x) k c/\Inv (nD (some x) k c) m/\V3 (nD (some x) k c):=by
 obtain⟨e1,e2,e3,e4⟩:=IJ x c lo m hw hs h hv;unfold uq nD;simp only;rw[e1,Mc _ _ hk];split;·exact⟨rfl,e2,e3⟩
 exact⟨Gi _ e2,e2.say (by omega) hp (ay _),e3.say _ _⟩
theorem Bx(w:dX)(p:Nat)(h:Inv c n)(hp:w.size=0\/p<m)(hm:n<=m)(hv:V3 c):tV w p c=(if w.toList.isEmpty then c else oQ w p 105 c)/\Inv (tV w p c) m/\V3 (tV w p c):=by
 unfold tV;have hz:w.toList.isEmpty=true↔w.size=0:=by rw[aP,dB,<- bA];exact Iff.rfl
 by_cases h0:w.size=0;·rw[aA h0,aA (hz.2 h0)];exact⟨rfl,h.mono hm,hv⟩
 rw[ah h0,ah (fun h'=>h0 (hz.1 h'))];obtain⟨g1,g2⟩:=Vz w p 105 h (by omega) hm;rw[g1];exact⟨rfl,g2,hv.give (ak rfl)⟩
def sJ(x:Sm)(c:gM):gM:=
 if x.op=108 then
  match x.ex with
  |none=>c
  |some e=>uo x.eH x.pl (jM e c).1 (jM e c).2
 else if x.op=99 then iP x.n x.gZ 1 5 (tV x.gH x.gG (ou x.ex c))
 else if x.op=105 then
  match x.ex with
  |none=>c
  |some e=>kV x.two (kV x.one (uq e 98 c))
 else if x.op=116 then kV x.two (kV x.one c)
 else if x.op=114 then kV x.one (iP x.n x.gZ 0 9 c)
 else c
theorem IL(c:gM):kV [] c=c:=by rw[kV]
theorem IQ(x:Sm)(l:List Sm)(c:gM):kV (x::l) c=kV l (sJ x c):=by obtain⟨op,eH,pl,ex,gH,gG,undo,n,gZ,one,two⟩:=x;rw[kV.eq_def];all_goals rfl
theorem Ec(l:List Sm):∀(c:gM)(lo hi:Nat),jZ l->Ss l lo hi->Inv c lo->V3 c->kV l c=jv l c/\Inv (jv l c) hi/\V3 (jv l c):=by
 match l with
 |[]=>intro c lo hi _ hs h hv;rw[IL,L9];exact⟨rfl,h.mono (PU.1 hs),hv⟩
 |⟨op,eH,pl,ex,gH,gG,undo,n,gZ,one,two⟩::rest=>
 intro c lo hi hw hs h hv;obtain⟨w0,w1,w2,w3⟩:=Ak.1 hw;obtain⟨md,s1,h0,s2⟩:=Vu.1 hs;rw[IQ,Ma];have H:sJ ⟨op,eH,pl,ex,gH,gG,undo,n,gZ,one,two⟩ c=qF ⟨op,eH,pl,ex,gH,gG,undo,n,gZ,one,two⟩ c/\Inv (qF ⟨op,eH,pl,ex,gH,gG,undo,n,gZ,one,two⟩ c) md/\V3 (qF ⟨op,eH,pl,ex,gH,gG,undo,n,gZ,one,two⟩ c):=by
  unfold qF sJ;simp only at w0 w1 w2 s2 |-;obtain⟨o,e,h1,h2,h3⟩|⟨o,m1,m2,h1,h2,h3,h4,h5,h6⟩|⟨o,e,a,b,c',d,m1,h1,h2,h3,h4,h5,h6,h7,h8⟩|⟨o,a,b,c',d,h1,h2,h3,h4,h5⟩|⟨o,a,b,h1,h2,h3,h4⟩|o:=s2;·subst o h1;have xk:=w0.1 e rfl;obtain⟨e1,e2,e3,e4⟩:=IJ e c lo md xk h2 h hv;simp only[if_true];rw[e1];obtain⟨g1,g2⟩:=Vz eH pl (jr e c).1 e2 h3 (ay _);exact⟨g1,g2,e3.give e4⟩
  ·subst o;simp only[if_true,ah (by decide:¬(99:Nat)=108)];have ha:ou ex c=nD ex 105 c/\Inv (nD ex 105 c) m1/\V3 (nD ex 105 c):=by cases ex with| none=>exact⟨rfl,h.mono h1,hv⟩| some e=>exact VA (w0.1 e rfl) (h4 e rfl).1 (h4 e rfl).2 h hv (by decide)
   obtain⟨a1,a2,a3⟩:=ha;rw[a1];obtain⟨b1,b2,b3⟩:=Bx gH gG a2 h5 h2 a3;rw[<- b1];generalize tV gH gG (nD ex 105 c)=c2 at b1 b2 b3;unfold iP;by_cases hn:n<1\/5<n
   ·rw[aA hn,aA hn];have h7:m2<=gZ/\gZ<md:=by omega
    exact⟨PN b2 h7.1,b2.say (by omega) h7.2 h3,b3.say _ _⟩
   rw[ah hn,ah hn];exact⟨rfl,b2.mono h3,b3⟩
  ·subst o h1;simp only[if_true,ah (by decide:¬(105:Nat)=108),ah (by decide:¬(105:Nat)=99)];obtain⟨a1,a2,a3⟩:=VA (k:=98) (w0.1 e rfl) h2 h3 h hv (by decide);rw[a1];obtain⟨b1,b2,b3⟩:=Ec one _ a b w1 h5 (a2.mono h4) a3;rw[b1];obtain⟨d1,d2,d3⟩:=Ec two _ c' d w2 h7 (b2.mono h6) b3;exact⟨d1,d2.mono h8,d3⟩
  ·subst o;simp only[if_true,ah (by decide:¬(116:Nat)=108),ah (by decide:¬(116:Nat)=99),ah (by decide:¬(116:Nat)=105)];obtain⟨b1,b2,b3⟩:=Ec one _ a b w1 h2 (h.mono h1) hv;rw[b1];obtain⟨d1,d2,d3⟩:=Ec two _ c' d w2 h4 (b2.mono h3) b3;exact⟨d1,d2.mono h5,d3⟩
  ·subst o;simp only[if_true,ah (by decide:¬(114:Nat)=108),ah (by decide:¬(114:Nat)=99),ah (by decide:¬(114:Nat)=105),ah (by decide:¬(114:Nat)=116)];have ha:iP n gZ 0 9 c=(if 9<n then say 4 gZ c else c)/\Inv (if 9<n then say 4 gZ c else c) a/\V3 (if 9<n then say 4 gZ c else c):=by
    unfold iP;by_cases hn:9<n;·rw[aA (aj hn),aA hn];exact⟨PN h h1,h.say (by omega) h2 (by omega),hv.say _ _⟩
    rw[ah (by omega),ah hn];exact⟨rfl,h.mono (by omega),hv⟩
   obtain⟨a1,a2,a3⟩:=ha;rw[a1];obtain⟨b1,b2,b3⟩:=Ec one _ a b w1 h3 a2 a3;exact⟨b1,b2.mono h4,b3⟩
  subst o;simp only[ah (by decide:¬(102:Nat)=108),ah (by decide:¬(102:Nat)=99),ah (by decide:¬(102:Nat)=105),ah (by decide:¬(102:Nat)=116),ah (by decide:¬(102:Nat)=114)];exact⟨trivial,h.mono h0,hv⟩
 obtain⟨H1,H2,H3⟩:=H;rw[H1];exact Ec rest _ md hi w3 s1 H2 H3
theorem B5(h:read s=.ok l):kV l ⟨[],0,0⟩=jv l ⟨[],0,0⟩:=by obtain⟨lo,hi,hs⟩:=Bs h;exact(Ec l _ lo hi (Ao h).1 hs ⟨by decide,ak rfl⟩ (fun v hv=>by cases hv)).1
end Px
structure fE(T:Nat->Prop)(w w':dY):Prop where
 os:w'.os=w.os
 tape:w'.tape=w.tape
 output:w'.output=w.output
 size:w.heap.size<=w'.heap.size
 block:∀k,k<w.heap.size->¬T k->w'.heap[k]?=w.heap[k]?
theorem fE.refl(T:Nat->Prop)(w:dY):fE T w w:=⟨rfl,rfl,rfl,ay _,fun _ _ _=>rfl⟩
theorem fE.trans{T:Nat->Prop}{w w1 w2:dY}(h:fE T w w1)(k:fE T w1 w2):fE T w w2:=⟨k.os.trans h.os,k.tape.trans h.tape,k.output.trans h.output,aK h.size k.size,fun i hi hn=>(k.block i (aJ hi h.size) hn).trans (h.block i hi hn)⟩
theorem fE.mono{T T':Nat->Prop}{w w':dY}(h:fE T w w')(ht:∀k,k<w.heap.size->T k->T' k):fE T' w w':=⟨h.os,h.tape,h.output,h.size,fun k hk hn=>h.block k hk fun ht'=>hn (ht k hk ht')⟩
theorem fE.drew{T:Nat->Prop}{w w1:dY}(h:fE T w w1):fE T w w1.drew:=⟨h.os,h.tape,h.output,h.size,h.block⟩
theorem fE.below{T:Nat->Prop}{w w1 w2:dY}(h:fE T w w1)(k:gU w1 w2):fE T w w2:=h.trans ⟨k.os,k.tape,k.output,k.size,fun i hi _=>k.block i hi⟩
theorem fE.alloc{T:Nat->Prop}{w w1:dY}(h:fE T w w1)(o:Obj):fE T w (w1.alloc o):=h.below ((aF _ _).alloc (ay _) _)
theorem fE.setCell{T:Nat->Prop}{w w1:dY}(h:fE T w w1){p:Addr}(hp:T p.block\/w.heap.size<=p.block)(u:dZ):fE T w (w1.setCell p u):=⟨h.os,h.tape,h.output,by simpa[World.setCell]using h.size,fun i hi hn=>by rw[bO _ _ _ _ (by rintro rfl;obtain hp|hp:=hp;exact hn hp;omega)];exact h.block i hi hn⟩
theorem fE.grown{T:Nat->Prop}{w w1 w2:dY}{row:Option Nat}(h:fE T w w1)(hg:w1.grownBy w2 row)(hr:∀k,row=some k->T k\/w.heap.size<=k):fE T w w2:=⟨hg.os.trans h.os,hg.tape.trans h.tape,hg.output.trans h.output,aK h.size hg.size,fun i hi hn=>by rw[hg.block i (aJ hi h.size) (fun e=>by obtain h|h:=hr i e.symm;exact hn h;omega)];exact h.block i hi hn⟩
theorem fE.qj{T:Nat->Prop}{B:Nat}{w w':dY}(h:fE T w w')(hB:B<=w.heap.size)(ht:∀k,T k->B<=k):Below B w w':=⟨h.os,h.tape,h.output,h.size,fun k hk=>h.block k (by omega) fun hk'=>by have:=ht k hk';omega⟩
theorem iM{T:Nat->Prop}{w w':dY}{base:Nat}{e:TypeId}{size:Nat}{v:dZ}{n:Nat}{xs:List dZ}(h:w.ownsRow base e size v n xs)(ht:fE T w w')(hn:∀k,v.ownBlock=some k->¬T k):w'.ownsRow base e size v n xs:=by
 obtain⟨h1,h2⟩:=h;refine⟨h1,?_⟩;obtain h2|⟨g,cap,cur,hv,hg,hh,r⟩:=h2;·exact ak h2
 subst hv;exact aj ⟨g,cap,cur,rfl,hg,by rw[ht.block g (aN.1 hh).1 (hn g rfl)];exact hh,r⟩
structure Sep(B c:Nat)(w:dY)(fZ:List dZ):Prop where
 own:∀v∈fZ,∀k,v.ownBlock=some k->B<=k/\k≠c/\k<w.heap.size
 apart:fZ.Pairwise fun a b=>∀k,a.ownBlock=some k->b.ownBlock≠some k
theorem Sep.world{B c:Nat}{w w':dY}{fZ:List dZ}(h:Sep B c w fZ)(hs:w.heap.size<=w'.heap.size):Sep B c w' fZ:=⟨fun v hv k hk=>by obtain⟨h1,h2,h3⟩:=h.own v hv k hk;exact⟨h1,h2,by omega⟩,h.apart⟩
theorem Sep.turn{B c:Nat}{w w':dY}{A R:List dZ}{v v':dZ}(h:Sep B c w (A++v::R))(hs:w.heap.size<=w'.heap.size)(hB:B<=w.heap.size)(hc:c<w.heap.size)(hv:v'.ownBlock=v.ownBlock\/v'.ownBlock=none\/∃n,v'.ownBlock=some n/\w.heap.size<=n/\n<w'.heap.size):Sep B c w' (A++v'::R):=by
 have own':∀x∈A++v'::R,∀k,x.ownBlock=some k->B<=k/\k≠c/\k<w'.heap.size:=by
  intro x hx k hk;rw[bT,bn]at hx;obtain hx|rfl|hx:=hx;·obtain⟨h1,h2,h3⟩:=h.own x (by simp[hx]) k hk;exact⟨h1,h2,by omega⟩
  ·obtain hv|hv|⟨n,hv,h1,h2⟩:=hv;·rw[hv]at hk;obtain⟨h1,h2,h3⟩:=h.own v (by simp) k hk;exact⟨h1,h2,by omega⟩
   ·rw[hv]at hk;cases hk
   rw[hv]at hk;cases hk;exact⟨by omega,by omega,h2⟩
  obtain⟨h1,h2,h3⟩:=h.own x (by simp[hx]) k hk;exact⟨h1,h2,by omega⟩
 refine⟨own',?_⟩;have ha:=h.apart;rw[List.pairwise_append,List.pairwise_cons]at ha |-;obtain⟨p1,⟨p2,p3⟩,p4⟩:=ha;refine⟨p1,⟨fun b hb k hk=>?_,p3⟩,fun a ha b hb=>?_⟩
 ·obtain hv|hv|⟨n,hv,h1,h2⟩:=hv;·rw[hv]at hk;exact p2 b hb k hk
  ·rw[hv]at hk;cases hk
  rw[hv]at hk;cases hk;intro hb';obtain⟨_,_,h3⟩:=h.own b (by simp[hb]) _ hb';omega
 rw[bn]at hb;obtain rfl|hb:=hb
 ·intro k hk hb';obtain hv|hv|⟨n,hv,h1,h2⟩:=hv;·rw[hv]at hb';exact p4 a ha v (by simp) k hk hb'
  ·rw[hv]at hb';cases hb'
  rw[hv]at hb';cases hb';obtain⟨_,_,h3⟩:=h.own a (by simp[ha]) _ hk;omega
 exact p4 a ha b (by simp[hb])
theorem Sep.mem{B c:Nat}{w:dY}{fZ:List dZ}(h:Sep B c w fZ){i j:Nat}{v u:dZ}(hi:fZ[i]?=some v)(hj:fZ[j]?=some u)(hij:i≠j):∀k,v.ownBlock=some k->u.ownBlock≠some k:=by
 obtain⟨hi1,hi2⟩:=aT.1 hi;obtain⟨hj1,hj2⟩:=aT.1 hj;intro k hk hk';obtain h1|h1:=Nat.lt_or_gt_of_ne hij;·have:=(List.pairwise_iff_getElem.1 h.apart) i j hi1 hj1 h1;rw[hi2,hj2]at this;exact this k hk hk'
 have:=(List.pairwise_iff_getElem.1 h.apart) j i hj1 hi1 h1;rw[hi2,hj2]at this;exact this k hk' hk
theorem Sep.sub{B c:Nat}{w:dY}{fZ rows':List dZ}(h:Sep B c w fZ)(hs:rows'.Sublist fZ):Sep B c w rows':=⟨fun v hv k hk=>h.own v (hs.subset hv) k hk,h.apart.sublist hs⟩
theorem Sep.perm{B c:Nat}{w:dY}{fZ rows':List dZ}(h:Sep B c w fZ)(hs:fZ.Perm rows'):Sep B c w rows':=⟨fun v hv k hk=>h.own v (hs.mem_iff.2 hv) k hk,hs.pairwise h.apart (fun{_a _b}hab k hk hk'=>hab k hk' hk)⟩
theorem Sep.nil{B c:Nat}{w:dY}{fZ:List dZ}(h:Sep B c w fZ){v:dZ}(hv:v.ownBlock=none):Sep B c w (v::fZ):=by
 refine⟨fun x hx k hk=>?_,List.pairwise_cons.2 ⟨fun b _ k hk=>(by rw[hv]at hk;cases hk),h.apart⟩⟩;rw[bn]at hx;obtain rfl|hx:=hx;·rw[hv]at hk;cases hk
 exact h.own x hx k hk
theorem zk{P:Program}{ops:Array Oper}{o:Oper}{a:Act}{w:dY}{K:Act->dY->Prop}{Q:Exit->Act->dY->Prop}{E:Prop}(hg:o.guard=none)(s x:Operand)(t:TypeId)(ho:o.op=.call {callee:=.builtin .append,args:=#[s,x],argTypes:=#[t,t]})(base:Nat)(e:TypeId)(i:TypeInfo)(z:dZ)(size bytes:Nat)(ht:P.underlying t=some (.slice e))(hi:P.info? e=some i)(hz:i.zero=some z)(hsize:i.size=size)(hby:i.bytes=bytes)(hzs:z.cells.size=size)(hsz:0<size)(v:dZ)(n:Nat)(xs:List dZ)(hs:a.eval s=v)(hown:w.ownsRow base e size v n xs)(ad:Addr)(m c:Nat)(news:List dZ)(hx:a.eval x=.slice (some ad) m c)(hl:news.length=m*size)(hnews:∀j u,news[j]?=some u->w.cell? (ad.add j)=some u)(h1:∀u∈news,u.oneCell'=true)(h63:n+m<=maxLen)(hbytes:(n+m)*bytes<=140737488355328)(hbase:base<=w.heap.size)(h:∀v' w',w'.ownsRow base e size v' (n+m) (xs++news)->w.grownBy w' v.ownBlock->(v'.ownBlock=v.ownBlock\/v'.ownBlock=some w.heap.size)->K (a.put o.dst v') w'):if Region.wanted o (yielded ops a.tmps)=true then Oper.wp P o a w K Q else E:=by
 have hw:Region.wanted o (yielded ops a.tmps)=true:=by simp[Region.wanted,hg]
 rw[aA hw];obtain⟨v',w',hr,h2,h3,_,h5⟩:=run_append_own_at (P:=P) w base t o.type e i z size bytes ht hi hz hsize hby hzs hsz v n xs hown ad m c news hl hnews h1 h63 hbytes hbase;unfold Oper.wp;simp only[execOp,ho,resolve,invoke,builtin,Sem.run_bind,Sem.run_pure,Result.andThen_ok,List.map_toArray,dR,List.map_nil,hs,hx,hr];exact h v' w' h2 h3 h5
namespace Px
structure iL where
 eH:dX
 arg:Int
 nth:Nat
 undo:Bool
structure Rs where
 held:List Int
 left:List Int
 eY:List iL
 eU:List (List (dX×Int))
 over:Nat
 stop:Bool
 failed:Bool
def Rs.going(s:Rs):Bool:=s.over==0 && !s.stop && !s.failed
def ask(a:iL)(s:Rs):Option Int×Rs:=
 match s.left with
 |[]=>(none,{s with eY:=s.eY++[a],stop:=true})
 |v::r=>(some v,{s with eY:=s.eY++[a],left:=r})
abbrev Vs:=List (dX×Nat)
def IU(vars:Vs)(held:List Int)(w:dX):Int:=
 match jG vars w with
 |none=>0
 |some i=>held.getD i 0
def oz(vars:Vs)(held:List Int)(w:dX)(v:Int):List Int:=
 match jG vars w with
 |none=>held
 |some i=>held.set i v
def iY(b:Bool):Int:=if b then 1 else 0
def pJ(op:Nat)(a b:Int):Option Int:=
 if op=43 then some (wrap64 (a+b))else if op=45 then some (wrap64 (a-b))else if op=42 then some (wrap64 (a*b))
 else if op=60 then some (iY (decide (a<b)))else if op=61 then some (iY (decide (a=b)))else if op=35 then some (iY (decide (a≠b)))
 else if b=0 then none else some (wrap64 (a.tdiv b))
def ni(vars:Vs)(held:List Int):fG->Option Int
 |⟨op,n,eH,_,_,none,_⟩=>if op=119 then some (IU vars held eH)else some n
 |⟨_,_,_,_,_,some l,none⟩=>(ni vars held l).map fun v=>wrap64 (1-v)
 |⟨op,_,_,_,_,some l,some r⟩=>
  match ni vars held l with
  |none=>none
  |some a=>
   match ni vars held r with
   |none=>none
   |some b=>pJ op a b
def uK(vars:Vs)(held:List Int)(x:Option fG):Option Int:=
 match x with
 |none=>some 0
 |some e=>ni vars held e
def fT(eH:dX)(arg:Int)(undo:Bool):Nat->Nat->Rs->Option (Option Int)×Rs
 |0,_,s=>(some none,s)
 |k+1,t,s=>
  match ask ⟨eH,arg,t,undo⟩ s with
  |(none,s1)=>(none,s1)
  |(some v,s1)=>if 0<=v then(some (some v),s1)else fT eH arg undo k (t+1) s1
def ny:List (dX×Int)->Rs->Rs
 |[],s=>s
 |(w,v)::r,s=>
  match fT w v true 3 1 s with
  |(none,s1)=>s1
  |(some none,s1)=>{s1 with over:=3}
  |(some (some _),s1)=>ny r s1
def mM(s:Rs):Rs:=ny (s.eU.getLastD []).reverse {s with eU:=s.eU.dropLast}
def jq(eU:List (List (dX×Int)))(x:List (dX×Int)):List (List (dX×Int)):=eU.dropLast++[eU.getLastD []++x]
def uU(vars:Vs)(eH:dX)(ex:Option fG)(gH undo:dX)(n:Nat)(s:Rs):Rs:=
 match uK vars s.held ex with
 |none=>{s with failed:=true}
 |some arg=>
  match fT eH arg false n 1 s with
  |(none,s1)=>s1
  |(some none,s1)=>{s1 with failed:=true}
  |(some (some v),s1)=>{s1 with held:=if gH.size=0 then s1.held else oz vars s1.held gH v,eU:=if undo.size=0 then s1.eU else jq s1.eU [(undo,v)]}
def jE(f:Rs->Rs):Nat->Rs->Rs
 |0,s=>s
 |n+1,s=>jE f n (f s)
def ig(vars:Vs):List Sm->Rs->Rs
 |[],s=>s
 |⟨op,eH,_,ex,gH,_,undo,n,_,one,two⟩::rest,s=>
  ig vars rest (
   if s.going then
    (if op=108 then(match uK vars s.held ex with
      |none=>{s with failed:=true}
      |some v=>{s with held:=oz vars s.held eH v})
     else if op=99 then uU vars eH ex gH undo n s
     else if op=105 then(match uK vars s.held ex with
      |none=>{s with failed:=true}
      |some v=>if v=1 then ig vars one s else ig vars two s)
     else if op=116 then
      (let s1:=ig vars one {s with eU:=s.eU++[[]]}
      if s1.over≠0\/s1.stop=true then s1
      else if s1.failed then(let s2:=mM {s1 with failed:=false};if s2.going then ig vars two s2 else s2)
      else{s1 with eU:=jq s1.eU.dropLast (s1.eU.getLastD [])})
     else if op=114 then jE (ig vars one) n s
     else{s with failed:=true})
   else s)
def iQ(vars:Vs)(x:Sm)(s:Rs):Rs:=
 if x.op=108 then(match uK vars s.held x.ex with
  |none=>{s with failed:=true}
  |some v=>{s with held:=oz vars s.held x.eH v})
 else if x.op=99 then uU vars x.eH x.ex x.gH x.undo x.n s
 else if x.op=105 then(match uK vars s.held x.ex with
  |none=>{s with failed:=true}
  |some v=>if v=1 then ig vars x.one s else ig vars x.two s)
 else if x.op=116 then
  (let s1:=ig vars x.one {s with eU:=s.eU++[[]]}
   if s1.over≠0\/s1.stop=true then s1
   else if s1.failed then(let s2:=mM {s1 with failed:=false};if s2.going then ig vars x.two s2 else s2)
   else{s1 with eU:=jq s1.eU.dropLast (s1.eU.getLastD [])})
 else if x.op=114 then jE (ig vars x.one) x.n s
 else{s with failed:=true}
theorem CP(vars:Vs)(s:Rs):ig vars [] s=s:=by rw[ig]
theorem Ed(vars:Vs)(x:Sm)(l:List Sm)(s:Rs):ig vars (x::l) s=ig vars l (if s.going then iQ vars x s else s):=by obtain⟨op,eH,pl,ex,gH,gG,undo,n,gZ,one,two⟩:=x;rw[ig.eq_def];all_goals rfl
def jH(s:Rs):Rs:=
 if s.over≠0\/s.stop=true then s
 else if s.failed then(let s2:=mM s;if s2.over=0/\s2.stop=false then{s2 with over:=2}else s2)
 else{s with over:=1}
def play(vars:Vs)(l:List Sm)(fU:List Int):Rs:=jH (ig vars l ⟨List.replicate vars.length 0,fU,[],[[]],0,false,false⟩)
def run(s:dX)(fU:List Int):List iL×Nat×Nat×Nat:=
 match read s with
 |.error r=>([],0,r)
 |.ok l=>if gI s=(0,0)then(let z:=play (jv l ⟨[],0,0⟩).vars l fU;(z.eY,z.over,0,0))else([],0,gI s)
variable{s:Rs}
theorem Gm(vars:Vs)(l:List Sm)(h:s.going=false):ig vars l s=s:=by induction l with| nil=>exact CP vars s| cons x l ih=>rw[Ed,h];exact ih
theorem VB{f:Rs->Rs}(h:f s=s)(n:Nat):jE f n s=s:=by induction n with| zero=>rfl| succ n ih=>rw[jE,h,ih]
def Pre(f:Rs->Rs):Prop:=∀s,s.eY <+: (f s).eY
theorem B6(a:iL)(s:Rs):(ask a s).2.eY=s.eY++[a]:=by unfold ask;split<;>rfl
theorem Me(w:dX)(v:Int)(u:Bool)(k:Nat):∀t,Pre fun s=>(fT w v u k t s).2:=by
 induction k with| zero=>intro t s;exact aR _| succ k ih=>
 intro t s;have h:=B6 ⟨w,v,t,u⟩ s;have h0:s.eY <+: (ask ⟨w,v,t,u⟩ s).2.eY:=by rw[h];exact List.prefix_append _ _
 show s.eY <+: (fT w v u (k+1) t s).2.eY;unfold fT;split;·rename_i s1 he;rw[he]at h0;exact h0
 rename_i x s1 he;rw[he]at h0;split;·exact h0
 exact h0.trans (ih (t+1) s1)
theorem VD(l:List (dX×Int)):Pre (ny l):=by
 induction l with| nil=>intro s;exact aR _| cons x l ih=>
 intro s;obtain⟨w,v⟩:=x;have h0:=Me w v true 3 1 s;rw[ny];split;·rename_i s1 he;simp only[he]at h0;exact h0
 ·rename_i s1 he;simp only[he]at h0;exact h0
 rename_i y s1 he;simp only[he]at h0;exact h0.trans (ih s1)
theorem Mf:Pre mM:=fun s=>VD (s.eU.getLastD []).reverse {s with eU:=s.eU.dropLast}
theorem B7(vars:Vs)(eH:dX)(ex:Option fG)(gH undo:dX)(n:Nat):Pre (uU vars eH ex gH undo n):=by
 intro s;unfold uU;split;·exact aR _
 rename_i arg _;have h0:=Me eH arg false n 1 s;split;·rename_i s1 he;simp only[he]at h0;exact h0
 ·rename_i s1 he;simp only[he]at h0;exact h0
 rename_i y s1 he;simp only[he]at h0;exact h0
theorem VE{f:Rs->Rs}(h:Pre f)(n:Nat):Pre (jE f n):=by induction n with| zero=>intro s;exact aR _| succ n ih=>intro s;exact(h s).trans (ih (f s))
theorem B8(vars:Vs)(x:Sm)(h1:Pre (ig vars x.one))(h2:Pre (ig vars x.two)):Pre (iQ vars x):=by
 intro s;unfold iQ;split;·split<;>exact aR _
 split;·exact B7 _ _ _ _ _ _ s
 split
 ·split;·exact aR _
  split;·exact h1 s
  exact h2 s
 split
 ·have a:=h1 {s with eU:=s.eU++[[]]};dsimp only;split;·exact a
  split
  ·have b:=Mf {(ig vars x.one {s with eU:=s.eU++[[]]})with failed:=false};split;·exact(a.trans b).trans (h2 _)
   exact a.trans b
  exact a
 split;·exact VE h1 _ s
 exact aR _
theorem Ee(vars:Vs)(l:List Sm):Pre (ig vars l):=by
 match l with
 |[]=>intro s;rw[CP];exact aR _
 |⟨op,eH,pl,ex,gH,gG,undo,n,gZ,one,two⟩::rest=>
 intro s;rw[Ed];refine List.IsPrefix.trans ?_ (Ee vars rest _);split;·exact B8 vars ⟨op,eH,pl,ex,gH,gG,undo,n,gZ,one,two⟩ (Ee vars one) (Ee vars two) s
 exact aR _
theorem B9:Pre jH:=by
 intro s;unfold jH;split;·exact aR _
 split
 ·dsimp only;split;·exact Mf s
  exact Mf s
 exact aR _
variable{c:gM}{N e f i k most n p:Nat}
theorem zl(he:e≠0)(p:Nat):(say e p c).e≠0:=by
 unfold say;split;·exact he
 rename_i h;exact fun x=>h (ak x)
theorem Cf(h:c.e≠0)(op:Nat)(w:dX)(own:Nat):(Ai op w own c).2.e≠0:=by
 unfold Ai;split;·exact h
 split;·exact h
 split;·exact zl (by decide) _
 exact h
theorem Ef(x:fG):∀c:gM,c.e≠0->(jr x c).2.e≠0:=by
 match x with
 |⟨op,n,eH,pl,own,none,_⟩=>intro c h;rw[jr];exact Cf h _ _ _
 |⟨op,n,eH,pl,own,some l,none⟩=>
  intro c h;rw[jr];have:=Ef l c h;unfold sH;dsimp only;split;·exact this
  exact zl (by decide) _
 |⟨op,n,eH,pl,own,some l,some r⟩=>
 intro c h;rw[jr];have:=Ef r _ (Ef l c h);unfold pI;split
 ·dsimp only;split;·exact zl (by decide) _
  exact this
 dsimp only;split;·exact this
 exact zl (by decide) _
theorem Eh(h:c.e≠0)(w:dX)(p k:Nat):(oQ w p k c).e≠0:=by
 unfold oQ;split;·exact h
 split;·exact zl (by decide) _
 exact h
theorem Mg(h:c.e≠0)(x:Option fG)(k:Nat):(nD x k c).e≠0:=by
 unfold nD;split;·exact h
 split;·exact Ef _ _ h
 exact zl (by decide) _
def xq(x:Sm)(c:gM):gM:=
 if x.op=108 then
  match x.ex with
  |none=>c
  |some e=>oQ x.eH x.pl (jr e c).1 (jr e c).2
 else if x.op=99 then
  let c1:=nD x.ex 105 c
  let c2:=if x.gH.toList.isEmpty then c1 else oQ x.gH x.gG 105 c1
  if x.n<1\/5<x.n then say 4 x.gZ c2 else c2
 else if x.op=105 then jv x.two (jv x.one (nD x.ex 98 c))
 else if x.op=116 then jv x.two (jv x.one c)
 else if x.op=114 then jv x.one (if 9<x.n then say 4 x.gZ c else c)
 else c
theorem PW(x:Sm)(l:List Sm)(c:gM):jv (x::l) c=jv l (xq x c):=by obtain⟨op,eH,pl,ex,gH,gG,undo,n,gZ,one,two⟩:=x;rw[jv.eq_def];all_goals rfl
theorem Cl(x:Sm)(h1:∀c:gM,c.e≠0->(jv x.one c).e≠0)(h2:∀c:gM,c.e≠0->(jv x.two c).e≠0)(c:gM)(h:c.e≠0):(xq x c).e≠0:=by
 unfold xq;split
 ·split;·exact h
  exact Eh (Ef _ _ h) _ _ _
 split
 ·dsimp only;split;·exact zl (by decide) _
  split;·exact Mg h _ _
  exact Eh (Mg h _ _) _ _ _
 split;·exact h2 _ (h1 _ (Mg h _ _))
 split;·exact h2 _ (h1 _ h)
 split
 ·refine h1 _ ?_;split;·exact zl (by decide) _
  exact h
 exact h
theorem xw(l:List Sm):∀c:gM,c.e≠0->(jv l c).e≠0:=by
 match l with
 |[]=>intro c h;rw[jv];exact h
 |⟨op,eH,pl,ex,gH,gG,undo,n,gZ,one,two⟩::rest=>
 intro c h;rw[PW];exact xw rest _ (Cl ⟨op,eH,pl,ex,gH,gG,undo,n,gZ,one,two⟩ (xw one) (xw two) c h)
def nP(V:Vs):fG->Nat->Prop
 |⟨op,n,eH,_,_,none,_⟩,k=>if op=110 then k=105 else if op=116 then k=98/\n<=1 else op=119/\∃i,jG V eH=some i/\pG V i=k
 |⟨op,_,_,_,_,some l,none⟩,k=>op=33/\k=98/\nP V l 98
 |⟨op,_,_,_,_,some l,some r⟩,k=>
  if op=61\/op=35 then k=98/\∃j,nP V l j/\nP V r j
  else(op=42\/op=47\/op=43\/op=45\/op=60)/\k=(if op=60 then 98 else 105)/\nP V l 105/\nP V r 105
def okO(V:Vs)(x:Option fG)(k:Nat):Prop:=∀e,x=some e->nP V e k
def qC(V:Vs)(w:dX)(k:Nat):Prop:=∃i,jG V w=some i/\pG V i=k
def Bb(V:Vs)(op:Nat)(eH:dX)(ex:Option fG)(gH:dX)(n:Nat):Prop:=
 (op=108/\∃e k,ex=some e/\nP V e k/\qC V eH k/\(k=105\/k=98)) \/
 (op=99/\okO V ex 105/\(gH.size=0\/qC V gH 105)/\1<=n/\n<=5) \/
 (op=105/\∃e,ex=some e/\nP V e 98)\/op=116\/(op=114/\n<=9)\/op=102
def oK(V:Vs):List Sm->Prop
 |[]=>True
 |⟨op,eH,_,ex,gH,_,_,n,_,one,two⟩::rest=>Bb V op eH ex gH n/\(op=105\/op=116\/op=114->oK V one)/\(op=105\/op=116->oK V two)/\oK V rest
theorem VF(V:Vs):oK V []:=by rw[oK];trivial
variable{V:Vs}{x:Sm}{l:List Sm}
theorem Bc:oK V (x::l)↔Bb V x.op x.eH x.ex x.gH x.n/\(x.op=105\/x.op=116\/x.op=114->oK V x.one)/\(x.op=105\/x.op=116->oK V x.two)/\oK V l:=by obtain⟨op,eH,pl,ex,gH,gG,undo,n,gZ,one,two⟩:=x;rw[oK]
def qo:fG->Prop
 |⟨op,n,_,_,_,none,_⟩=>op=116->n<=1
 |⟨_,_,_,_,_,some l,none⟩=>qo l
 |⟨_,_,_,_,_,some l,some r⟩=>qo l/\qo r
def tX:List Sm->Prop
 |[]=>True
 |⟨_,_,_,ex,_,_,_,_,_,one,two⟩::rest=>(∀e,ex=some e->qo e)/\tX one/\tX two/\tX rest
theorem Bf:tX []:=by rw[tX];trivial
theorem VG:tX (x::l)↔(∀e,x.ex=some e->qo e)/\tX x.one/\tX x.two/\tX l:=by obtain⟨op,eH,pl,ex,gH,gG,undo,n,gZ,one,two⟩:=x;rw[tX]
variable{w:dX}
theorem PX{l m:Vs}(h:jG l w=some i):jG (l++m) w=some i:=by
 induction l generalizing i with
 |nil=>cases h
 |cons v l ih=>
 obtain⟨v,k⟩:=v;rw[jG]at h;rw[bJ,jG];split at h;·rename_i hc;rw[aA hc];exact h
 rename_i hc;rw[ah hc];cases hf:jG l w with
 |none=>rw[hf]at h;cases h
 |some j=>rw[hf]at h;rw[ih hf];exact h
theorem Cp{l:Vs}(h:jG l w=none):jG (l++[(w,k)]) w=some l.length:=by
 induction l with| nil=>simp[jG]| cons v l ih=>
 obtain⟨v,k'⟩:=v;rw[jG]at h;split at h;·cases h
 rename_i hc;rw[bJ,jG,ah hc];have h2:jG l w=none:=by cases hf:jG l w with| none=>rfl| some j=>rw[hf]at h;cases h
 rw[ih h2];simp
theorem PY{l m:Vs}(h:i<l.length):pG (l++m) i=pG l i:=by unfold pG;rw[aL,aL,bg h]
def K2(V:Vs):Prop:=∀v∈V,v.2=105\/v.2=98
theorem K2.at(h:K2 V)(hi:i<V.length):pG V i=105\/pG V i=98:=by obtain⟨v,hv,e⟩:=Md hi;rw[e];exact h v hv
theorem vL(he:e≠0):¬(say e p c).e=0:=zl he p
theorem Mh{want:Nat}(hk:k=105\/k=98):jL k want=true↔k=want:=by unfold jL;rw[bY,beq_iff_eq,beq_iff_eq];omega
theorem Gp(x:fG):∀(c:gM)(W:Vs),nU x->qo x->K2 c.vars->(jr x c).2.e=0->(jr x c).2=c/\((jr x c).1=105\/(jr x c).1=98)/\nP (c.vars++W) x (jr x c).1:=by
 match x with
 |⟨op,n,eH,pl,own,none,none⟩=>
  intro c W hw ht hk h;rw[jr]at h |-;unfold Ai at h |-;have hw':op=110\/op=116\/op=119:=hw;by_cases h1:op=110;·rw[aA h1];refine⟨rfl,ak rfl,?_⟩;rw[nP,aA h1]
  rw[ah h1]at h |-;by_cases h2:op=116;·rw[aA h2];refine⟨rfl,aj rfl,?_⟩;rw[nP,ah h1,aA h2];exact⟨rfl,ht h2⟩
  rw[ah h2]at h |-;cases hf:jG c.vars eH with| none=>rw[hf]at h;exact absurd h (vL (by decide))| some i=>
  dsimp only;have hi:=wK hf;refine⟨rfl,hk.at hi,?_⟩;rw[nP,ah h1,ah h2];exact⟨by omega,i,PX hf,PY hi⟩
 |⟨op,n,eH,pl,own,none,some r⟩=>intro c W hw;exact hw.elim
 |⟨op,n,eH,pl,own,some l,none⟩=>
  intro c W hw ht hk h;rw[jr]at h |-;unfold sH at h |-;dsimp only at h |-;have hl:(jr l c).2.e=0/\jL (jr l c).1 98=true:=by
   split at h;·rename_i hi;exact⟨h,hi⟩
   exact absurd h (vL (by decide))
  obtain⟨i1,i2,i3⟩:=Gp l c W hw.2 ht hk hl.1;rw[aA hl.2];refine⟨i1,aj rfl,?_⟩;rw[nP];rw[(Mh i2).1 hl.2]at i3;exact⟨hw.1,rfl,i3⟩
 |⟨op,n,eH,pl,own,some l,some r⟩=>
 intro c W hw ht hk h;rw[jr]at h |-;obtain⟨hop,hwl,hwr⟩:=hw;have hr0:(jr r (jr l c).2).2.e=0:=by
  unfold pI at h;split at h
  ·dsimp only at h;split at h;·exact absurd h (vL (by decide))
   exact h
  dsimp only at h;split at h;·exact h
  exact absurd h (vL (by decide))
 have hl0:(jr l c).2.e=0:=aU fun hn=>Ef r _ hn hr0;obtain⟨i1,i2,i3⟩:=Gp l c W hwl ht.1 hk hl0;rw[i1]at hr0 h |-;obtain⟨j1,j2,j3⟩:=Gp r c W hwr ht.2 hk hr0;unfold pI at h |-;by_cases ho:op=61\/op=35
 ·rw[aA ho]at h |-;dsimp only at h |-;split at h;·exact absurd h (vL (by decide))
  rename_i hu;rw[ah hu,j1];refine⟨rfl,aj rfl,?_⟩;rw[nP,aA ho];have:(jr l c).1=(jr r c).1:=by unfold vS at hu;simp only[bH,bne_iff_ne,ne_eq,not_and,Decidable.not_not]at hu;omega
  exact⟨rfl,_,i3,by rw[this];exact j3⟩
 rw[ah ho]at h |-;dsimp only at h |-;split at h;·rename_i hi;rw[aA hi,j1];rw[bH,Mh i2,Mh j2]at hi;refine⟨rfl,by split<;>omega,?_⟩;rw[nP,ah ho];rw[hi.1]at i3;rw[hi.2]at j3;exact⟨by omega,rfl,i3,j3⟩
 exact absurd h (vL (by decide))
theorem VH(hk:K2 c.vars)(hk':k=105\/k=98)(h:(oQ w p k c).e=0):c.e=0/\K2 (oQ w p k c).vars/\(∃m,(oQ w p k c).vars=c.vars++m)/\∀W,qC ((oQ w p k c).vars++W) w k:=by
 have hc0:c.e=0:=aU fun hn=>Eh hn w p k h;unfold oQ at h |-;cases hf:jG c.vars w with
 |none=>
  simp only;refine⟨hc0,?_,⟨[(w,k)],rfl⟩,?_⟩
  ·intro v hv;rw[bT,bD]at hv;obtain hv|rfl:=hv;·exact hk v hv
   exact hk'
  intro W;refine⟨c.vars.length,PX (Cp hf),?_⟩;rw[PY (by simp)];unfold pG;simp[List.getD_eq_getElem?_getD]
 |some i=>
 rw[hf]at h;simp only at h |-;have hi:=wK hf;split at h;·exact absurd h (vL (by decide))
 rename_i hu;rw[ah hu];refine⟨hc0,hk,⟨[],by simp⟩,fun W=>⟨i,PX hf,?_⟩⟩;rw[PY hi];have:=hk.at hi;unfold vS at hu;simp only[bH,bne_iff_ne,ne_eq,not_and,Decidable.not_not]at hu;omega
theorem PZ{x:Option fG}(hw:Aj x)(ht:∀e,x=some e->qo e)(hk:K2 c.vars)(h:(nD x k c).e=0):c.e=0/\nD x k c=c/\∀W,okO (c.vars++W) x k:=by
 have hc0:c.e=0:=aU fun hn=>Mg hn x k h;unfold nD at h |-;cases x with| none=>exact⟨hc0,rfl,fun W e he=>by cases he⟩| some e=>
 simp only at h |-;split at h;·rename_i hi;rw[aA hi];have hh:=fun W=>Gp e c W (hw e rfl) (ht e rfl) hk h;refine⟨hc0,(hh []).1,fun W e' he=>?_⟩;cases he;obtain⟨_,i2,i3⟩:=hh W;rw[(Mh i2).1 hi]at i3;exact i3
 exact absurd h (vL (by decide))
theorem CS(l:List Sm):∀(c:gM),jZ l->tX l->K2 c.vars->(jv l c).e=0->c.e=0/\K2 (jv l c).vars/\(∃m,(jv l c).vars=c.vars++m)/\∀W,oK ((jv l c).vars++W) l:=by
 match l with
 |[]=>intro c _ _ hk h;rw[jv]at h |-;exact⟨h,hk,⟨[],by simp⟩,fun W=>VF _⟩
 |⟨op,eH,pl,ex,gH,gG,undo,n,gZ,one,two⟩::rest=>
 intro c hw ht hk h;rw[PW]at h |-;obtain⟨⟨hw1,hw2⟩,hwo,hwt,hwr⟩:=Ak.1 hw;obtain⟨ht1,hto,P6,htr⟩:=VG.1 ht;dsimp only at hw1 hw2 hwo hwt ht1 hto P6;have hx:(xq ⟨op,eH,pl,ex,gH,gG,undo,n,gZ,one,two⟩ c).e=0:=aU fun hn=>xw rest _ hn h;have key:c.e=0/\K2 (xq ⟨op,eH,pl,ex,gH,gG,undo,n,gZ,one,two⟩ c).vars/\(∃m,(xq ⟨op,eH,pl,ex,gH,gG,undo,n,gZ,one,two⟩ c).vars=c.vars++m) /\
   ∀W,Bb ((xq ⟨op,eH,pl,ex,gH,gG,undo,n,gZ,one,two⟩ c).vars++W) op eH ex gH n/\(op=105\/op=116\/op=114->oK ((xq ⟨op,eH,pl,ex,gH,gG,undo,n,gZ,one,two⟩ c).vars++W) one)/\(op=105\/op=116->oK ((xq ⟨op,eH,pl,ex,gH,gG,undo,n,gZ,one,two⟩ c).vars++W) two):=by
  unfold xq at hx |-;dsimp only at hx |-;by_cases o1:op=108
  ·rw[aA o1]at hx |-;obtain⟨e,rfl⟩:∃e,ex=some e:=by
    cases ex with
    |none=>obtain h|h|h|h|h|h:=hw2<;>first|exact absurd rfl h.2|omega
    |some e=>exact⟨e,rfl⟩
   dsimp only at hx |-;have he0:(jr e c).2.e=0:=aU fun hn=>Eh hn _ _ _ hx;obtain⟨i1,i2,_⟩:=Gp e c [] (hw1 e rfl) (ht1 e rfl) hk he0;have i3:=fun W=>(Gp e c W (hw1 e rfl) (ht1 e rfl) hk he0).2.2;rw[i1]at hx |-;obtain⟨g1,g2,⟨m,g3⟩,g4⟩:=VH hk i2 hx;refine⟨g1,g2,⟨m,g3⟩,fun W=>⟨ak ⟨o1,e,_,rfl,?_,g4 W,i2⟩,fun h=>by omega,fun h=>by omega⟩⟩;rw[g3,aM];exact i3 _
  rw[ah o1]at hx |-;by_cases o2:op=99
  ·rw[aA o2]at hx |-;have hn:1<=n/\n<=5:=by
    by_cases hn:n<1\/5<n;·rw[aA hn]at hx;exact absurd hx (vL (by decide))
    omega
   have hnn:¬(n<1\/5<n):=by omega
   rw[ah hnn]at hx |-;by_cases ha:gH.toList.isEmpty;·rw[aA ha]at hx |-;obtain⟨m1,m2,m3⟩:=PZ hw1 ht1 hk hx;rw[m2];refine⟨m1,hk,⟨[],by simp⟩,fun W=>⟨aj (ak ⟨o2,m3 W,ak ?_,hn.1,hn.2⟩),fun h=>by omega,fun h=>by omega⟩⟩;rw[dB,aP]at ha;exact bA.2 ha
   rw[ah ha]at hx |-;have hm0:(nD ex 105 c).e=0:=aU fun hn=>Eh hn _ _ _ hx;obtain⟨m1,m2,m3⟩:=PZ hw1 ht1 hk hm0;rw[m2]at hx |-;obtain⟨g1,g2,⟨m,g3⟩,g4⟩:=VH hk (ak rfl) hx;refine⟨g1,g2,⟨m,g3⟩,fun W=>⟨aj (ak ⟨o2,?_,aj (g4 W),hn.1,hn.2⟩),fun h=>by omega,fun h=>by omega⟩⟩;rw[g3,aM];exact m3 _
  rw[ah o2]at hx |-;by_cases o3:op=105
  ·rw[aA o3]at hx |-;have h1:(jv one (nD ex 98 c)).e=0:=aU fun hn=>xw two _ hn hx;have h0:(nD ex 98 c).e=0:=aU fun hn=>xw one _ hn h1;obtain⟨m1,m2,m3⟩:=PZ hw1 ht1 hk h0;rw[m2]at hx h1 |-;obtain⟨a1,a2,⟨ma,a3⟩,a4⟩:=CS one c hwo hto hk h1;obtain⟨b1,b2,⟨mb,b3⟩,b4⟩:=CS two (jv one c) hwt P6 a2 hx;obtain⟨e,rfl⟩:∃e,ex=some e:=by
    cases ex with
    |none=>obtain h|h|h|h|h|h:=hw2<;>first|exact absurd rfl h.2|omega
    |some e=>exact⟨e,rfl⟩
   refine⟨m1,b2,⟨ma++mb,by rw[b3,a3,aM]⟩,fun W=>⟨aj (aj (ak ⟨o3,e,rfl,?_⟩)),fun _=>?_,fun _=>b4 W⟩⟩;·rw[b3,a3,aM,aM];exact m3 _ e rfl
   rw[b3,aM];exact a4 _
  rw[ah o3]at hx |-;by_cases o4:op=116;·rw[aA o4]at hx |-;have h1:(jv one c).e=0:=aU fun hn=>xw two _ hn hx;obtain⟨a1,a2,⟨ma,a3⟩,a4⟩:=CS one c hwo hto hk h1;obtain⟨b1,b2,⟨mb,b3⟩,b4⟩:=CS two (jv one c) hwt P6 a2 hx;refine⟨a1,b2,⟨ma++mb,by rw[b3,a3,aM]⟩,fun W=>⟨aj (aj (aj (ak o4))),fun _=>?_,fun _=>b4 W⟩⟩;rw[b3,aM];exact a4 _
  rw[ah o4]at hx |-;by_cases o5:op=114
  ·rw[aA o5]at hx |-;have hn:n<=9:=by
    by_cases hn:9<n;·rw[aA hn]at hx;exact absurd hx (xw one _ (zl (by decide) _))
    omega
   rw[ah (by omega)]at hx |-;obtain⟨a1,a2,⟨ma,a3⟩,a4⟩:=CS one c hwo hto hk hx;exact⟨a1,a2,⟨ma,a3⟩,fun W=>⟨aj (aj (aj (aj (ak ⟨o5,hn⟩)))),fun _=>a4 W,fun h=>by omega⟩⟩
  rw[ah o5]at hx |-;refine⟨hx,hk,⟨[],by simp⟩,fun W=>⟨aj (aj (aj (aj (aj ?_)))),fun h=>by omega,fun h=>by omega⟩⟩;obtain h|h|h|h|h|h:=hw2<;>omega
 obtain⟨k1,k2,⟨m,k3⟩,k4⟩:=key;obtain⟨r1,r2,⟨m',r3⟩,r4⟩:=CS rest _ hwr htr k2 h;refine⟨k1,r2,⟨m++m',by rw[r3,k3,aM]⟩,fun W=>?_⟩;rw[Bc];dsimp only;rw[r3,aM];obtain⟨q1,q2,q3⟩:=k4 (m'++W);refine⟨q1,q2,q3,?_⟩;rw[<- aM,<- r3];exact r4 W
structure fC where
 k:Nat
 a:Nat
 b:Nat
structure Pg where
 gT:List dX
 nv:Nat
 ins:List fC
structure Ms where
 st:List Int
 vars:List Int
 fV:List (Nat×Int)
 fK:List (Nat×Nat×Nat)
 eY:List iL
 left:List Int
 eD:Nat
 fD:Nat
 jK:Bool
 fin:Nat
def iI(P:Pg)(i:Nat)(arg:Int)(most:Nat)(und:Bool)(m:Ms):Nat×Int×Ms:=
 match m.left with
 |[]=>(2,0,{m with eY:=m.eY++[⟨P.gT.getD i iF,arg,m.fD+1,und⟩]})
 |v::r=>
  if v<0/\m.fD+1<most then(3,0,{m with eY:=m.eY++[⟨P.gT.getD i iF,arg,m.fD+1,und⟩],left:=r,fD:=m.fD+1})
  else if v<0 then(1,0,{m with eY:=m.eY++[⟨P.gT.getD i iF,arg,m.fD+1,und⟩],left:=r,fD:=0})
  else(0,v,{m with eY:=m.eY++[⟨P.gT.getD i iF,arg,m.fD+1,und⟩],left:=r,fD:=0})
def xA(k:Nat)(a b:Int):Int:=
 if k=4 then wrap64 (a+b)else if k=5 then wrap64 (a-b)else if k=6 then wrap64 (a*b)
 else if k=8 then iY (decide (a<b))else if k=9 then iY (decide (a=b))else iY (decide (a≠b))
def jF(P:Pg)(i:fC)(m:Ms):Nat×Ms:=
 if i.k=0 then(0,{m with st:=(i.a:Int)::m.st})
 else if i.k=1 then(0,{m with st:=m.vars.getD i.a 0::m.st})
 else if i.k=2 then(0,{m with vars:=m.vars.set i.a (m.st.headD 0),st:=m.st.tail})
 else if i.k=3 then(0,{m with st:=m.st.tail})
 else if i.k=7 then
  if m.st.headD 0=0 then(1,m)else(0,{m with st:=wrap64 ((m.st.tail.headD 0).tdiv (m.st.headD 0))::m.st.tail.tail})
 else if i.k<=10 then(0,{m with st:=xA i.k (m.st.tail.headD 0) (m.st.headD 0)::m.st.tail.tail})
 else if i.k=11 then(0,{m with st:=iY (decide (m.st.headD 0=0))::m.st.tail})
 else if i.k=12 then(0,{m with eD:=i.a})
 else if i.k=13 then(0,{m with st:=m.st.tail,eD:=if m.st.headD 0=0 then i.a else m.eD})
 else if i.k=14 then
  if 0<m.st.headD 0 then(0,{m with st:=wrap64 (m.st.headD 0-1)::m.st.tail})else(0,{m with st:=m.st.tail,eD:=i.a})
 else if i.k=15 then(0,{m with fK:=(m.fV.length,m.st.length,i.a)::m.fK})
 else if i.k=16 then(0,{m with fK:=m.fK.tail,eD:=i.a})
 else if i.k=17 then(1,m)
 else if i.k=18 then
  match iI P i.a (m.st.headD 0) i.b false m with
  |(0,v,m')=>(0,{m' with st:=v::m'.st.tail})
  |(e,_,m')=>(e,m')
 else(0,{m with fV:=(i.a,m.st.headD 0)::m.fV})
def nQ(m:Ms):Nat:=
 match m.fK with
 |[]=>0
 |b::_=>b.1
def jC(P:Pg)(m:Ms):Nat×Ms:=
 match m.fV with
 |[]=>behind
 |u::r=>
  if m.fV.length=nQ m then behind
  else
   match iI P u.1 u.2 3 true m with
   |(0,_,m')=>(0,{m' with fV:=r})
   |(1,_,m')=>(4,m')
   |(e,_,m')=>(e,m')
where
 behind:Nat×Ms:=
  match m.fK with
  |[]=>(0,{m with jK:=false,fin:=2})
  |b::r=>(0,{m with jK:=false,fK:=r,st:=m.st.drop (m.st.length-b.2.1),eD:=b.2.2})
def jB(P:Pg)(m:Ms):Nat×Ms:=
 if m.jK then jC P m
 else
  match P.ins[m.eD]? with
  |none=>(0,{m with fin:=1})
  |some i=>
   match jF P i {m with eD:=m.eD+1}with
   |(0,m')=>(0,m')
   |(e,m')=>(e,{m' with eD:=m.eD})
def kg(P:Pg)(m:Ms):Bool×Ms:=
 match jB P m with
 |(0,m')=>(decide (m'.fin≠0),m')
 |(1,m')=>(decide (m'.fin≠0),{m' with jK:=true})
 |(2,m')=>(true,m')
 |(3,m')=>(decide (m'.fin≠0),m')
 |(_,m')=>(true,{m' with fin:=3})
def gJ(P:Pg):Nat->Ms->Nat×Ms
 |0,m=>(4,m)
 |n+1,m=>if(kg P m).1 then((kg P m).2.fin,(kg P m).2)else gJ P n (kg P m).2
def kH(P:Pg):Nat->Ms->Option Ms
 |0,m=>some m
 |n+1,m=>if(kg P m).1 then none else kH P n (kg P m).2
variable{P:Pg}{m m' m1:Ms}
theorem qp{a b:Nat}{m2:Ms}(h:kH P a m=some m1)(k:kH P b m1=some m2):kH P (a+b) m=some m2:=by
 induction a generalizing m with
 |zero=>cases h;simpa using k
 |succ a ih=>
 rw[kH]at h;rw[show a+1+b=(a+b)+1 by omega,kH];split at h;·cases h
 rename_i hs;rw[ah hs];exact ih h
theorem CU(h:kg P m=(false,m1)):kH P 1 m=some m1:=by rw[kH,h]<;>rfl
theorem VI{a:Nat}(h:kH P a m=some m1)(hn:a<=n):gJ P n m=gJ P (n-a) m1:=by
 induction a generalizing m n with
 |zero=>cases h;rfl
 |succ a ih=>
 obtain⟨n,rfl⟩:∃k,n=k+1:=⟨n-1,by omega⟩;rw[kH]at h;split at h;·cases h
 rename_i hs;rw[gJ,ah hs,ih h (by omega)];congr 1;omega
theorem Cs(h:kg P m=(true,m1))(hn:0<n):gJ P n m=(m1.fin,m1):=by obtain⟨n,rfl⟩:∃k,n=k+1:=⟨n-1,by omega⟩;rw[gJ,h]<;>rfl
def fF:List dX->dX->Nat
 |[],_=>0
 |v::r,w=>if v.toList==w.toList then 0 else fF r w+1
def qH(op:Nat):Nat:=if op=43 then 4 else if op=45 then 5 else if op=42 then 6 else if op=47 then 7 else if op=60 then 8 else if op=61 then 9 else 10
def ko(iv:dX->Nat):fG->List fC
 |⟨op,n,eH,_,_,none,_⟩=>if op=119 then[⟨1,iv eH,0⟩]else[⟨0,n,0⟩]
 |⟨_,_,_,_,_,some l,none⟩=>ko iv l++[⟨11,0,0⟩]
 |⟨op,_,_,_,_,some l,some r⟩=>ko iv l++ko iv r++[⟨qH op,0,0⟩]
def mO(iv:dX->Nat)(x:Option fG):List fC:=
 match x with
 |none=>[⟨0,0,0⟩]
 |some e=>ko iv e
def yu(iw iv:dX->Nat)(eH:dX)(ex:Option fG)(gH undo:dX)(n:Nat):List fC:=mO iv ex++([⟨18,iw eH,n⟩]++((if undo.size=0 then[]else[⟨19,iw undo,0⟩])++[if gH.size=0 then⟨3,0,0⟩else⟨2,iv gH,0⟩]))
def gL(iw iv:dX->Nat):List Sm->Nat->List fC
 |[],_=>[]
 |⟨op,eH,_,ex,gH,_,undo,n,_,one,two⟩::rest,p=>
  let c:=
   if op=108 then mO iv ex++[⟨2,iv eH,0⟩]
   else if op=99 then yu iw iv eH ex gH undo n
   else if op=105 then
    let x:=mO iv ex
    let a:=gL iw iv one (p+x.length+1)
    if two.isEmpty then x++([⟨13,p+x.length+1+a.length,0⟩]++a)
    else
     let b:=gL iw iv two (p+x.length+1+a.length+1)
     x++([⟨13,p+x.length+1+a.length+1,0⟩]++(a++([⟨12,p+x.length+1+a.length+1+b.length,0⟩]++b)))
   else if op=116 then
    let a:=gL iw iv one (p+1)
    let b:=gL iw iv two (p+1+a.length+1)
    [⟨15,p+1+a.length+1,0⟩]++(a++([⟨16,p+1+a.length+1+b.length,0⟩]++b))
   else if op=114 then
    let a:=gL iw iv one (p+2)
    [⟨0,n,0⟩]++([⟨14,p+2+a.length+1,0⟩]++(a++[⟨12,p+1,0⟩]))
   else[⟨17,0,0⟩]
  c++gL iw iv rest (p+c.length)
def lM(iw iv:dX->Nat)(x:Sm)(p:Nat):List fC:=
 if x.op=108 then mO iv x.ex++[⟨2,iv x.eH,0⟩]
 else if x.op=99 then yu iw iv x.eH x.ex x.gH x.undo x.n
 else if x.op=105 then
  let c:=mO iv x.ex
  let a:=gL iw iv x.one (p+c.length+1)
  if x.two.isEmpty then c++([⟨13,p+c.length+1+a.length,0⟩]++a)
  else
   let b:=gL iw iv x.two (p+c.length+1+a.length+1)
   c++([⟨13,p+c.length+1+a.length+1,0⟩]++(a++([⟨12,p+c.length+1+a.length+1+b.length,0⟩]++b)))
 else if x.op=116 then
  let a:=gL iw iv x.one (p+1)
  let b:=gL iw iv x.two (p+1+a.length+1)
  [⟨15,p+1+a.length+1,0⟩]++(a++([⟨16,p+1+a.length+1+b.length,0⟩]++b))
 else if x.op=114 then
  let a:=gL iw iv x.one (p+2)
  [⟨0,x.n,0⟩]++([⟨14,p+2+a.length+1,0⟩]++(a++[⟨12,p+1,0⟩]))
 else[⟨17,0,0⟩]
theorem Gq(iw iv:dX->Nat)(p:Nat):gL iw iv [] p=[]:=by rw[gL]
theorem Ei(iw iv:dX->Nat)(x:Sm)(l:List Sm)(p:Nat):gL iw iv (x::l) p=lM iw iv x p++gL iw iv l (p+(lM iw iv x p).length):=by obtain⟨op,eH,pl,ex,gH,gG,undo,n,gZ,one,two⟩:=x;rw[gL.eq_def];all_goals rfl
def jQ:fG->Nat
 |⟨_,_,_,_,_,none,_⟩=>1
 |⟨_,_,_,_,_,some l,none⟩=>jQ l+1
 |⟨_,_,_,_,_,some l,some r⟩=>jQ l+jQ r+1
def kC(x:Option fG):Nat:=
 match x with
 |none=>1
 |some e=>jQ e
def lU:List Sm->Nat
 |[]=>0
 |⟨op,_,_,ex,_,_,undo,n,_,one,two⟩::rest=>
  (if op=108 then kC ex+1
   else if op=99 then kC ex+n+(if undo.size=0 then 0 else 4)+1
   else if op=105 then kC ex+2+lU one+lU two
   else if op=116 then 3+lU one+lU two
   else if op=114 then 2+n*(lU one+2)
   else 1)+lU rest
def qI(x:Sm):Nat:=
 if x.op=108 then kC x.ex+1
 else if x.op=99 then kC x.ex+x.n+(if x.undo.size=0 then 0 else 4)+1
 else if x.op=105 then kC x.ex+2+lU x.one+lU x.two
 else if x.op=116 then 3+lU x.one+lU x.two
 else if x.op=114 then 2+x.n*(lU x.one+2)
 else 1
theorem P7:lU []=0:=by rw[lU]
theorem VJ(x:Sm)(l:List Sm):lU (x::l)=qI x+lU l:=by obtain⟨op,eH,pl,ex,gH,gG,undo,n,gZ,one,two⟩:=x;rw[lU];all_goals rfl
def jT(P:Pg)(p:Nat)(c:List fC):Prop:=∀j,j<c.length->P.ins[p+j]?=c[j]?
variable{a b:List fC}
theorem jT.left(h:jT P p (a++b)):jT P p a:=fun j hj=>by rw[h j (by simp;omega),bg hj]
theorem jT.right(h:jT P p (a++b)):jT P (p+a.length) b:=fun j hj=>by rw[dL,h (a.length+j) (by simp;omega),aY (by omega),Nat.add_sub_cancel_left]
theorem jT.head{i:fC}(h:jT P p (i::b)):P.ins[p]?=some i:=by have:=h 0 (by simp);simpa using this
theorem jT.one{i:fC}(h:jT P p [i]):P.ins[p]?=some i:=h.head
theorem P8{i:fC}(hi:P.ins[m.eD]?=some i)(hu:m.jK=false):jB P m=match jF P i {m with eD:=m.eD+1}with
  |(0,m')=>(0,m')
  |(e,m')=>(e,{m' with eD:=m.eD}):=by
 unfold jB;rw[ah (by simp[hu]),hi];all_goals rfl
theorem step_ok{i:fC}(hi:P.ins[m.eD]?=some i)(hu:m.jK=false)(hd:jF P i {m with eD:=m.eD+1}=(0,m'))(hf:m'.fin=0):kH P 1 m=some m':=by refine CU ?_;unfold kg;rw[P8 hi hu,hd];simp only[hf];rfl
theorem VK{i:fC}(hi:P.ins[m.eD]?=some i)(hu:m.jK=false)(hd:jF P i {m with eD:=m.eD+1}=(1,m'))(hf:m'.fin=0):kH P 1 m=some {m' with eD:=m.eD,jK:=true}:=by refine CU ?_;unfold kg;rw[P8 hi hu,hd];simp only[hf];rfl
theorem vU(iv:dX->Nat)(x:fG):(ko iv x).length=jQ x:=by match x with| ⟨op,n,eH,pl,own,none,_⟩=>rw[ko,jQ];split<;>rfl| ⟨op,n,eH,pl,own,some l,none⟩=>rw[ko,jQ,aC,vU iv l];rfl| ⟨op,n,eH,pl,own,some l,some r⟩=>rw[ko,jQ,aC,aC,vU iv l,vU iv r];rfl
structure Gr(V:Vs)(held:List Int):Prop where
 len:held.length=V.length
 tr:∀i,i<V.length->pG V i=98->held.getD i 0=0\/held.getD i 0=1
theorem VL(b:Bool):iY b=0\/iY b=1:=by cases b<;>simp[iY]
theorem IV{op:Nat}(h:op=42\/op=43\/op=45\/op=60\/op=61\/op=35)(a b:Int):pJ op a b=some (xA (qH op) a b)/\qH op<=10/\qH op≠7/\4<=qH op:=by obtain rfl|rfl|rfl|rfl|rfl|rfl:=h<;>simp[pJ,xA,qH]
variable{r vars:List Int}
theorem C5{x y:Nat}(h1:4<=k)(h2:k<=10)(h3:k≠7){a b:Int}(hs:m.st=b::a::r):jF P ⟨k,x,y⟩ m=(0,{m with st:=xA k a b::r}):=by unfold jF;rw[ah (by dsimp only;omega),ah (by dsimp only;omega),ah (by dsimp only;omega),ah (by dsimp only;omega),ah (by dsimp only;omega),aA (by dsimp only;omega),hs];rfl
theorem Mi(P:Pg)(V:Vs)(iv:dX->Nat)(hiv:∀w i,jG V w=some i->iv w=i)(x:fG):∀(k:Nat)(m:Ms),nP V x k->Gr V m.vars->m.jK=false->m.fin=0->jT P m.eD (ko iv x) ->
  (∀v,ni V m.vars x=some v->kH P (jQ x) m=some {m with st:=v::m.st,eD:=m.eD+jQ x}/\(k=98->v=0\/v=1)) /\
  (ni V m.vars x=none->∃n t q,n<=jQ x/\kH P n m=some {m with st:=t++m.st,eD:=q,jK:=true}):=by
 match x with
 |⟨op,n,eH,pl,own,none,r⟩=>
  intro k m hk hty hu hf hc;rw[ko]at hc;rw[ni,jQ];rw[nP]at hk;by_cases h1:op=110;·rw[aA h1]at hk;rw[ah (by omega)]at hc |-;refine⟨fun v hv=>?_,fun h=>(by cases h)⟩;cases hv;refine⟨step_ok hc.one hu rfl hf,fun h=>by omega⟩
  ·rw[ah h1]at hk;by_cases h2:op=116;·rw[aA h2]at hk;rw[ah (by omega)]at hc |-;refine⟨fun v hv=>?_,fun h=>(by cases h)⟩;cases hv;exact⟨step_ok hc.one hu rfl hf,fun h=>by have:=hk.2;omega⟩
   ·rw[ah h2]at hk;obtain⟨h3,i,hi,hki⟩:=hk;rw[aA h3]at hc |-;refine⟨fun v hv=>?_,fun h=>(by cases h)⟩;cases hv;have hlt:=wK hi;refine⟨?_,fun h=>?_⟩
    ·have e:IU V m.vars eH=m.vars.getD (iv eH) 0:=by unfold IU;rw[hi,hiv _ _ hi]
     rw[e];exact step_ok hc.one hu rfl hf
    ·unfold IU;rw[hi];exact hty.tr i hlt (by omega)
 |⟨op,n,eH,pl,own,some l,none⟩=>
  intro k m hk hty hu hf hc;rw[ko]at hc;rw[ni,jQ];rw[nP]at hk;obtain⟨i1,i2⟩:=Mi P V iv hiv l 98 m hk.2.2 hty hu hf hc.left;constructor
  ·intro v hv;cases he:ni V m.vars l with
   |none=>rw[he]at hv;cases hv
   |some a=>
    rw[he]at hv;cases hv;dsimp only;obtain⟨j1,j2⟩:=i1 a he;have hr:=hc.right;rw[vU]at hr;have e1:iY (decide (a=0))=wrap64 (1-a):=by obtain rfl|rfl:=j2 rfl<;>simp[iY,wrap64]
    refine⟨qp j1 (step_ok (m':={m with st:=wrap64 (1-a)::m.st,eD:=m.eD+(jQ l+1)}) hr.one hu ?_ hf),fun _=>?_⟩;·rw[<- e1]<;>rfl
    ·rw[<- e1];exact VL _
  ·intro hv;cases he:ni V m.vars l with
   |some a=>rw[he]at hv;cases hv
   |none=>obtain⟨n',t,q,h1,h2⟩:=i2 he;exact⟨n',t,q,by omega,h2⟩
 |⟨op,n,eH,pl,own,some l,some r⟩=>
  intro k m hk hty hu hf hc;rw[ko]at hc;rw[ni,jQ];rw[nP]at hk;obtain⟨kl,kr,hkl,hkr⟩:∃kl kr,nP V l kl/\nP V r kr:=by
   split at hk;·obtain⟨_,j,h1,h2⟩:=hk;exact⟨j,j,h1,h2⟩
   ·exact⟨105,105,hk.2.2.1,hk.2.2.2⟩
  obtain⟨i1,i2⟩:=Mi P V iv hiv l kl m hkl hty hu hf hc.left.left;cases hl:ni V m.vars l with
  |none=>refine⟨fun v hv=>(by cases hv),fun _=>?_⟩;obtain⟨n',t,q,h1,h2⟩:=i2 hl;exact⟨n',t,q,by omega,h2⟩
  |some a=>
   obtain⟨a1,_⟩:=i1 a hl;have hcr:=hc.left.right;rw[vU]at hcr;obtain⟨j1,j2⟩:=Mi P V iv hiv r kr {m with st:=a::m.st,eD:=m.eD+jQ l} hkr hty hu hf hcr;cases hr:ni V m.vars r with
   |none=>refine⟨fun v hv=>(by cases hv),fun _=>?_⟩;obtain⟨n',t,q,h1,h2⟩:=j2 hr;refine⟨jQ l+n',t++[a],q,by omega,?_⟩;have:=qp a1 h2;simpa using this
   |some b=>
    obtain⟨b1,_⟩:=j1 b hr;have hco:=hc.right;rw[aC,vU,vU]at hco;have ab:=qp a1 b1;dsimp only at ab |-;by_cases hdv:op=47
    ·have hko:qH op=7:=by rw[hdv]<;>rfl
     rw[hko]at hco;have hop2:pJ op a b=if b=0 then none else some (wrap64 (a.tdiv b)):=by rw[hdv]<;>rfl
     rw[hop2];by_cases hb:b=0
     ·rw[aA hb];refine⟨fun v hv=>(by cases hv),fun _=>?_⟩;refine⟨jQ l+jQ r+1,[b,a],m.eD+jQ l+jQ r,by omega,qp ab ?_⟩;have hd:jF P ⟨7,0,0⟩ {m with st:=b::a::m.st,eD:=m.eD+jQ l+jQ r+1}=(1,{m with st:=b::a::m.st,eD:=m.eD+jQ l+jQ r+1}):=by unfold jF;simp[hb]
      exact VK (m:={m with st:=b::a::m.st,eD:=m.eD+jQ l+jQ r}) (by rw[<- dL]at hco;exact hco.one) hu hd hf
     ·rw[ah hb];refine⟨fun v hv=>?_,fun h=>(by cases h)⟩;cases hv;refine⟨qp ab ?_,fun C6=>?_⟩;·refine step_ok (m:={m with st:=b::a::m.st,eD:=m.eD+jQ l+jQ r}) (by rw[<- dL]at hco;exact hco.one) hu ?_ hf;unfold jF;simp[hb];omega
      ·rw[ah (by omega)]at hk;have:=hk.2.1;rw[ah (by omega)]at this;omega
    ·have hops:op=42\/op=43\/op=45\/op=60\/op=61\/op=35:=by
      split at hk;·omega
      ·have:=hk.1;omega
     obtain⟨o1,o2,o3,o4⟩:=IV hops a b;rw[o1];refine⟨fun v hv=>?_,fun h=>(by cases h)⟩;cases hv;refine⟨qp ab ?_,fun C6=>?_⟩;·refine step_ok (m:={m with st:=b::a::m.st,eD:=m.eD+jQ l+jQ r}) (by rw[<- dL]at hco;exact hco.one) hu ?_ hf;rw[C5 o4 o2 o3 rfl];simp;omega
     ·have h3:op=60\/op=61\/op=35:=by
       split at hk;·omega
       ·have h4:=hk.2.1;split at h4<;>omega
      obtain rfl|rfl|rfl:=h3<;>simp only[qH,xA]<;>exact VL _
theorem VN(w:dX)(v:Int)(u:Bool)(k:Nat):∀t s,∃a l q,(fT w v u k t s).2={s with eY:=a,left:=l,stop:=q}/\((fT w v u k t s).1≠none->q=s.stop)/\((fT w v u k t s).1=none->q=true):=by
 induction k with| zero=>intro t s;exact⟨s.eY,s.left,s.stop,rfl,fun _=>rfl,fun h=>by cases h⟩| succ k ih=>
 intro t s;unfold fT ask;cases hl:s.left with| nil=>exact⟨s.eY++[⟨w,v,t,u⟩],[],true,rfl,fun h=>absurd rfl h,fun _=>rfl⟩| cons x r=>
 simp only;split;·exact⟨_,r,s.stop,rfl,fun _=>rfl,fun h=>by cases h⟩
 obtain⟨a,l,q,h1,h2,h3⟩:=ih (t+1) {s with eY:=s.eY++[⟨w,v,t,u⟩],left:=r};exact⟨a,l,q,h1,h2,h3⟩
def mP(P:Pg)(m:Ms)(n f:Nat)(eY:List iL)(vars:List Int):Prop:=∃k m1 m2,kH P k m=some m1/\kg P m1=(true,m2)/\m2.fin=f/\m2.eY=eY/\m2.vars=vars/\k+1<=n
variable{eY:List iL}
theorem mP.after(hk:kH P k m=some m1)(h:mP P m1 n f eY vars)(hn:k+n<=N):mP P m N f eY vars:=by obtain⟨j,a,b,h1,h2,h3,h4,h6,h5⟩:=h;exact⟨k+j,a,b,qp hk h1,h2,h3,h4,h6,by omega⟩
theorem mP.mono(h:mP P m n f eY vars)(hn:n<=N):mP P m N f eY vars:=by obtain⟨j,a,b,h1,h2,h3,h4,h6,h5⟩:=h;exact⟨j,a,b,h1,h2,h3,h4,h6,by omega⟩
variable{arg v:Int}{und:Bool}
theorem P9(h:m.left=[]):iI P i arg most und m=(2,0,{m with eY:=m.eY++[⟨P.gT.getD i iF,arg,m.fD+1,und⟩]}):=by unfold iI;rw[h]
theorem VO(h:m.left=v::r)(hv:0<=v):iI P i arg most und m=(0,v,{m with eY:=m.eY++[⟨P.gT.getD i iF,arg,m.fD+1,und⟩],left:=r,fD:=0}):=by unfold iI;rw[h];simp only;rw[ah (by omega),ah (by omega)]
theorem VP(h:m.left=v::r)(hv:v<0)(ht:m.fD+1<most):iI P i arg most und m=(3,0,{m with eY:=m.eY++[⟨P.gT.getD i iF,arg,m.fD+1,und⟩],left:=r,fD:=m.fD+1}):=by unfold iI;rw[h];simp only;rw[aA ⟨hv,ht⟩]
theorem VQ(h:m.left=v::r)(hv:v<0)(ht:¬m.fD+1<most):iI P i arg most und m=(1,0,{m with eY:=m.eY++[⟨P.gT.getD i iF,arg,m.fD+1,und⟩],left:=r,fD:=0}):=by unfold iI;rw[h];simp only;rw[ah (by omega),aA hv]
theorem IW(P:Pg)(i n:Nat)(m:Ms):jF P ⟨18,i,n⟩ m=match iI P i (m.st.headD 0) n false m with
  |(0,v,m')=>(0,{m' with st:=v::m'.st.tail})
  |(e,_,m')=>(e,m'):=rfl
theorem C7(P:Pg)(i N:Nat)(eH:dX)(arg:Int)(hw:P.gT.getD i iF=eH)(k:Nat):∀(m:Ms)(s:Rs),P.ins[m.eD]?=some ⟨18,i,N⟩->m.jK=false->m.fin=0->m.st.headD 0=arg->m.left=s.left->m.eY=s.eY->N=m.fD+k->0<k ->
  ((fT eH arg false k (m.fD+1) s).1=none->mP P m k 0 (fT eH arg false k (m.fD+1) s).2.eY m.vars) /\
  ((fT eH arg false k (m.fD+1) s).1=some none->∃j,j<=k/\kH P j m=some {m with eY:=(fT eH arg false k (m.fD+1) s).2.eY,left:=(fT eH arg false k (m.fD+1) s).2.left,fD:=0,jK:=true}) /\
  (∀v,(fT eH arg false k (m.fD+1) s).1=some (some v)->∃j,j<=k/\kH P j m=some {m with eY:=(fT eH arg false k (m.fD+1) s).2.eY,left:=(fT eH arg false k (m.fD+1) s).2.left,fD:=0,st:=v::m.st.tail,eD:=m.eD+1}):=by
 induction k with
 |zero=>intro m s _ _ _ _ _ _ _ h;omega
 |succ k ih=>
  intro m s hi hu hf hst hl ha hN _;have hs:=P8 hi hu;rw[IW]at hs;unfold fT ask;cases hsl:s.left with
  |nil=>
   rw[hsl]at hl;rw[P9 (m:={m with eD:=m.eD+1}) hl]at hs;refine⟨fun _=>⟨0,m,{m with eY:=m.eY++[⟨eH,arg,m.fD+1,false⟩]},rfl,?_,hf,?_,rfl,by omega⟩,fun h=>(by cases h),fun v h=>(by cases h)⟩;·unfold kg;rw[hs,hw];simp only[hst]
   ·rw[ha]
  |cons x r=>
   rw[hsl]at hl;simp only;by_cases hx:0<=x;·rw[aA hx];rw[VO (m:={m with eD:=m.eD+1}) hl hx]at hs;refine⟨fun h=>(by cases h),fun h=>(by cases h),fun v h=>?_⟩;cases h;refine⟨1,by omega,CU ?_⟩;unfold kg;rw[hs,hw];simp only[hst,hf,ha];rfl
   ·rw[ah hx];by_cases hk:k=0;·subst hk;rw[VQ (m:={m with eD:=m.eD+1}) hl (by omega) (by dsimp only;omega)]at hs;unfold fT;refine⟨fun h=>(by cases h),fun _=>⟨1,by omega,CU ?_⟩,fun v h=>(by cases h)⟩;unfold kg;rw[hs,hw];simp only[hst,hf,ha];rfl
    ·rw[VP (m:={m with eD:=m.eD+1}) hl (by omega) (by dsimp only;omega)]at hs;have h1:kH P 1 m=some {m with eY:=s.eY++[⟨eH,arg,m.fD+1,false⟩],left:=r,fD:=m.fD+1}:=by refine CU ?_;unfold kg;rw[hs,hw];simp only[hst,hf,ha];rfl
     obtain⟨g1,g2,g3⟩:=ih {m with eY:=s.eY++[⟨eH,arg,m.fD+1,false⟩],left:=r,fD:=m.fD+1} {s with eY:=s.eY++[⟨eH,arg,m.fD+1,false⟩],left:=r} hi hu hf hst rfl rfl (by dsimp only;omega) (by omega);dsimp only at g1 g2 g3;refine⟨fun h=>(g1 h).after h1 (by omega),fun h=>?_,fun v h=>?_⟩;·obtain⟨j,hj,hh⟩:=g2 h;exact⟨1+j,by omega,qp h1 hh⟩
     ·obtain⟨j,hj,hh⟩:=g3 v h;exact⟨1+j,by omega,qp h1 hh⟩
theorem Qa{u:Nat×Int}{r:List (Nat×Int)}(hu:m.jK=true)(hm:m.fV=u::r)(hfl:nQ m<m.fV.length):jB P m=match iI P u.1 u.2 3 true m with
   |(0,_,m')=>(0,{m' with fV:=r})
   |(1,_,m')=>(4,m')
   |(e,_,m')=>(e,m'):=by
 unfold jB jC;rw[aA hu];split;·rename_i h;rw[hm]at h;cases h
 ·rename_i u' r' h;rw[hm]at h;cases h;rw[ah (by omega)];all_goals rfl
theorem Dd(P:Pg)(eH:dX)(u:Nat×Int)(r:List (Nat×Int))(hw:P.gT.getD u.1 iF=eH)(k:Nat):∀(m:Ms)(s:Rs),m.jK=true->m.fV=u::r->nQ m<m.fV.length->m.fin=0->m.left=s.left->m.eY=s.eY->3=m.fD+k->0<k ->
  ((fT eH u.2 true k (m.fD+1) s).1=none->mP P m k 0 (fT eH u.2 true k (m.fD+1) s).2.eY m.vars) /\
  ((fT eH u.2 true k (m.fD+1) s).1=some none->mP P m k 3 (fT eH u.2 true k (m.fD+1) s).2.eY m.vars) /\
  (∀v,(fT eH u.2 true k (m.fD+1) s).1=some (some v)->∃j,j<=k/\kH P j m=some {m with eY:=(fT eH u.2 true k (m.fD+1) s).2.eY,left:=(fT eH u.2 true k (m.fD+1) s).2.left,fD:=0,fV:=r}):=by
 induction k with
 |zero=>intro m s _ _ _ _ _ _ _ h;omega
 |succ k ih=>
  intro m s hu hm hfl hf hl ha hN _;have hs:=Qa (P:=P) hu hm hfl;unfold fT ask;cases hsl:s.left with
  |nil=>
   rw[hsl]at hl;rw[P9 hl]at hs;refine⟨fun _=>⟨0,m,{m with eY:=m.eY++[⟨eH,u.2,m.fD+1,true⟩]},rfl,?_,hf,?_,rfl,by omega⟩,fun h=>(by cases h),fun v h=>(by cases h)⟩;·unfold kg;rw[hs,hw];all_goals rfl
   ·rw[ha]
  |cons x q=>
   rw[hsl]at hl;simp only;by_cases hx:0<=x;·rw[aA hx];rw[VO hl hx]at hs;refine⟨fun h=>(by cases h),fun h=>(by cases h),fun v h=>⟨1,by omega,CU ?_⟩⟩;unfold kg;rw[hs,hw];simp only[hf,ha];rfl
   ·rw[ah hx];by_cases hk:k=0
    ·subst hk;rw[VQ hl (by omega) (by omega)]at hs;unfold fT;refine⟨fun h=>(by cases h),fun _=>⟨0,m,{m with eY:=m.eY++[⟨eH,u.2,m.fD+1,true⟩],left:=q,fD:=0,fin:=3},rfl,?_,rfl,?_,rfl,by omega⟩,fun v h=>(by cases h)⟩;·unfold kg;rw[hs,hw];all_goals rfl
     ·rw[ha]
    ·rw[VP hl (by omega) (by omega)]at hs;have h1:kH P 1 m=some {m with eY:=s.eY++[⟨eH,u.2,m.fD+1,true⟩],left:=q,fD:=m.fD+1}:=by refine CU ?_;unfold kg;rw[hs,hw];simp only[hf,ha];rfl
     obtain⟨g1,g2,g3⟩:=ih {m with eY:=s.eY++[⟨eH,u.2,m.fD+1,true⟩],left:=q,fD:=m.fD+1} {s with eY:=s.eY++[⟨eH,u.2,m.fD+1,true⟩],left:=q} hu hm hfl hf rfl rfl (by dsimp only;omega) (by omega);dsimp only at g1 g2 g3;refine⟨fun h=>(g1 h).after h1 (by omega),fun h=>(g2 h).after h1 (by omega),fun v h=>?_⟩;obtain⟨j,hj,hh⟩:=g3 v h;exact⟨1+j,by omega,qp h1 hh⟩
def nA(P:Pg)(u:Nat×Int):dX×Int:=(P.gT.getD u.1 iF,u.2)
theorem VR(P:Pg)(L:List (Nat×Int)):∀(r:List (Nat×Int))(m:Ms)(s:Rs),m.jK=true->m.fV=L++r->nQ m=r.length->m.fin=0->m.left=s.left->m.eY=s.eY->m.fD=0->s.over=0->s.stop=false ->
  ((ny (L.map (nA P)) s).over≠0\/(ny (L.map (nA P)) s).stop=true->mP P m (3*L.length) (ny (L.map (nA P)) s).over (ny (L.map (nA P)) s).eY m.vars) /\
  ((ny (L.map (nA P)) s).over=0->(ny (L.map (nA P)) s).stop=false->∃j,j<=3*L.length/\kH P j m=some {m with eY:=(ny (L.map (nA P)) s).eY,left:=(ny (L.map (nA P)) s).left,fV:=r}) /\
  (∃a l o q,ny (L.map (nA P)) s={s with eY:=a,left:=l,over:=o,stop:=q}):=by
 induction L with
 |nil=>
  intro r m s hu hm hfl hf hl ha ht ho hs;rw[List.map_nil,ny];refine⟨fun h=>?_,fun _ _=>⟨0,by simp,?_⟩,s.eY,s.left,s.over,s.stop,rfl⟩;·rw[ho,hs]at h;simp at h
  ·rw[kH,<- hl,<- ha];simp only[dz]at hm;rw[<- hm]
 |cons u L ih=>
  intro r m s hu hm hfl hf hl ha ht ho hs;rw[dR];have hm':m.fV=u::(L++r):=hm;have hlt:nQ m<m.fV.length:=by rw[hfl,hm'];simp;omega
  obtain⟨g1,g2,g3⟩:=Dd P (P.gT.getD u.1 iF) u (L++r) rfl 3 m s hu hm' hlt hf hl ha (by omega) (by omega);rw[ht]at g1 g2 g3;obtain⟨a,l,q,f1,f2,f3⟩:=VN (P.gT.getD u.1 iF) u.2 true 3 1 s;rw[nA,ny];cases htr:fT (P.gT.getD u.1 iF) u.2 true 3 1 s with
  |mk o s1=>
   rw[htr]at f1 f2 f3 g1 g2 g3;dsimp only at f1 f2 f3 g1 g2 g3;subst f1;match o with
   |none=>simp only;rw[f3 rfl]at g1 |-;refine⟨fun _=>?_,fun _ h=>(by cases h),a,l,s.over,true,rfl⟩;have:=(g1 rfl).mono (N:=3*(u::L).length) (by simp;omega);rw[ho];exact this
   |some none=>simp only;rw[f2 (by simp)]at g2 |-;refine⟨fun _=>(g2 rfl).mono (by simp;omega),fun h=>(by cases h),a,l,3,s.stop,rfl⟩
   |some (some v)=>simp only;rw[f2 (by simp)]at g3 |-;obtain⟨j,hj,hh⟩:=g3 v rfl;dsimp only at hh;obtain⟨e1,e2,a',l',o',q',e3⟩:=ih r {m with eY:=a,left:=l,fD:=0,fV:=L++r} {s with eY:=a,left:=l} hu rfl hfl hf rfl rfl rfl ho hs;refine⟨fun h=>(e1 h).after hh (by simp;omega),fun h h'=>?_,a',l',o',q',e3⟩;obtain⟨j',hj',hh'⟩:=e2 h h';refine⟨j+j',by simp;omega,?_⟩;have:=qp hh hh';rw[this];dsimp only;rw[ht]
theorem Ej(h:m.fV.length=nQ m):jC P m=jC.behind m:=by
 unfold jC;split;·rfl
 rw[aA h]
theorem De{h s:Nat}{r:List (Nat×Nat×Nat)}(hu:m.jK=true)(hb:m.fK=(f,h,s)::r)(hfl:m.fV.length=f)(hf:m.fin=0):kH P 1 m=some {m with jK:=false,fK:=r,st:=m.st.drop (m.st.length-h),eD:=s}:=by
 refine CU ?_;have hfm:nQ m=f:=by unfold nQ;rw[hb]
 have hb':jC.behind m=(0,{m with jK:=false,fK:=r,st:=m.st.drop (m.st.length-h),eD:=s}):=by unfold jC.behind;rw[hb]
 unfold kg jB;rw[aA hu,Ej (by omega),hb'];simp only[hf];rfl
theorem Do(hu:m.jK=true)(hb:m.fK=[])(hfl:m.fV=[]):kg P m=(true,{m with jK:=false,fin:=2}):=by
 have hfm:nQ m=0:=by unfold nQ;rw[hb]
 have hb':jC.behind m=(0,{m with jK:=false,fin:=2}):=by unfold jC.behind;rw[hb]
 unfold kg jB;rw[aA hu,Ej (by rw[hfl,hfm]<;>rfl),hb'];rfl
