import Derived.Test.YtokkhhekekeokaaGreatDoorC33
import Derived.Test.YtokkhhekekeokaaGreatDoorC17
set_option maxRecDepth 100000
set_option maxHeartbeats 4000000
namespace Go.Proofs.YtokkhhekekeokaaGreatDoor
open Go.RowKit Tryz
namespace Rn
open Px Ref
variable {B jl n:Nat}{l:List Int}{a:List Px.Ask}{v' va:fC}{ask:Px.Ask}{W w:fu}
theorem zph (h:Kl B jl l (a++[ask]) v' W/\fO (fun k=>k=jl\/va.ownBlock=some k) w W/\(v'.ownBlock=va.ownBlock\/v'.ownBlock=none\/∃ n,v'.ownBlock=some n/\w.heap.size<=n/\n < W.heap.size))(hl:l=[]):JZ (Kl B jl) jl l a va ask w (.returned (.tuple #[.int .i64 0,.bool false])) W:=by
 subst hl;exact ⟨rfl,v',h.1,h.2.1,h.2.2⟩
theorem zpf (hjl:jl < B){x:Int}{r:List Int}(h:Kl B jl (x::r) (a++[ask]) v' W/\fO (fun k=>k=jl\/va.ownBlock=some k) w W/\(v'.ownBlock=va.ownBlock\/v'.ownBlock=none\/∃ n,v'.ownBlock=some n/\w.heap.size<=n/\n < W.heap.size)){q o c:Nat}(h1:W.cell? ⟨jl,1,none⟩=some (.slice (some ⟨q,o,none⟩) (r.length+1) c)):JZ (Kl B jl) jl (x::r) a va ask w (.returned (.tuple #[.int .i64 x,.bool true])) (W.setCell ⟨jl,1,none⟩ (.slice (some (if c=1 then ⟨q,o,none⟩ else ⟨q,o+1,none⟩)) r.length (c - 1))):=by
 refine ⟨rfl,v',h.1.next hjl h1,fO.setCell (T:=fun k=>k=jl\/va.ownBlock=some k) h.2.1 (p:=⟨jl,1,none⟩) (ak (ak rfl)) _,?_⟩
 rcases h.2.2 with h | h | ⟨n,h,h2,h3⟩
 ·exact ak h
 ·exact ah (ak h)
 ·exact ah (ah ⟨n,h,h2,by simpa [World.setCell] using h3⟩)
theorem zpg (B jl:Nat)(hjl:jl < B)(l:List Int)(a:List Px.Ask)(va:fC)(w:fu)(ask:Px.Ask)(h:Kl B jl l a va w)(hB:B<=w.heap.size)(hl:a.length<=10000000)(hll:l.length<=140737488355328) :
  Calls prog 214 #[.pointer (some ⟨jl,0,none⟩),yM ask] w (JZ (Kl B jl) jl l a va ask w):=by
 obtain ⟨c0,⟨sv,c1,ha⟩,fr,ow⟩:=id h;obtain ⟨a0,n0,k0,rfl⟩:=jm ow;obtain ⟨i0,hi,hz0,hz1,hz2⟩:=info_parts Py;obtain ⟨fD,arg,nth,und⟩:=ask;obtain ⟨A,hA⟩:∃ A,A=Obj.cells #[.string fD,.int .i64 arg,.int .i64 (nth:Int),.bool und] 122:=⟨_,rfl⟩;have hW:fO (fun _=>False) w (((w.alloc A).alloc A).drew):=(((fO.refl _ _).alloc _).alloc _).drew
 have O1:Hid ((((w.alloc A).alloc A).drew).ownsRow B 122 4 (.slice a0 n0 k0) a.length (jw a)):=gZ ow hW (fun _ _ h=>h)
 have O2:Hid (∀ j u,[.string fD,.int .i64 arg,.int .i64 (nth:Int),.bool und][j]?=some u->(((w.alloc A).alloc A).drew).cell? ((⟨w.heap.size+1,0,none⟩:Addr).add j)=some u):=Me (t:=122) (by
  show ((w.heap.push A).push A)[w.heap.size+1]?=_
  rw[wV,<- hA])
 have O3:Hid (∀ u∈[Value.string fD,.int .i64 arg,.int .i64 (nth:Int),.bool und],u.oneCell'=true):=by intro u hu;simp at hu;rcases hu with rfl | rfl | rfl | rfl<;>rfl
 have O4:Hid (a.length+1<=maxLen):=by unfold Hid maxLen;omega
 have O5:Hid ((a.length+1) * 40<=140737488355328):=by unfold Hid;omega
 have O6:Hid (B<=(((w.alloc A).alloc A).drew).heap.size):=by have:=hW.size;unfold Hid;omega
 have AQ:Hid (_):=Kl.app hjl h ⟨fD,arg,nth,und⟩ hW hB;unfold yM;have hjz:jl < w.heap.size:=lt_of_cell c0;obtain ⟨ad,c,rfl,hcap,hce,hbl⟩:=ha.ex;subst hA;cases l with
 | nil =>
  clear hW h ow ha hce hbl;go_enter func214,ntmps214
  go_wp2_with fail;go_region_law (refine wR rfl _ _ 62 rfl B 122 i0 (.agg #[.string ⟨#[]⟩,.int .i64 0,.int .i64 0,.bool false]) 4 40 underlying62 hi hz0 hz1 hz2 rfl (bZ 3) _ _ _ rfl O1.o _ 1 1 _ rfl rfl O2.o O3.o O4.o O5.o O6.o ?_;intro v' w3 hown' hgrow hloc;obtain ⟨a1,n1,k1,rfl,hc3,hf3,hq3,HN⟩:=AQ.o v' w3 hown' hgrow hloc;have hc31:=hq3 jl 1 _ hjl c1;clear hown' hgrow hloc hq3)
  all_goals
   go_wp2_with fail;go_ret2;exact zph HN.o rfl
 | cons v r =>
  obtain ⟨q,o,rfl,hq⟩:=hce 0 (by simp)
  obtain ⟨hb1,hb2⟩:=hbl _ rfl;simp only[dU,List.getElem_cons_zero] at hq hb1 hb2;have hb2':jl≠q:=fun e=>hb2 e.symm
  simp only[aC] at hcap c1 hll;have QQ:Hid (∀ W:fu,W.cell? ⟨jl,1,none⟩=some (.slice (some ⟨q,o,none⟩) (r.length+1) c)->∀ v',(Kl B jl (v::r) (a++[⟨fD,arg,nth,und⟩]) v' W/\fO (fun k=>k=jl\/(Value.slice a0 n0 k0).ownBlock=some k) w W/\(v'.ownBlock=(Value.slice a0 n0 k0).ownBlock\/v'.ownBlock=none\/∃ n,v'.ownBlock=some n/\w.heap.size<=n/\n < W.heap.size))->JZ (Kl B jl) jl (v::r) a (.slice a0 n0 k0) ⟨fD,arg,nth,und⟩ w (.returned (.tuple #[.int .i64 v,.bool true])) (W.setCell ⟨jl,1,none⟩ (.slice (some (if c=1 then ⟨q,o,none⟩ else ⟨q,o+1,none⟩)) r.length (c - 1)))):=fun W hW v' hh=>zpf hjl hh hW
  clear hW h ow ha hce hbl;generalize r.length=R at *;by_cases hcc:c=1
  ·subst hcc;obtain rfl:R=0:=by omega
   go_enter func214,ntmps214
   go_wp2_with fail;go_region_law (refine wR rfl _ _ 62 rfl B 122 i0 (.agg #[.string ⟨#[]⟩,.int .i64 0,.int .i64 0,.bool false]) 4 40 underlying62 hi hz0 hz1 hz2 rfl (bZ 3) _ _ _ rfl O1.o _ 1 1 _ rfl rfl O2.o O3.o O4.o O5.o O6.o ?_;intro v' w3 hown' hgrow hloc;obtain ⟨a1,n1,k1,rfl,hc3,hf3,hq3,HN⟩:=AQ.o v' w3 hown' hgrow hloc;have hc31:=hq3 jl 1 _ hjl c1;have hc32:=hq3 q o _ hb1 hq;clear hown' hgrow hloc hq3)
   all_goals
    go_wp2_with fail;go_ret2
    have:=QQ.o _ (by rw[uy (by intro e;cases e)];exact hc31) _ HN.o
    rw[if_pos trivial] at this;exact this
  ·go_enter func214,ntmps214
   go_wp2_with fail;go_region_law (refine wR rfl _ _ 62 rfl B 122 i0 (.agg #[.string ⟨#[]⟩,.int .i64 0,.int .i64 0,.bool false]) 4 40 underlying62 hi hz0 hz1 hz2 rfl (bZ 3) _ _ _ rfl O1.o _ 1 1 _ rfl rfl O2.o O3.o O4.o O5.o O6.o ?_;intro v' w3 hown' hgrow hloc;obtain ⟨a1,n1,k1,rfl,hc3,hf3,hq3,HN⟩:=AQ.o v' w3 hown' hgrow hloc;have hc31:=hq3 jl 1 _ hjl c1;have hc32:=hq3 q o _ hb1 hq;clear hown' hgrow hloc hq3)
   all_goals
    go_wp2_with fail;go_ret2
    have:=QQ.o _ (by rw[uy (by intro e;cases e)];exact hc31) _ HN.o
    rw[if_neg hcc] at this;exact this
def Kq (B jl:Nat)(l:List Int)(a:List Px.Ask)(va:fC)(w:fu):Prop:=Kl B jl l a va w/\l.length<=140737488355328
variable {x:Cx}
theorem Zi (hK:x.K=Kq x.B x.jl)(hjl:x.jl < x.B):iT x:=⟨fun l a va w w' T h hT h1 h2=>by
 rw[hK] at h |-;exact ⟨h.1.keep hjl hT h1 h2,h.2⟩⟩
theorem ztx (hK:x.K=Kq x.B x.jl)(hjl:x.jl < x.B):JA x 214:=⟨Zi hK hjl,fun l a va w ask h hB ha=>by
 rw[hK] at h |-;refine (zpg x.B x.jl hjl l a va w ask h.1 hB ha h.2).mono ?_;rintro e w' ⟨h1,va',h2,h3,h4⟩;exact ⟨h1,va',⟨h2,by have:=h.2;rw[dz];omega⟩,h3,h4⟩⟩
theorem Zj {B':Nat}{e:TypeId}{size:Nat}{v:fC}{xs:List fC}(h:w.ownsRow B e size v n xs)(hB:B'<=B):w.ownsRow B' e size v n xs:=by
 obtain ⟨h1,h2⟩:=h;refine ⟨h1,?_⟩;rcases h2 with h2 | ⟨g,cap,cur,a,hg,r⟩
 ·exact ak h2
 ·exact ah ⟨g,cap,cur,a,by omega,r⟩
theorem zmx (n:Nat)(vj:fC)(pp:Nat)(vv:fC):(newL n vj pp vv).length=90:=rfl
theorem zmw (n:Nat)(vj:fC)(pp:Nat)(vv:fC)(k:Nat)(hk:k < 20):((newL n vj pp vv)[8+4 * k]?).getD undef=.func (.func (nT k)) #[] (rJ (nL n) k):=by
 have h:=zrn n k hk;have e:(newL n vj pp vv)[8+4 * k]?=(iQ n)[4 * k+3]?:=by
  unfold newL;have h5:([.slice none 0 0,.slice none 0 0,.slice none 0 0,vj,.pointer (some ⟨pp,0,none⟩)]:List fC).length=5:=rfl;have h80:(iQ n).length=80:=rfl;rw[aI,aJ (by rw[h5];omega),h5,aQ (by rw[h80];omega),show 8+4 * k - 5=4 * k+3 by omega]
 rw[e,h];rfl
theorem zm6 {g nv:Nat}(hg:B<=g)(h:w.heap[g]?=some (.cells (madeCells #[.int .i64 0] nv) 2))(hn:nv<=10000000):w.ownsRow B 2 1 (.slice (some ⟨g,0,none⟩) nv nv) nv (kH (List.replicate nv 0)):=by
 refine ⟨by simp[kH],.inr ⟨g,nv,madeCells #[.int .i64 0] nv,rfl,hg,h,by simp,by unfold maxLen;omega,by simp[madeCells],?_⟩⟩
 rw[toList_madeCells_one];simp[kH]
theorem zwy {w':fu}{gv:Nat}(h:NewAt x.pp x.P.nv x.vj w w' x.g n gv)(hB:x.B=w.heap.size)(hJ:x.J=nL n)(hjl:x.jl < x.B)(hn:x.P.nv<=10000000)(hva:va.ownBlock=none)(hk:x.K l [] va w')(hp:AY x w)(he:Ge x w) :
  MK x (yC x.P l) w' (fun o=>((newL n x.vj x.pp (.slice (some ⟨gv,0,none⟩) x.P.nv x.P.nv))[o]?).getD undef) va:=by
 have hz:x.g < w'.heap.size:=(aG.1 h.at_).1;have hvz:gv < w'.heap.size:=(aG.1 h.Ze).1;have hb:yL w' x.g 90 (fun o=>((newL n x.vj x.pp (.slice (some ⟨gv,0,none⟩) x.P.nv x.P.nv))[o]?).getD undef):=by
  refine ⟨fun o ho=>?_,fun o=>by simp[World.frozen?,h.at_]⟩
  have hl:=zmx n x.vj x.pp (.slice (some ⟨gv,0,none⟩) x.P.nv x.P.nv);have e:(newL n x.vj x.pp (.slice (some ⟨gv,0,none⟩) x.P.nv x.P.nv))[o]?=some ((newL n x.vj x.pp (.slice (some ⟨gv,0,none⟩) x.P.nv x.P.nv))[o]'(by omega)):=bD _
  simp only[World.cell?,h.at_,dO];rw[e];rfl
 refine ⟨⟨by rw[hB];exact h.g1,hjl,hb,rfl,rfl,fun k hk=>?_,rfl,rfl,rfl,rfl,aT _ _ _ _,aT _ _ _ _,aT _ _ _ _,?_,⟨?_,?_⟩,fun k hk=>?_⟩,hk,hp.jG h.t (fun _ h=>h.elim),he.jG h.t (fun _ h=>h.elim)⟩
 ·rw[hJ];exact zmw n x.vj x.pp _ k hk
 ·have:=zm6 (B:=x.B) (by rw[hB];exact h.v1) h.Ze hn
  have el:(yC x.P l).vars.length=x.P.nv:=by simp[yC]
  rw[el];exact this
 ·intro v hv k hkk;have hv':v=.slice none 0 0\/v=.slice (some ⟨gv,0,none⟩) x.P.nv x.P.nv\/v=va:=by
   simp only[rows,bY,List.not_mem_nil,or_false] at hv;rcases hv with rfl | rfl | rfl | rfl | rfl
   ·exact ak rfl
   ·exact ak rfl
   ·exact ak rfl
   ·exact ah (ak rfl)
   ·exact ah (ah rfl)
  rcases hv' with rfl | rfl | rfl
  ·cases hkk
  ·cases hkk;exact ⟨by rw[hB];exact h.v1,h.v2,hvz⟩
  ·rw[hva] at hkk;cases hkk
 ·have e:rows (fun o=>((newL n x.vj x.pp (.slice (some ⟨gv,0,none⟩) x.P.nv x.P.nv))[o]?).getD undef) va=[.slice none 0 0,.slice none 0 0,.slice none 0 0,.slice (some ⟨gv,0,none⟩) x.P.nv x.P.nv,va]:=rfl
  rw[e];refine List.Pairwise.cons (fun b _ k hk=>by cases hk) (List.Pairwise.cons (fun b _ k hk=>by cases hk) (List.Pairwise.cons (fun b _ k hk=>by cases hk) (List.Pairwise.cons (fun b hb k _=>?_) (List.Pairwise.cons (fun b hb=>by cases hb) List.Pairwise.nil))))
  rw[bq.1 hb,hva];simp
 ·obtain ⟨j1,j2,j3,j4⟩:=h.jn k hk;rw[hJ];refine ⟨j1,j2,by omega,fun r hr=>?_⟩
  have hr':r=.slice none 0 0\/r=.slice (some ⟨gv,0,none⟩) x.P.nv x.P.nv\/r=va:=by
   simp only[rows,bY,List.not_mem_nil,or_false] at hr;rcases hr with rfl | rfl | rfl | rfl | rfl
   ·exact ak rfl
   ·exact ak rfl
   ·exact ak rfl
   ·exact ah (ak rfl)
   ·exact ah (ah rfl)
  rcases hr' with rfl | rfl | rfl
  ·intro e;cases e
  ·intro e;cases e;exact j3 rfl
  ·intro e;rw[hva] at e;cases e
theorem PM.mk' {m:Ms}{f:Nat->fC}{w1:fu}{f1:Nat->fC}{iI:fC}(h:MK x m w1 f1 iI)(k:Fr x w f va w1 f1 iI):PM x m w f va w1:=⟨_,_,h,k⟩
theorem PM.fE {x:Cx}(hj:iT x){m:Ms}{w w1:fu}{f:Nat->fC}{va:fC}(h:PM x m w f va w1)(p:Nat):PM x { m with fE:=p } w f va (w1.setCell ⟨x.g,86,none⟩ (.int .i64 (p:Int))):=by
 obtain ⟨f1,iI,k1,k2⟩:=h;obtain ⟨j1,j2⟩:=k1.SB hj p;exact ⟨_,_,j1,k2.trans j2⟩
theorem PM.fin {x:Cx}(hj:iT x){m:Ms}{w w1:fu}{f:Nat->fC}{va:fC}(h:PM x m w f va w1)(p:Nat):PM x { m with fin:=p } w f va (w1.setCell ⟨x.g,89,none⟩ (.int .i64 (p:Int))):=by
 obtain ⟨f1,iI,k1,k2⟩:=h;obtain ⟨j1,j2⟩:=k1.SE hj p;exact ⟨_,_,j1,k2.trans j2⟩
def zG (P:Pg)(i b:Nat)(m:Ms):Nat×Ms :=
 match iU P i (m.st.headD 0) b false m with
 | (0,v,m')=>(0,{ m' with st:=v::m'.st.tail })
 | (e,_,m')=>(e,m')
theorem Qy (hj:iT x)(jy:xL x)(m:Ms)(w:fu)(f:Nat->fC)(va:fC)(h:MK x m w f va)(i b:Nat)(v:Int)(r:List Int)(hst:m.st=v::r)(hl:r.length<=10000000)(hi:i < x.P.fT.length)(hr:nA v)(hrl:∀ v∈m.left,nA v)(ht:m.fJ < 65536)(hm:b<=65536)(ha:m.fI.length<=10000000)(AZ:x.P.fT.length<=10000000) :
  Calls prog 78 #[.pointer (some ⟨x.g,0,none⟩),.int .i64 (i:Int),.int .i64 (b:Int)] w fun e w'=>e=.returned (gU x (zG x.P i b m).1)/\PM x (zG x.P i b m).2 w f va w':=by
 have HH:Hid (MK x m w f va):=h;have HA:Hid (∀ w1,MK x m w1 f va->Calls prog 102 #[.pointer (some ⟨x.g,0,none⟩),.int .i64 (i:Int),.int .i64 v,.int .i64 (b:Int),.bool false] w1 (uo x m i v b false w1 f va)):=fun w1 h1=>jy m w1 f va h1 i v b false hi hr hrl ht hm ha AZ
 have hhd:m.st.headD 0=v:=by rw[hst];rfl
 clear h jy hi hr hrl ht hm ha AZ;cases hq:iU x.P i v b false m with
 | mk ea q =>
  obtain ⟨va',ma⟩:=q;have hma:ma.st=v::r:=by obtain ⟨_,_,_,rfl,_⟩:=BP hq;exact hst
  have HC:Hid (zG x.P i b m=if ea=0 then (0,{ ma with st:=va'::r }) else (ea,ma)):=by
   unfold Hid zG;rw[hhd,hq];cases ea with
   | zero=>rw[if_pos rfl];simp only[hma];rfl
   | succ n=>rw[if_neg (by omega)];rfl
  by_cases hz:ea=0
  ·subst hz;rw[HC.o,if_pos rfl];go_enter func78,ntmps78
   go_wp2_with fail;refine (JX hj m w f va HH.o v r hst hl).mono ?_;rintro e w1 ⟨rfl,hT⟩;have H1:Hid (MK x m w1 f va/\Fr x w f va w1 f va):=HH.o.same hj hT;clear hT;go_wp2_with fail;refine aA (HA.o w1 H1.o.1) ?_;rintro e w2 ⟨rfl,f2,iR,k1,k2⟩;rw[hq] at k1 |-;have H2:Hid (MK x ma w2 f2 iR/\Fr x w f va w2 f2 iR):=⟨k1,H1.o.2.trans k2⟩;clear k1 k2 H1 HA;simp only[gU,if_true];go_wp2_with fail;refine (qP hj ma w2 f2 iR H2.o.1 v r hma hl).mono ?_;rintro e w3 ⟨rfl,v3,k1,k2⟩;have H3:Hid (MK x { ma with st:=r } w3 (upd f2 0 v3) iR/\Fr x w f va w3 (upd f2 0 v3) iR):=⟨k1,H2.o.2.trans k2⟩
   clear k1 k2 H2;go_wp2_with fail;refine (xI hj { ma with st:=r } w3 _ iR H3.o.1 va' hl).mono ?_
   rintro e w4 ⟨rfl,v4,k1,k2⟩;have H4:Hid (PM x { ma with st:=va'::r } w f va w4):=PM.mk' k1 (H3.o.2.trans k2)
   clear k1 k2 H3;go_wp2_with fail;go_ret;exact ⟨rfl,H4.o⟩
  ·rw[HC.o,if_neg hz];go_enter func78,ntmps78
   go_wp2_with fail;refine (JX hj m w f va HH.o v r hst hl).mono ?_;rintro e w1 ⟨rfl,hT⟩;have H1:Hid (MK x m w1 f va/\Fr x w f va w1 f va):=HH.o.same hj hT;clear hT;go_wp2_with fail;refine aA (HA.o w1 H1.o.1) ?_;rintro e w2 ⟨rfl,f2,iR,k1,k2⟩;rw[hq] at k1 |-;have H2:Hid (MK x ma w2 f2 iR/\Fr x w f va w2 f2 iR):=⟨k1,H1.o.2.trans k2⟩;clear k1 k2 H1 HA;simp only[gU,if_neg hz];go_wp2_with fail;go_ret;exact ⟨by simp only[gU,if_neg hz];rfl,PM.mk' H2.o.1 H2.o.2⟩
theorem zbw (hj:iT x)(m:Ms)(w:fu)(f:Nat->fC)(va:fC)(h:MK x m w f va)(p:Nat)(v:Int)(r:List Int)(hst:m.st=v::r)(hl:r.length<=10000000) :
  Calls prog 68 #[.pointer (some ⟨x.g,0,none⟩),.int .i64 (p:Int)] w fun e w'=>e=.returned (.tuple #[])/\PM x { m with st:=r,fE:=if v=0 then p else m.fE } w f va w':=by
 have HH:Hid (MK x m w f va):=h;clear h;by_cases hv:v=0
 ·rw[if_pos hv];have hb:(v == 0)=true:=by rw[hv];rfl
  go_enter func68,ntmps68
  go_wp2_with fail;refine (qP hj m w f va HH.o v r hst hl).mono ?_;rintro e w1 ⟨rfl,v1,k1,k2⟩;have H1:Hid (MK x { m with st:=r } w1 (upd f 0 v1) va/\Fr x w f va w1 (upd f 0 v1) va):=⟨k1,k2⟩
  have uX:=k1.a.blk.cell 86 (by decide)
  have cf:=k1.a.blk.fr 86;clear k1 k2 HH;go_wp2_with fail;go_end0
  exact ⟨rfl,PM.fE hj (PM.mk' H1.o.1 H1.o.2) p⟩
 ·rw[if_neg hv];go_enter func68,ntmps68
  go_wp2_with fail;refine (qP hj m w f va HH.o v r hst hl).mono ?_;rintro e w1 ⟨rfl,v1,k1,k2⟩;have H1:Hid (MK x { m with st:=r } w1 (upd f 0 v1) va/\Fr x w f va w1 (upd f 0 v1) va):=⟨k1,k2⟩
  have uX:=k1.a.blk.cell 86 (by decide)
  have cf:=k1.a.blk.fr 86;clear k1 k2 HH;go_wp2_with fail;go_end0
  exact ⟨rfl,PM.mk' H1.o.1 H1.o.2⟩
theorem zj8 (hj:iT x)(m:Ms)(w:fu)(f:Nat->fC)(va:fC)(h:MK x m w f va)(p:Nat)(v:Int)(r:List Int)(hst:m.st=v::r)(hl:r.length<=10000000)(hv:nA v) :
  Calls prog 70 #[.pointer (some ⟨x.g,0,none⟩),.int .i64 (p:Int)] w fun e w'=>e=.returned (.tuple #[])/\PM x (if 0 < v then { m with st:=wrap64 (v - 1)::r } else { m with st:=r,fE:=p }) w f va w':=by
 have HH:Hid (MK x m w f va):=h;clear h;obtain ⟨hv1,hv2⟩:=hv;by_cases hp:0 < v
 ·have ew:wrap64 (v - 1)=v - 1:=by unfold wrap64;omega
  rw[if_pos hp,ew];go_enter func70,ntmps70
  go_wp2_with fail;refine (qP hj m w f va HH.o v r hst hl).mono ?_;rintro e w1 ⟨rfl,v1,k1,k2⟩;have H1:Hid (MK x { m with st:=r } w1 (upd f 0 v1) va/\Fr x w f va w1 (upd f 0 v1) va):=⟨k1,k2⟩
  have uX:=k1.a.blk.cell 86 (by decide)
  have cf:=k1.a.blk.fr 86;clear k1 k2 HH;go_wp2_with fail;refine (xI hj { m with st:=r } w1 _ va H1.o.1 (v - 1) hl).mono ?_
  rintro e w2 ⟨rfl,v2,k1,k2⟩;have H2:Hid (PM x { m with st:=(v - 1)::r } w f va w2):=PM.mk' k1 (H1.o.2.trans k2)
  clear k1 k2 H1;go_wp2_with fail;go_end0
  exact ⟨rfl,H2.o⟩
 ·rw[if_neg hp];go_enter func70,ntmps70
  go_wp2_with fail;refine (qP hj m w f va HH.o v r hst hl).mono ?_;rintro e w1 ⟨rfl,v1,k1,k2⟩;have H1:Hid (MK x { m with st:=r } w1 (upd f 0 v1) va/\Fr x w f va w1 (upd f 0 v1) va):=⟨k1,k2⟩
  have uX:=k1.a.blk.cell 86 (by decide)
  have cf:=k1.a.blk.fr 86;clear k1 k2 HH;go_wp2_with fail;go_end0
  exact ⟨rfl,PM.fE hj (PM.mk' H1.o.1 H1.o.2) p⟩
end Rn
open Go.RowKit Go.Extern.Stop Go.Stop Go.Extern
namespace Lg
theorem zn1 (a b:Addr)(ca cb:Array fC)(ta tb:TypeId)(w:fu)(hne:a≠b)(ha:w.heap[a.block]?=some (.cells ca ta (0,0)))(hb:w.heap[b.block]?=some (.cells cb tb (0,0))) :
  Calls prog 48 #[.iface 337 (.pointer (some a)),.iface 337 (.pointer (some b))] w fun e w'=>e=.returned (.bool false)/\w'=w:=by
 obtain ⟨i,hi,hcmp⟩:=bE.1 FU;obtain ⟨j,hj,hjs⟩:=bE.1 FV;have h8:=@run_callFunc_extern prog 96 _ Extern.ReflectliteType.typeOf func96 (by kernel_rfl) (by kernel_rfl) (by kernel_rfl) (by kernel_rfl)
 have h32:=@run_callFunc_extern prog 220 _ (Extern.ReflectliteType.method fun t=>do Extern.Rtype.noPackHeld "Comparable" t;pure (.bool (<- typeInfo t).comparable)) func220 (by kernel_rfl) (by kernel_rfl) (by kernel_rfl) (by kernel_rfl)
 have tT:=BI;have cT:=FR;have mR:=FT;have nE:=I9;have uE:=DL;have vE:=DN;have heq:=run_eql_iface_ptr_other (P:=prog) w underlying43 underlying337 hi hcmp hj (by rw[hjs];decide) hne ha hb
 go_enter func48,ntmps48
 go_wp2;refine wp_loop_rounds 1 ?_;rw[rounds_succ];go_wp2;go_ret;exact ⟨rfl,rfl⟩
end Lg
namespace Rn
open Px Ref
variable {x:Cx}{m:Ms}{w:fu}{f:Nat->fC}{va:fC}
theorem MK.J2 (hj:iT x)(h:MK x m w f va){k:Nat}(hk:k<=m.st.length) :
  ∃ a c,f 0=.slice a m.st.length c/\m.st.length<=c/\(a=none\/∃ q,a=some ⟨q,0,none⟩)/\(a=none->c=0/\m.st.length=0)/\Hid (PM x { m with st:=m.st.drop (m.st.length - k) } w f va (w.setCell ⟨x.g,0,none⟩ (.slice a k c))):=by
 have hs:=h.a.st;have key:∀ a c,f 0=.slice a m.st.length c->Hid (PM x { m with st:=m.st.drop (m.st.length - k) } w f va (w.setCell ⟨x.g,0,none⟩ (.slice a k c))):=by
  intro a c e;rw[e] at hs;have hcut:=NG hs hk;obtain ⟨k1,k2⟩:=h.SA (v':=.slice a k c) hj (m.st.drop (m.st.length - k)) (fO.refl _ _) (ak (by rw[e];cases a<;>rfl)) (by
   have hl:(m.st.drop (m.st.length - k)).length=k:=by rw[List.length_drop];omega
   rw[hl]
   have:kH (m.st.drop (m.st.length - k)).reverse=(kH m.st.reverse).take (k * 1):=by
    unfold kH;rw[<- List.map_take,Nat.mul_one,List.reverse_drop];congr 2;omega
   rw[this];exact hcut)
  exact ⟨_,_,k1,k2⟩
 rcases hs.2 with ⟨e,h0⟩ | ⟨q,cap,cur,e,_,_,h2,_⟩
 ·exact ⟨none,0,by rw[e,h0],by omega,ak rfl,fun _=>⟨rfl,h0⟩,key none 0 (by rw[e,h0])⟩
 ·exact ⟨some ⟨q,0,none⟩,cap,e,h2,ah ⟨q,rfl⟩,(fun h=>by cases h),key _ _ e⟩
theorem SX (hj:iT x)(m:Ms)(w:fu)(f:Nat->fC)(va:fC)(h:MK x m w f va)(k:Nat)(hk:k<=m.st.length)(hl:m.st.length<=10000000) :
  Calls prog 100 #[.pointer (some ⟨x.g,0,none⟩),.int .i64 (k:Int)] w fun e w'=>e=.returned (.tuple #[])/\PM x { m with st:=m.st.drop (m.st.length - k) } w f va w':=by
 obtain ⟨a,c,e0,hc,ha,hn,HP⟩:=h.J2 hj hk;have c0:=h.a.blk.cell 0 (by decide)
 have cf:=h.a.blk.fr 0;rw[e0] at c0;clear h hj e0;generalize m.st.drop (m.st.length - k)=D at *;rcases ha with rfl | ⟨q,rfl⟩
 ·obtain ⟨rfl,h0⟩:=hn rfl;obtain rfl:k=0:=by omega
  rw[h0] at c0;go_enter func100,ntmps100
  go_wp2_with fail;go_end0
  exact ⟨rfl,HP.o⟩
 ·generalize m.st.length=L at *;by_cases hz:c=0
  ·subst hz;obtain rfl:L=0:=by omega
   obtain rfl:k=0:=by omega
   go_enter func100,ntmps100
   go_wp2_with fail;go_end0
   exact ⟨rfl,HP.o⟩
  ·have hkc:(k:Int)<=(c:Int):=by omega
   go_enter func100,ntmps100
   go_wp2_with fail;go_end0
   exact ⟨rfl,HP.o⟩
theorem Fr.loc {w0 W w2:fu}{f2:Nat->fC}{iR:fC}{n o:Nat}{v:fC}(h0:AX x m w0 f va)(hn:w0.heap.size<=n)(hF:Fr x W f va w2 f2 iR)(hv:W.cell? ⟨n,o,none⟩=some v):w2.cell? ⟨n,o,none⟩=some v :=
 (aF (w:=W) (a:=⟨n,o,none⟩) (hF.t.block n (lt_of_cell hv) (fun hk=>by have:=Own.lt h0 hk;omega))).trans hv
theorem xM (w:fu)(cs:Array fC)(t:TypeId)(o:Nat)(v:fC)(h:cs[o]?=some v):(w.alloc (.cells cs t)).cell? ⟨w.heap.size,o,none⟩=some v:=by
 have:(w.alloc (.cells cs t)).heap[w.heap.size]?=some (.cells cs t):=by
  show (w.heap.push _)[w.heap.size]?=_
  rw[aB,if_pos rfl]
 unfold World.cell?;simp only[this];exact h
theorem zd4 (h:m.fP=[]):(kU.behind m).2={ m with iZ:=false,fP:=[],fin:=2 }:=by
 unfold kU.behind;rw[h]
theorem qyr {b:Nat×Nat×Nat}{r:List (Nat×Nat×Nat)}(h:m.fP=b::r):(kU.behind m).2={ m with iZ:=false,fP:=r,st:=m.st.drop (m.st.length - b.2.1),fE:=b.2.2 }:=by
 unfold kU.behind;rw[h]
theorem qwc (hj:iT x)(m:Ms)(w:fu)(f:Nat->fC)(va:fC)(h:MK x m w f va)(hl:m.st.length<=10000000)(hb:m.fP.length<=10000000)(hh:∀ b r,m.fP=b::r->b.2.1<=m.st.length) :
  Calls prog 184 #[.pointer (some ⟨x.g,0,none⟩)] w fun e w'=>e=.returned (.tuple #[])/\PM x (kU.behind m).2 w f va w':=by
 have Gb:=h.a.blk.cell 88 (by decide)
 have cf:=h.a.blk.fr 88;have H1:Hid (MK x { m with iZ:=false } (w.setCell ⟨x.g,88,none⟩ (.bool false)) (upd f 88 (.bool false)) va/\Fr x w f va (w.setCell ⟨x.g,88,none⟩ (.bool false)) (upd f 88 (.bool false)) va):=h.Y5 hj false
 rw[h.a.f88] at Gb;clear h;have hbe:m.fP=[]\/∃ b r,m.fP=b::r:=by
  cases m.fP with
  | nil=>exact ak rfl
  | cons b r=>exact ah ⟨b,r,rfl⟩
 rcases hbe with hbe | ⟨b,r,hbe⟩
 ·rw[zd4 hbe];have ev:xJ { m with iZ:=false }=(.agg #[.int .i64 0,.int .i64 0,.int .i64 0],false):=by unfold xJ;simp only[hbe]
  have et:m.fP.tail=[]:=by rw[hbe];rfl
  go_enter func184,ntmps184
  go_wp2_with fail;refine (SQ hj { m with iZ:=false } _ _ va H1.o.1 hb).mono ?_
  rintro e w1 ⟨rfl,f1,iI,k1,k2⟩;rw[ev];have H2:Hid (MK x { m with iZ:=false,fP:=m.fP.tail } w1 f1 iI/\Fr x w f va w1 f1 iI):=⟨k1,H1.o.2.trans k2⟩
  clear k1 k2 H1 Gb cf;have HT:Hid (∀ A:Obj,MK x { m with iZ:=false,fP:=m.fP.tail } (w1.alloc A) f1 iI/\Fr x w f va (w1.alloc A) f1 iI):=fun A=>by
   obtain ⟨j1,j2⟩:=H2.o.1.same hj ((fO.refl _ _).alloc A);exact ⟨j1,H2.o.2.trans j2⟩
  have hgz:=H2.o.1.a.lt;have Em:=H2.o.1.a.blk.cell 89 (by decide)
  have cf:=H2.o.1.a.blk.fr 89;have HF:Hid (∀ A:Obj,PM x { m with iZ:=false,fP:=[],fin:=2 } w f va ((w1.setCell ⟨x.g,89,none⟩ (.int .i64 2)).alloc A)):=fun A=>by
   have:=PM.same hj (PM.fin hj (PM.mk' H2.o.1 H2.o.2) 2) ((fO.refl _ _).alloc A)
   rw[et] at this;exact this
  have HF2:Hid (∀ A:Obj,PM x { m with iZ:=false,fP:=[],fin:=2 } w f va ((w1.alloc A).setCell ⟨x.g,89,none⟩ (.int .i64 2))):=fun A=>by
   have:=PM.fin hj (PM.mk' (HT.o A).1 (HT.o A).2) 2
   rw[et] at this;exact this
  clear H2 HT;go_wp2_with fail
  first
   | refine bodyPost_ret (results_none rfl _ _ _) rfl ?_
   | go_end0
  exact ⟨rfl,by first | exact HF.o _ | exact HF2.o _⟩
 ·rw[qyr hbe];have ev:xJ { m with iZ:=false }=(.agg #[.int .i64 (b.1:Int),.int .i64 (b.2.1:Int),.int .i64 (b.2.2:Int)],true):=by unfold xJ;simp only[hbe]
  have et:m.fP.tail=r:=by rw[hbe];rfl
  have hbl:=hh b r hbe;go_enter func184,ntmps184
  go_wp2_with fail;refine (SQ hj { m with iZ:=false } _ _ va H1.o.1 hb).mono ?_
  rintro e w1 ⟨rfl,f1,iI,k1,k2⟩;rw[ev];have H2:Hid (MK x { m with iZ:=false,fP:=m.fP.tail } w1 f1 iI/\Fr x w f va w1 f1 iI):=⟨k1,H1.o.2.trans k2⟩
  clear k1 k2 H1 Gb cf;have HT:Hid (∀ A:Obj,MK x { m with iZ:=false,fP:=m.fP.tail } (w1.alloc A) f1 iI/\Fr x w f va (w1.alloc A) f1 iI):=fun A=>by
   obtain ⟨j1,j2⟩:=H2.o.1.same hj ((fO.refl _ _).alloc A);exact ⟨j1,H2.o.2.trans j2⟩
  have hgz:=H2.o.1.a.lt;rw[et] at HT H2;obtain ⟨A,hA⟩:∃ A,A=Obj.cells #[.int .i64 (b.1:Int),.int .i64 (b.2.1:Int),.int .i64 (b.2.2:Int)] 170:=⟨_,rfl⟩;have HC:Hid (Calls prog 100 #[.pointer (some ⟨x.g,0,none⟩),.int .i64 (b.2.1:Int)] (w1.alloc A).drew fun e w2=>e=.returned (.tuple #[])/\w2.cell? ⟨w1.heap.size,2,none⟩=some (.int .i64 (b.2.2:Int))/\(∃ u,w2.cell? ⟨x.g,86,none⟩=some u)/\w2.frozen? ⟨x.g,86,none⟩=false/\Hid (PM x { m with iZ:=false,fP:=r,st:=m.st.drop (m.st.length - b.2.1) } w f va w2)):=by
   have hT:fO (fun _=>False) (w1.alloc A) (w1.alloc A).drew:=(fO.refl _ _).drew
   obtain ⟨j1,j2⟩:=(HT.o A).1.same hj hT;refine (SX hj { m with iZ:=false,fP:=r } _ f1 iI j1 b.2.1 hbl hl).mono ?_
   rintro e w2 ⟨rfl,f2,iR,k1,k2⟩;refine ⟨rfl,Fr.loc H2.o.1.a (aj _) k2 ?_,⟨_,k1.a.blk.cell 86 (by decide)⟩,k1.a.blk.fr 86,PM.mk' k1 ((HT.o A).2.trans (j2.trans k2))⟩
   subst hA;exact xM w1 _ _ 2 _ rfl
  subst hA;clear hbe hb ev hh et HT H2;go_wp2_with fail;go_region_with (first | (go_at_call 100;refine aA HC.o ?_;rintro e w2 ⟨rfl,d2,⟨u86,d86⟩,df,H3⟩))
  all_goals
   go_wp2_with fail;go_end0
   exact ⟨rfl,PM.fE hj H3.o b.2.2⟩
structure Bd (P:Pg)(m:Ms):Prop where
 s:m.st.length<=9000000
 u:m.fU.length<=9000000
 b:m.fP.length<=9000000
 a:m.fI.length<=9000000
 t:m.fJ < 65536
 rD:∀ v∈m.st,nA v
 jR:∀ v∈m.left,nA v
 vars:m.vars.length=P.nv
 w:P.fT.length<=10000000
def iF (i:Px.Ins):fC:=.agg #[.int .i64 (i.k:Int),.int .i64 (i.a:Int),.int .i64 (i.b:Int)]
def gL (i:Px.Ins):Obj:=.cells #[.int .i64 (i.k:Int),.int .i64 (i.a:Int),.int .i64 (i.b:Int)] 90
def gB (x:Cx)(i:Px.Ins)(m:Ms)(w:fu)(f:Nat->fC)(va:fC)(e:Ending)(w':fu):Prop :=
 e=.returned (gU x (jh x.P i m).1)/\PM x (jh x.P i m).2 w f va w'
theorem gB.ok {i:Px.Ins}{m':Ms}{w':fu}(h:jh x.P i m=(0,m'))(hp:PM x m' w f va w'):gB x i m w f va (.returned .nilIface) w':=by
 unfold gB;rw[h];exact ⟨rfl,hp⟩
theorem MK.boxed (hj:iT x)(h:MK x m w f va)(A:Obj):Hid (∀ W,(W=w.alloc A\/W=(w.alloc A).drew)->MK x m W f va/\Fr x w f va W f va):=by
 rintro W (rfl | rfl)
 ·exact h.same hj ((fO.refl _ _).alloc _)
 ·exact h.same hj ((fO.refl _ _).alloc _).drew
theorem En (h:1<=m.st.length):∃ v r,m.st=v::r:=by
 cases hs:m.st with
 | nil=>rw[hs] at h;simp at h
 | cons v r=>exact ⟨v,r,rfl⟩
theorem Eo (h:2<=m.st.length):∃ b a r,m.st=b::a::r:=by
 match hs:m.st,h with
 | [],h=>simp at h
 | [_],h=>simp at h
 | b::a::r,_=>exact ⟨b,a,r,rfl⟩
theorem do0 (hj:iT x)(m:Ms)(w:fu)(f:Nat->fC)(va:fC)(h:MK x m w f va)(i:Px.Ins)(hb:Bd x.P m)(hk:i.k=0) :
  Calls prog 49 #[.pointer (some ⟨x.g,0,none⟩),iF i] w (gB x i m w f va):=by
 have HB:=h.boxed hj (gL i);have HD:Hid (jh x.P i m=(0,{ m with st:=(i.a:Int)::m.st })):=by unfold Hid jh;rw[if_pos hk]
 have hs:=hb.s;have hgz:=h.a.lt;unfold iF;unfold gL at HB;clear h hb hk;go_enter func49,ntmps49
 go_wp2_with fail;go_region_with (first | (go_at_call 50;refine (xI hj m _ f va (HB.o _ (by first | exact ak rfl | exact ah rfl)).1 (i.a:Int) (by omega)).mono ?_;rintro e w1 ⟨rfl,v1,k1,k2⟩;have H1:Hid (PM x { m with st:=(i.a:Int)::m.st } w f va w1):=PM.mk' k1 ((HB.o _ (by first | exact ak rfl | exact ah rfl)).2.trans k2);clear k1 k2))
 all_goals
  go_wp2_with fail;go_ret;exact gB.ok HD.o H1.o
theorem MK.NK (hj:iT x)(h:MK x m w f va){i:Nat}(hi:i < m.vars.length) :
  ∃ q c,f 85=.slice (some ⟨q,0,none⟩) m.vars.length c/\w.cell? ⟨q,i,none⟩=some (.int .i64 (m.vars.getD i 0))/\w.frozen? ⟨q,i,none⟩=false/\q≠x.g /\
   ∀ v:Int,MK x { m with vars:=m.vars.set i v } (w.setCell ⟨q,i,none⟩ (.int .i64 v)) f va/\Fr x w f va (w.setCell ⟨q,i,none⟩ (.int .i64 v)) f va:=by
 have hs:=h.a.Ch;obtain ⟨q,c,e⟩:=JW hs (by omega)
 rw[e] at hs;have hmem:f 85∈rows f va:=by simp[rows]
 have oP:(f 85).ownBlock=some q:=by rw[e];rfl
 have hq:=h.a.sep.own _ hmem q oP;have hlt:=h.a.lt;refine ⟨q,c,e,?_,hs.frozenAt i,hq.2.1,fun v=>?_⟩
 ·rw[hs.cellAt i (by omega)]
  simp[kH,List.getD_eq_getElem?_getD,List.getElem?_eq_getElem hi]
 ·have hT:fO (fun k=>k=q) w (w.setCell ⟨q,i,none⟩ (.int .i64 v)):=fO.setCell (T:=fun k=>k=q) (fO.refl _ _) (p:=⟨q,i,none⟩) (ak rfl) _
  have vN:∀ k,k=q->x.B<=k:=fun k hk=>by rw[hk];exact hq.1
  have tY:∀ j u,(rows f va)[j]?=some u->j≠3->∀ k,u.ownBlock=some k->¬ k=q:=fun j u Bg hj3 k hk hh=>by
   subst hh;exact h.a.sep.mem (i:=j) (j:=3) Bg rfl hj3 k hk oP
  refine ⟨⟨⟨h.a.hB,h.a.hj,h.a.blk.jG (by decide) hT (fun hh=>hq.2.1 hh.symm),h.a.f3,h.a.f4,h.a.tab,h.a.f86,h.a.f87,h.a.f88,h.a.f89,gZ h.a.st hT (tY 0 _ rfl (by decide)),gZ h.a.un hT (tY 1 _ rfl (by decide)),gZ h.a.be hT (tY 2 _ rfl (by decide)),?_,h.a.sep.world hT.size,fun k hk=>?_⟩,hj.keep _ _ _ _ _ _ h.k hT vN (tY 4 _ rfl (by decide)),h.p.jG hT fun k hk=>ak (vN k hk),h.e.jG hT fun k hk=>ak (vN k hk)⟩,hT.mono fun k _ hk=>?_,fun k _ hk=>hk⟩
  ·have:=(hs.stored i (.int .i64 v)).1
   rw[e];simp only[dM];have e2:kH (m.vars.set i v)=(kH m.vars).set i (.int .i64 v):=by unfold kH;rw[List.map_set]
   rw[e2];exact this
  ·obtain ⟨a,b,c,d⟩:=h.a.jn k hk;exact ⟨(aF (w:=w) (a:=⟨x.J k,0,none⟩) (hT.block _ (lt_of_cell a) (fun hh=>d _ hmem (oP.trans (congrArg some (show q=x.J k from hh.symm)))))).trans a,b,c,d⟩
  ·exact ah (ah ⟨f 85,hmem,by rw[oP,hk]⟩)
theorem do1 (hj:iT x)(m:Ms)(w:fu)(f:Nat->fC)(va:fC)(h:MK x m w f va)(i:Px.Ins)(hb:Bd x.P m)(hc:jX x.P i m)(hk:i.k=1) :
  Calls prog 51 #[.pointer (some ⟨x.g,0,none⟩),iF i] w (gB x i m w f va):=by
 have HB:=h.boxed hj (gL i);have hv:i.a < m.vars.length:=by rw[hb.vars];exact Rl hc.fit (ak hk)
 have HD:Hid (jh x.P i m=(0,{ m with st:=m.vars.getD i.a 0::m.st })):=by unfold Hid jh;rw[if_neg (by omega),if_pos hk]
 obtain ⟨q,c,J3,cv,_,_,_⟩:=h.NK hj hv;have c85:=h.a.blk.cell 85 (by decide)
 rw[J3] at c85;have hs:=hb.s;have hgz:=h.a.lt;have hqz:=lt_of_cell cv;have Mh:(i.a:Int) < (m.vars.length:Int):=by omega
 have HP:Hid (∀ W,(W=w.alloc (gL i)\/W=(w.alloc (gL i)).drew)->Calls prog 50 #[.pointer (some ⟨x.g,0,none⟩),.int .i64 (m.vars.getD i.a 0)] W fun e w1=>e=.returned (.tuple #[])/\w1.cell? ⟨x.g,85,none⟩=some (.slice (some ⟨q,0,none⟩) m.vars.length c)/\w1.cell? ⟨q,i.a,none⟩=some (.int .i64 (m.vars.getD i.a 0))/\w1.cell? ⟨w.heap.size,1,none⟩=some (.int .i64 (i.a:Int))/\Hid (PM x { m with st:=m.vars.getD i.a 0::m.st } w f va w1)):=fun W hW=>by
  obtain ⟨j1,j2⟩:=HB.o W hW;refine (xI hj m W f va j1 (m.vars.getD i.a 0) (by omega)).mono ?_
  rintro e w1 ⟨rfl,v1,k1,k2⟩;obtain ⟨q',c',e1,e2,_⟩:=k1.NK hj hv;have e1':f 85=.slice (some ⟨q',0,none⟩) m.vars.length c':=e1;rw[J3] at e1';cases e1';have c1:=k1.a.blk.cell 85 (by decide)
  rw[e1] at c1;refine ⟨rfl,c1,e2,Fr.loc h.a (aj _) k2 ?_,PM.mk' k1 (j2.trans k2)⟩;rcases hW with rfl | rfl
  ·exact xM w _ _ 1 _ rfl
  ·exact xM w _ _ 1 _ rfl
 unfold iF;unfold gL at HB HP;clear h hb hc hk;generalize m.vars.getD i.a 0=V at *;generalize m.vars.length=L at *;go_enter func51,ntmps51
 go_wp2_with fail;go_region_held (fun w'=>w'.cell? ⟨x.g,85,none⟩=some (.slice (some ⟨q,0,none⟩) L c)/\w'.cell? ⟨q,i.a,none⟩=some (.int .i64 V)/\w'.cell? ⟨w.heap.size,1,none⟩=some (.int .i64 (i.a:Int))) (go_keep)
  (first | (go_at_call 50;refine aA (HP.o _ (by first | exact ak rfl | exact ah rfl)) ?_;rintro e w1 ⟨rfl,d1,d2,d3,H1⟩))
 all_goals
  go_wp2_with fail;go_ret;exact gB.ok HD.o H1.o
theorem do3 (hj:iT x)(m:Ms)(w:fu)(f:Nat->fC)(va:fC)(h:MK x m w f va)(i:Px.Ins)(hb:Bd x.P m)(hc:jX x.P i m)(hk:i.k=3) :
  Calls prog 54 #[.pointer (some ⟨x.g,0,none⟩),iF i] w (gB x i m w f va):=by
 have HB:=h.boxed hj (gL i);have hst:=hc.st;rw[show iX i.k=1 by rw[hk];rfl] at hst
 obtain ⟨v,r,hst⟩:=En hst;have HD:Hid (jh x.P i m=(0,{ m with st:=r })):=by unfold Hid jh;rw[if_neg (by omega),if_neg (by omega),if_neg (by omega),if_pos hk];simp only[hst];rfl
 have hs:=hb.s;rw[hst,aC] at hs;unfold iF;unfold gL at HB;clear h hb hc hk;go_enter func54,ntmps54
 go_wp2_with fail;refine (qP hj m _ f va (HB.o _ (by first | exact ak rfl | exact ah rfl)).1 v r hst (by omega)).mono ?_
 rintro e w1 ⟨rfl,v1,k1,k2⟩;have H1:Hid (PM x { m with st:=r } w f va w1):=PM.mk' k1 ((HB.o _ (by first | exact ak rfl | exact ah rfl)).2.trans k2)
 clear k1 k2;go_wp2_with fail;go_ret;exact gB.ok HD.o H1.o
theorem SY (hj:iT x)(m:Ms)(w:fu)(f:Nat->fC)(va:fC)(h:MK x m w f va)(i:Px.Ins)(_hb:Bd x.P m)(_hc:jX x.P i m)(hk:i.k=12) :
  Calls prog 66 #[.pointer (some ⟨x.g,0,none⟩),iF i] w (gB x i m w f va):=by
 have HB:=h.boxed hj (gL i);have HD:Hid (jh x.P i m=(0,{ m with fE:=i.a })):=by unfold Hid jh;rw[if_neg (by omega),if_neg (by omega),if_neg (by omega),if_neg (by omega),if_neg (by omega),if_neg (by omega),if_neg (by omega),if_pos hk]
 have HQ:Hid (∀ W,(W=w.alloc (gL i)\/W=(w.alloc (gL i)).drew)->PM x { m with fE:=i.a } w f va (W.setCell ⟨x.g,86,none⟩ (.int .i64 (i.a:Int)))):=fun W hW=>PM.fE hj (PM.mk' (HB.o W hW).1 (HB.o W hW).2) i.a
 have HQ2:Hid (∀ A,PM x { m with fE:=i.a } w f va ((w.setCell ⟨x.g,86,none⟩ (.int .i64 (i.a:Int))).alloc A)):=fun A=>PM.same hj (PM.fE hj (PM.mk' h (Fr.refl _ _ _ _)) i.a) ((fO.refl _ _).alloc A)
 have uX:=h.a.blk.cell 86 (by decide)
 have cf:=h.a.blk.fr 86;have hgz:=h.a.lt;unfold iF;unfold gL at HB HQ;clear h _hb _hc hk;go_enter func66,ntmps66
 go_wp2_with fail;go_ret;exact gB.ok HD.o (by first | exact HQ2.o _ | exact HQ.o _ (ak rfl) | exact HQ.o _ (ah rfl))
theorem S9 (hj:iT x)(m:Ms)(w:fu)(f:Nat->fC)(va:fC)(h:MK x m w f va)(i:Px.Ins)(hb:Bd x.P m)(hc:jX x.P i m)(hk:i.k=13) :
  Calls prog 67 #[.pointer (some ⟨x.g,0,none⟩),iF i] w (gB x i m w f va):=by
 have HB:=h.boxed hj (gL i);have hst:=hc.st;rw[show iX i.k=1 by rw[hk];rfl] at hst
 obtain ⟨v,r,hst⟩:=En hst;have HD:Hid (jh x.P i m=(0,{ m with st:=r,fE:=if v=0 then i.a else m.fE })):=by unfold Hid jh;rw[if_neg (by omega),if_neg (by omega),if_neg (by omega),if_neg (by omega),if_neg (by omega),if_neg (by omega),if_neg (by omega),if_neg (by omega),if_pos hk];simp only[hst];rfl
 have hs:=hb.s;rw[hst,aC] at hs;have HU:Hid (∀ W,(W=w.alloc (gL i)\/W=(w.alloc (gL i)).drew)->Calls prog 68 #[.pointer (some ⟨x.g,0,none⟩),.int .i64 (i.a:Int)] W fun e w'=>e=.returned (.tuple #[])/\PM x { m with st:=r,fE:=if v=0 then i.a else m.fE } w f va w'):=fun W hW=>(zbw hj m W f va (HB.o W hW).1 i.a v r hst (by omega)).mono (by rintro e w1 ⟨rfl,f1,iI,k1,k2⟩;exact ⟨rfl,PM.mk' k1 ((HB.o W hW).2.trans k2)⟩)
 unfold iF;unfold gL at HB HU;clear h hb hc hk;go_enter func67,ntmps67
 go_wp2_with fail;refine aA (HU.o _ (by first | exact ak rfl | exact ah rfl)) ?_
 rintro e w1 ⟨rfl,h1⟩;have H1:Hid (PM x { m with st:=r,fE:=if v=0 then i.a else m.fE } w f va w1):=h1
 clear h1;go_wp2_with fail;go_ret;exact gB.ok HD.o H1.o
theorem Ta (hj:iT x)(m:Ms)(w:fu)(f:Nat->fC)(va:fC)(h:MK x m w f va)(i:Px.Ins)(hb:Bd x.P m)(hc:jX x.P i m)(hk:i.k=14) :
  Calls prog 69 #[.pointer (some ⟨x.g,0,none⟩),iF i] w (gB x i m w f va):=by
 have HB:=h.boxed hj (gL i);have hst:=hc.st;rw[show iX i.k=1 by rw[hk];rfl] at hst
 obtain ⟨v,r,hst⟩:=En hst;have HD:Hid (jh x.P i m=(0,(if 0 < v then { m with st:=wrap64 (v - 1)::r } else { m with st:=r,fE:=i.a }))):=by unfold Hid jh;rw[if_neg (by omega),if_neg (by omega),if_neg (by omega),if_neg (by omega),if_neg (by omega),if_neg (by omega),if_neg (by omega),if_neg (by omega),if_neg (by omega),if_pos hk];simp only[hst,List.headD_cons,eY];split<;>rfl
 have hs:=hb.s;rw[hst,aC] at hs;have HU:Hid (∀ W,(W=w.alloc (gL i)\/W=(w.alloc (gL i)).drew)->Calls prog 70 #[.pointer (some ⟨x.g,0,none⟩),.int .i64 (i.a:Int)] W fun e w'=>e=.returned (.tuple #[])/\PM x (if 0 < v then { m with st:=wrap64 (v - 1)::r } else { m with st:=r,fE:=i.a }) w f va w'):=fun W hW=>(zj8 hj m W f va (HB.o W hW).1 i.a v r hst (by omega) (hb.rD v (by rw[hst];exact dK))).mono (by rintro e w1 ⟨rfl,f1,iI,k1,k2⟩;exact ⟨rfl,PM.mk' k1 ((HB.o W hW).2.trans k2)⟩)
 unfold iF;unfold gL at HB HU;clear h hb hc hk;go_enter func69,ntmps69
 go_wp2_with fail;refine aA (HU.o _ (by first | exact ak rfl | exact ah rfl)) ?_
 rintro e w1 ⟨rfl,h1⟩;have H1:Hid (PM x (if 0 < v then { m with st:=wrap64 (v - 1)::r } else { m with st:=r,fE:=i.a }) w f va w1):=h1
 clear h1;go_wp2_with fail;go_ret;exact gB.ok HD.o H1.o
theorem zc9 (m:Ms)(w:fu)(f:Nat->fC)(va:fC)(h:MK x m w f va)(_hl:m.st.length<=10000000) :
  Calls prog 73 #[.pointer (some ⟨x.g,0,none⟩)] w fun e w'=>e=.returned (.int .i64 (m.st.length:Int))/\w'=w:=by
 have c0:=h.a.blk.cell 0 (by decide)
 obtain ⟨a,n,cp,e0⟩:=jm h.a.st;obtain rfl:n=m.st.length:=by have:=h.a.st;rw[e0] at this;exact Ce this
 rw[e0] at c0;clear h;generalize m.st.length=L at *;go_enter func73,ntmps73
 go_wp2_with fail;go_ret;exact ⟨rfl,rfl⟩
theorem Tc (hj:iT x)(m:Ms)(w:fu)(f:Nat->fC)(va:fC)(h:MK x m w f va)(i:Px.Ins)(hb:Bd x.P m)(_hc:jX x.P i m)(hk:i.k=15) :
  Calls prog 71 #[.pointer (some ⟨x.g,0,none⟩),iF i] w (gB x i m w f va):=by
 have HB:=h.boxed hj (gL i);have HD:Hid (jh x.P i m=(0,{ m with fP:=(m.fU.length,m.st.length,i.a)::m.fP })):=by unfold Hid jh;rw[if_neg (by omega),if_neg (by omega),if_neg (by omega),if_neg (by omega),if_neg (by omega),if_neg (by omega),if_neg (by omega),if_neg (by omega),if_neg (by omega),if_neg (by omega),if_pos hk]
 have hs:=hb.s;have hu:=hb.u;have hbb:=hb.b;have HH:Hid (∀ W,(W=w.alloc (gL i)\/W=(w.alloc (gL i)).drew)->Calls prog 73 #[.pointer (some ⟨x.g,0,none⟩)] W fun e w'=>e=.returned (.int .i64 (m.st.length:Int))/\w'=W):=fun W hW=>zc9 m W f va (HB.o W hW).1 (by omega)
 have HP:Hid (∀ W,(W=w.alloc (gL i)\/W=(w.alloc (gL i)).drew)->Calls prog 72 #[.pointer (some ⟨x.g,1,none⟩),.int .i64 (m.st.length:Int),.int .i64 (i.a:Int)] W fun e w1=>e=.returned (.tuple #[])/\w1.cell? ⟨w.heap.size,1,none⟩=some (.int .i64 (i.a:Int))/\Hid (PM x { m with fP:=(m.fU.length,m.st.length,i.a)::m.fP } w f va w1)):=fun W hW=>by
  obtain ⟨j1,j2⟩:=HB.o W hW;refine (zjt hj m W f va j1 m.st.length i.a (by omega) (by omega)).mono ?_
  rintro e w1 ⟨rfl,f1,iI,k1,k2⟩;refine ⟨rfl,Fr.loc h.a (aj _) k2 ?_,PM.mk' k1 (j2.trans k2)⟩;rcases hW with rfl | rfl
  ·exact xM w _ _ 1 _ rfl
  ·exact xM w _ _ 1 _ rfl
 have hgz:=h.a.lt;unfold iF;unfold gL at HB HP HH;clear h hb _hc hk hs hu hbb;generalize m.st.length=L at *;go_enter func71,ntmps71
 go_wp2_with fail;go_region_held (fun w'=>w'.cell? ⟨w.heap.size,1,none⟩=some (.int .i64 (i.a:Int))) (go_keep)
  (first | (go_at_call 73;refine aA (HH.o _ (by first | exact ak rfl | exact ah rfl)) ?_;rintro e w1 ⟨rfl,rfl⟩) | (go_at_call 72;refine aA (HP.o _ (by first | exact ak rfl | exact ah rfl)) ?_;rintro e w1 ⟨rfl,d1,H1⟩))
 all_goals
  go_wp2_with fail;go_ret;exact gB.ok HD.o H1.o
theorem Td (hj:iT x)(m:Ms)(w:fu)(f:Nat->fC)(va:fC)(h:MK x m w f va)(i:Px.Ins)(hb:Bd x.P m)(hc:jX x.P i m)(hk:i.k=16) :
  Calls prog 74 #[.pointer (some ⟨x.g,0,none⟩),iF i] w (gB x i m w f va):=by
 have HB:=h.boxed hj (gL i);have HD:Hid (jh x.P i m=(0,{ m with fP:=m.fP.tail,fE:=i.a })):=by unfold Hid jh;rw[if_neg (by omega),if_neg (by omega),if_neg (by omega),if_neg (by omega),if_neg (by omega),if_neg (by omega),if_neg (by omega),if_neg (by omega),if_neg (by omega),if_neg (by omega),if_neg (by omega),if_pos hk]
 have hbb:=hb.b;have hne:=hc.keep hk;have hbe:∃ b r,m.fP=b::r:=by
  cases hm:m.fP with
  | nil=>exact absurd hm hne
  | cons b r=>exact ⟨b,r,rfl⟩
 obtain ⟨b,r,hbe⟩:=hbe;have ev:xJ m=(.agg #[.int .i64 (b.1:Int),.int .i64 (b.2.1:Int),.int .i64 (b.2.2:Int)],true):=by unfold xJ;rw[hbe]
 have HP:Hid (∀ W,(W=w.alloc (gL i)\/W=(w.alloc (gL i)).drew)->Calls prog 75 #[.pointer (some ⟨x.g,1,none⟩)] W fun e w1=>e=.returned (.tuple #[.agg #[.int .i64 (b.1:Int),.int .i64 (b.2.1:Int),.int .i64 (b.2.2:Int)],.bool true])/\w1.cell? ⟨w.heap.size,1,none⟩=some (.int .i64 (i.a:Int))/\(∃ u,w1.cell? ⟨x.g,86,none⟩=some u)/\w1.frozen? ⟨x.g,86,none⟩=false/\Hid (PM x { m with fP:=m.fP.tail } w f va w1)):=fun W hW=>by
  obtain ⟨j1,j2⟩:=HB.o W hW;refine (SQ hj m W f va j1 (by omega)).mono ?_
  rintro e w1 ⟨rfl,f1,iI,k1,k2⟩;rw[ev];refine ⟨rfl,Fr.loc h.a (aj _) k2 ?_,⟨_,k1.a.blk.cell 86 (by decide)⟩,k1.a.blk.fr 86,PM.mk' k1 (j2.trans k2)⟩
  rcases hW with rfl | rfl
  ·exact xM w _ _ 1 _ rfl
  ·exact xM w _ _ 1 _ rfl
 have hgz:=h.a.lt;unfold iF;unfold gL at HB HP;clear h hb hc hk hbb hne ev hbe;go_enter func74,ntmps74
 go_wp2_with fail;refine aA (HP.o _ (by first | exact ak rfl | exact ah rfl)) ?_
 rintro e w1 ⟨rfl,d1,⟨u,d86⟩,df,H1⟩;go_wp2_with fail;go_ret;exact gB.ok HD.o (PM.fE hj H1.o i.a)
theorem Te (hj:iT x)(m:Ms)(w:fu)(f:Nat->fC)(va:fC)(h:MK x m w f va)(i:Px.Ins)(_hb:Bd x.P m)(_hc:jX x.P i m)(hk:i.k=17) :
  Calls prog 76 #[.pointer (some ⟨x.g,0,none⟩),iF i] w (gB x i m w f va):=by
 have HB:=h.boxed hj (gL i);have HD:Hid (jh x.P i m=(1,m)):=by unfold Hid jh;rw[if_neg (by omega),if_neg (by omega),if_neg (by omega),if_neg (by omega),if_neg (by omega),if_neg (by omega),if_neg (by omega),if_neg (by omega),if_neg (by omega),if_neg (by omega),if_neg (by omega),if_neg (by omega),if_pos hk]
 have v1:=h.e.v1;have hgz:=h.a.lt;have hG:=lt_of_cell v1;have HF:Hid (PM x m w f va w):=PM.mk' h (Fr.refl _ _ _ _);unfold iF;unfold gL at HB;clear h _hb _hc hk;go_enter func76,ntmps76
 go_wp2_with fail;go_ret;unfold gB;rw[HD.o];exact ⟨rfl,by first | exact HF.o | exact PM.mk' (HB.o _ (by first | exact ak rfl | exact ah rfl)).1 (HB.o _ (by first | exact ak rfl | exact ah rfl)).2⟩
theorem Tf (hj:iT x)(jy:xL x)(m:Ms)(w:fu)(f:Nat->fC)(va:fC)(h:MK x m w f va)(i:Px.Ins)(hb:Bd x.P m)(hc:jX x.P i m)(hk:i.k=18) :
  Calls prog 77 #[.pointer (some ⟨x.g,0,none⟩),iF i] w (gB x i m w f va):=by
 have HB:=h.boxed hj (gL i);have hst:=hc.st;rw[show iX i.k=1 by rw[hk];rfl] at hst
 obtain ⟨v,r,hst⟩:=En hst;have hs:=hb.s;rw[hst,aC] at hs;have HD:Hid (jh x.P i m=zG x.P i.a i.b m):=by unfold Hid jh;rw[if_neg (by omega),if_neg (by omega),if_neg (by omega),if_neg (by omega),if_neg (by omega),if_neg (by omega),if_neg (by omega),if_neg (by omega),if_neg (by omega),if_neg (by omega),if_neg (by omega),if_neg (by omega),if_neg (by omega),if_pos hk];rfl
 have hw:=Yq hc.fit (ak hk);have HP:Hid (∀ W,(W=w.alloc (gL i)\/W=(w.alloc (gL i)).drew)->Calls prog 78 #[.pointer (some ⟨x.g,0,none⟩),.int .i64 (i.a:Int),.int .i64 (i.b:Int)] W fun e w1=>e=.returned (gU x (zG x.P i.a i.b m).1)/\Hid (PM x (zG x.P i.a i.b m).2 w f va w1)):=fun W hW=>by
  obtain ⟨j1,j2⟩:=HB.o W hW;have ha:=hb.a;have AZ:=hb.w;have hbb:=hc.b;refine (Qy hj jy m W f va j1 i.a i.b v r hst (by omega) hw (hb.rD v (by rw[hst];exact dK)) hb.jR hb.t (by omega) (by omega) AZ).mono ?_
  rintro e w1 ⟨rfl,f1,iI,k1,k2⟩;exact ⟨rfl,PM.mk' k1 (j2.trans k2)⟩
 unfold iF;unfold gL at HB HP;clear h hb hc hk jy hst hs;go_enter func77,ntmps77
 go_wp2_with fail;refine aA (HP.o _ (by first | exact ak rfl | exact ah rfl)) ?_
 rintro e w1 ⟨rfl,H1⟩;go_wp2_with fail;go_ret;unfold gB;rw[HD.o];exact ⟨rfl,H1.o⟩
theorem Tg (hj:iT x)(m:Ms)(w:fu)(f:Nat->fC)(va:fC)(h:MK x m w f va)(i:Px.Ins)(hb:Bd x.P m)(hc:jX x.P i m)(hk:i.k=19) :
  Calls prog 79 #[.pointer (some ⟨x.g,0,none⟩),iF i] w (gB x i m w f va):=by
 have HB:=h.boxed hj (gL i);have hst:=hc.st;rw[show iX i.k=1 by rw[hk];rfl] at hst
 obtain ⟨v,r,hst⟩:=En hst;have hs:=hb.s;rw[hst,aC] at hs;have HD:Hid (jh x.P i m=(0,{ m with fU:=(i.a,v)::m.fU })):=by unfold Hid jh;rw[if_neg (by omega),if_neg (by omega),if_neg (by omega),if_neg (by omega),if_neg (by omega),if_neg (by omega),if_neg (by omega),if_neg (by omega),if_neg (by omega),if_neg (by omega),if_neg (by omega),if_neg (by omega),if_neg (by omega),if_neg (by omega)];simp only[hst];rfl
 have hu:=hb.u;have HH:Hid (∀ W,(W=w.alloc (gL i)\/W=(w.alloc (gL i)).drew)->Calls prog 81 #[.pointer (some ⟨x.g,0,none⟩)] W fun e w1=>e=.returned (.int .i64 v)/\w1.cell? ⟨w.heap.size,1,none⟩=some (.int .i64 (i.a:Int))/\Hid (MK x m w1 f va/\Fr x w f va w1 f va)):=fun W hW=>by
  obtain ⟨j1,j2⟩:=HB.o W hW;refine (JX hj m W f va j1 v r hst (by omega)).mono ?_
  rintro e w1 ⟨rfl,hT⟩;obtain ⟨k1,k2⟩:=j1.same hj hT;refine ⟨rfl,Fr.loc h.a (aj _) k2 ?_,k1,j2.trans k2⟩;rcases hW with rfl | rfl
  ·exact xM w _ _ 1 _ rfl
  ·exact xM w _ _ 1 _ rfl
 have HP:Hid (∀ w1,(MK x m w1 f va/\Fr x w f va w1 f va)->w1.cell? ⟨w.heap.size,1,none⟩=some (.int .i64 (i.a:Int))->Calls prog 80 #[.pointer (some ⟨x.g,1,none⟩),.int .i64 (i.a:Int),.int .i64 v] w1 fun e w2=>e=.returned (.tuple #[])/\w2.cell? ⟨w.heap.size,1,none⟩=some (.int .i64 (i.a:Int))/\Hid (PM x { m with fU:=(i.a,v)::m.fU } w f va w2)):=fun w1 h1 hd=>by
  refine (ztq hj m w1 f va h1.1 i.a v (by omega)).mono ?_
  rintro e w2 ⟨rfl,f1,iI,k1,k2⟩;exact ⟨rfl,Fr.loc h.a (aj _) k2 hd,PM.mk' k1 (h1.2.trans k2)⟩
 have hgz:=h.a.lt;unfold iF;unfold gL at HB HH;clear h hb hc hk hst hs hu;go_enter func79,ntmps79
 go_wp2_with fail;go_region_held (fun w'=>w'.cell? ⟨w.heap.size,1,none⟩=some (.int .i64 (i.a:Int))) (go_keep)
  (first | (go_at_call 81;refine aA (HH.o _ (by first | exact ak rfl | exact ah rfl)) ?_;rintro e w1 ⟨rfl,d1,H1⟩) | (go_at_call 80;refine aA (HP.o _ H1.o d1) ?_;rintro e w2 ⟨rfl,d2,H2⟩))
 all_goals
  go_wp2_with fail;go_ret;exact gB.ok HD.o H2.o
theorem do2 (hj:iT x)(m:Ms)(w:fu)(f:Nat->fC)(va:fC)(h:MK x m w f va)(i:Px.Ins)(hb:Bd x.P m)(hc:jX x.P i m)(hk:i.k=2) :
  Calls prog 52 #[.pointer (some ⟨x.g,0,none⟩),iF i] w (gB x i m w f va):=by
 have HB:=h.boxed hj (gL i);have hst:=hc.st;rw[show iX i.k=1 by rw[hk];rfl] at hst
 obtain ⟨v,r,hst⟩:=En hst;have hs:=hb.s;rw[hst,aC] at hs;have hv:i.a < m.vars.length:=by rw[hb.vars];exact Rl hc.fit (ah hk)
 have HD:Hid (jh x.P i m=(0,{ m with vars:=m.vars.set i.a v,st:=r })):=by unfold Hid jh;rw[if_neg (by omega),if_neg (by omega),if_pos hk];simp only[hst];rfl
 obtain ⟨q,c,J3,cv,_,hqg,_⟩:=h.NK hj hv;have c85:=h.a.blk.cell 85 (by decide)
 rw[J3] at c85;have hgz:=h.a.lt;have hqz:=lt_of_cell cv;have Mh:(i.a:Int) < (m.vars.length:Int):=by omega
 have HP:Hid (∀ W,(W=w.alloc (gL i)\/W=(w.alloc (gL i)).drew)->Calls prog 53 #[.pointer (some ⟨x.g,0,none⟩)] W fun e w1=>e=.returned (.int .i64 v)/\w1.cell? ⟨x.g,85,none⟩=some (.slice (some ⟨q,0,none⟩) m.vars.length c)/\(∃ u,w1.cell? ⟨q,i.a,none⟩=some u)/\w1.frozen? ⟨q,i.a,none⟩=false/\w1.cell? ⟨w.heap.size,1,none⟩=some (.int .i64 (i.a:Int))/\Hid (PM x { m with vars:=m.vars.set i.a v,st:=r } w f va (w1.setCell ⟨q,i.a,none⟩ (.int .i64 v)))):=fun W hW=>by
  obtain ⟨j1,j2⟩:=HB.o W hW;refine (qP hj m W f va j1 v r hst (by omega)).mono ?_
  rintro e w1 ⟨rfl,v1,k1,k2⟩;obtain ⟨q',c',e1,e2,e3,_,e4⟩:=k1.NK hj hv;have e1':f 85=.slice (some ⟨q',0,none⟩) m.vars.length c':=e1;rw[J3] at e1';cases e1';have c1:=k1.a.blk.cell 85 (by decide)
  rw[e1] at c1;refine ⟨rfl,c1,⟨_,e2⟩,e3,Fr.loc h.a (aj _) k2 ?_,PM.mk' (e4 v).1 (j2.trans (k2.trans (e4 v).2))⟩;rcases hW with rfl | rfl
  ·exact xM w _ _ 1 _ rfl
  ·exact xM w _ _ 1 _ rfl
 unfold iF;unfold gL at HB HP;have hs1:∀ (w1:fu) (u:fC),(w1.setCell ⟨q,i.a,none⟩ u).cell? ⟨x.g,85,none⟩=w1.cell? ⟨x.g,85,none⟩:=fun w1 u=>uy (fun e=>hqg (congrArg Addr.block e))
 have hs2:∀ (w1:fu) (u:fC),(w1.setCell ⟨q,i.a,none⟩ u).cell? ⟨w.heap.size,1,none⟩=w1.cell? ⟨w.heap.size,1,none⟩:=fun w1 u=>uy (fun e=>by have:=congrArg Addr.block e;simp only at this;omega)
 clear h hb hc hk hst hs hv;generalize m.vars.length=L at *;go_enter func52,ntmps52
 go_wp2_with fail;go_region_held (fun w'=>w'.cell? ⟨x.g,85,none⟩=some (.slice (some ⟨q,0,none⟩) L c)/\w'.cell? ⟨w.heap.size,1,none⟩=some (.int .i64 (i.a:Int))) (go_keep)
  (first | (go_at_call 53;refine aA (HP.o _ (by first | exact ak rfl | exact ah rfl)) ?_;rintro e w1 ⟨rfl,d1,⟨u,d2⟩,d3,d4,H1⟩))
 all_goals
  go_wp2_with fail;go_ret;exact gB.ok HD.o (by first | exact H1.o | exact PM.same hj H1.o (fO.refl _ _).drew)
theorem Bu (b:Bool)(w:fu) :
  Calls prog 62 #[.bool b] w fun e w'=>e=.returned (.int .i64 (Px.truth b))/\w'=w:=by
 cases b
 ·go_enter func62,ntmps62
  go_wp2_with fail;go_ret;exact ⟨rfl,rfl⟩
 ·go_enter func62,ntmps62
  go_wp2_with fail;go_ret;exact ⟨rfl,rfl⟩
theorem Ti (hj:iT x)(m:Ms)(w:fu)(f:Nat->fC)(va:fC)(h:MK x m w f va)(i:Px.Ins)(hb:Bd x.P m)(hc:jX x.P i m)(hk:i.k=11) :
  Calls prog 65 #[.pointer (some ⟨x.g,0,none⟩),iF i] w (gB x i m w f va):=by
 have HB:=h.boxed hj (gL i);have hst:=hc.st;rw[show iX i.k=1 by rw[hk];rfl] at hst
 obtain ⟨v,r,hst⟩:=En hst;have hs:=hb.s;rw[hst,aC] at hs;have HD:Hid (jh x.P i m=(0,{ m with st:=Px.truth (decide (v=0))::r })):=by unfold Hid jh;rw[if_neg (by omega),if_neg (by omega),if_neg (by omega),if_neg (by omega),if_neg (by omega),if_neg (by omega),if_pos hk];simp only[hst];rfl
 have HP:Hid (∀ W,(W=w.alloc (gL i)\/W=(w.alloc (gL i)).drew)->Calls prog 53 #[.pointer (some ⟨x.g,0,none⟩)] W fun e w1=>e=.returned (.int .i64 v)/\Hid (∃ v1,MK x { m with st:=r } w1 (upd f 0 v1) va/\Fr x w f va w1 (upd f 0 v1) va)):=fun W hW=>by
  obtain ⟨j1,j2⟩:=HB.o W hW;refine (qP hj m W f va j1 v r hst (by omega)).mono ?_
  rintro e w1 ⟨rfl,v1,k1,k2⟩;exact ⟨rfl,v1,k1,j2.trans k2⟩
 have HU:Hid (∀ w1,(∃ v1,MK x { m with st:=r } w1 (upd f 0 v1) va/\Fr x w f va w1 (upd f 0 v1) va)->∀ t:Int,Calls prog 50 #[.pointer (some ⟨x.g,0,none⟩),.int .i64 t] w1 fun e w2=>e=.returned (.tuple #[])/\Hid (PM x { m with st:=t::r } w f va w2)):=fun w1 ⟨v1,h1,h2⟩ t=>by
  refine (xI hj { m with st:=r } w1 _ va h1 t (by show r.length<=_;omega)).mono ?_
  rintro e w2 ⟨rfl,v2,k1,k2⟩;exact ⟨rfl,PM.mk' k1 (h2.trans k2)⟩
 have hbq:decide (v=0)=(v == 0):=by rw[bA];simp
 rw[hbq] at HD;unfold iF;unfold gL at HB HP;clear h hb hc hk hst hs hbq;go_enter func65,ntmps65
 go_wp2_with fail;go_region_with (first | (go_at_call 53;refine aA (HP.o _ (by first | exact ak rfl | exact ah rfl)) ?_;rintro e w1 ⟨rfl,H1⟩) | (go_at_call 62;refine (Bu (v == 0) _).mono ?_;rintro e w2 ⟨rfl,rfl⟩) | (go_at_call 50;refine aA (HU.o _ H1.o _) ?_;rintro e w3 ⟨rfl,H3⟩))
 all_goals
  go_wp2_with fail;go_ret;exact gB.ok HD.o H3.o
theorem zdn (hj:iT x)(m:Ms)(w:fu)(f:Nat->fC)(va:fC)(h:MK x m w f va)(b a:Int)(r:List Int)(hst:m.st=b::a::r)(hl:r.length<=9000000) :
  Calls prog 60 #[.pointer (some ⟨x.g,0,none⟩)] w fun e w'=>e=.returned (gU x (if b=0 then 1 else 0))/\PM x (if b=0 then m else { m with st:=wrap64 (a.tdiv b)::r }) w f va w':=by
 have HT:Hid (Calls prog 81 #[.pointer (some ⟨x.g,0,none⟩)] w fun e w1=>e=.returned (.int .i64 b)/\w1.cell? ⟨10,0,none⟩=some (.iface 337 (.pointer (some (x.E 1))))/\Hid (MK x m w1 f va/\Fr x w f va w1 f va)):=by
  refine (JX hj m w f va h b (a::r) hst (by simp;omega)).mono ?_
  rintro e w1 ⟨rfl,hT⟩;obtain ⟨k1,k2⟩:=h.same hj hT;exact ⟨rfl,k1.e.v1,k1,k2⟩
 have HP:Hid (∀ w1,(MK x m w1 f va/\Fr x w f va w1 f va)->Calls prog 53 #[.pointer (some ⟨x.g,0,none⟩)] w1 fun e w2=>e=.returned (.int .i64 b)/\Hid (∃ f1,MK x { m with st:=a::r } w2 f1 va/\Fr x w f va w2 f1 va)):=fun w1 ⟨h1,h2⟩=>by
  refine (qP hj m w1 f va h1 b (a::r) hst (by simp;omega)).mono ?_
  rintro e w2 ⟨rfl,v1,k1,k2⟩;exact ⟨rfl,_,k1,h2.trans k2⟩
 have wL:Hid (∀ w1 W,(∃ f1,MK x { m with st:=a::r } w1 f1 va/\Fr x w f va w1 f1 va)->fO (fun _=>False) w1 W->Calls prog 53 #[.pointer (some ⟨x.g,0,none⟩)] W fun e w2=>e=.returned (.int .i64 a)/\Hid (∃ f1,MK x { m with st:=r } w2 f1 va/\Fr x w f va w2 f1 va)):=fun w1 W ⟨f1,h1,h2⟩ hT=>by
  obtain ⟨j1,j2⟩:=h1.same hj hT;refine (qP hj { m with st:=a::r } W f1 va j1 a r rfl (by omega)).mono ?_
  rintro e w2 ⟨rfl,v1,k1,k2⟩;exact ⟨rfl,_,k1,h2.trans (j2.trans k2)⟩
 have HU:Hid (∀ w1,(∃ f1,MK x { m with st:=r } w1 f1 va/\Fr x w f va w1 f1 va)->∀ t:Int,Calls prog 50 #[.pointer (some ⟨x.g,0,none⟩),.int .i64 t] w1 fun e w2=>e=.returned (.tuple #[])/\Hid (PM x { m with st:=t::r } w f va w2)):=fun w1 ⟨f1,h1,h2⟩ t=>by
  refine (xI hj { m with st:=r } w1 f1 va h1 t (by show r.length<=_;omega)).mono ?_
  rintro e w2 ⟨rfl,v2,k1,k2⟩;exact ⟨rfl,PM.mk' k1 (h2.trans k2)⟩
 clear h hst;by_cases hb:b=0
 ·rw[if_pos hb,if_pos hb];have hb':(b == 0)=true:=by rw[hb];rfl
  go_enter func60,ntmps60
  go_wp2_with fail;refine aA HT.o ?_;rintro e w1 ⟨rfl,g1,H1⟩;go_wp2_with fail;go_ret;exact ⟨rfl,PM.mk' H1.o.1 H1.o.2⟩
 ·rw[if_neg hb,if_neg hb];have hb':(b == 0)=false:=by simpa using hb
  have hwr:IntKind.i64.wrap (a.tdiv b)=wrap64 (a.tdiv b):=by rw[IntKind.wrap_i64];unfold wrap64;rfl
  go_enter func60,ntmps60
  go_wp2_with fail;refine aA HT.o ?_;rintro e w1 ⟨rfl,g1,H1⟩;go_wp2_with fail;refine aA (HP.o _ H1.o) ?_;rintro e w2 ⟨rfl,H2⟩;go_wp2_with fail;go_region_with (first | (go_at_call 53;refine aA (wL.o _ _ H2.o (by first | exact fO.refl _ _ | exact (fO.refl _ _).drew)) ?_;rintro e w3 ⟨rfl,H3⟩) | (go_at_call 50;refine aA (HU.o _ H3.o _) ?_;rintro e w4 ⟨rfl,H4⟩))
  all_goals
   go_wp2_with fail;go_ret;exact ⟨rfl,H4.o⟩
theorem do7 (hj:iT x)(m:Ms)(w:fu)(f:Nat->fC)(va:fC)(h:MK x m w f va)(i:Px.Ins)(hb:Bd x.P m)(hc:jX x.P i m)(hk:i.k=7) :
  Calls prog 59 #[.pointer (some ⟨x.g,0,none⟩),iF i] w (gB x i m w f va):=by
 have HB:=h.boxed hj (gL i);have hst:=hc.st;rw[show iX i.k=2 by rw[hk];rfl] at hst
 obtain ⟨b,a,r,hst⟩:=Eo hst;have hs:=hb.s;rw[hst,aC,aC] at hs;have HD:Hid (jh x.P i m=(if b=0 then 1 else 0,if b=0 then m else { m with st:=wrap64 (a.tdiv b)::r })):=by unfold Hid jh;rw[if_neg (by omega),if_neg (by omega),if_neg (by omega),if_neg (by omega),if_pos hk];simp only[hst,List.headD_cons,eY];split<;>rfl
 have HP:Hid (∀ W,(W=w.alloc (gL i)\/W=(w.alloc (gL i)).drew)->Calls prog 60 #[.pointer (some ⟨x.g,0,none⟩)] W fun e w1=>e=.returned (gU x (if b=0 then 1 else 0))/\Hid (PM x (if b=0 then m else { m with st:=wrap64 (a.tdiv b)::r }) w f va w1)):=fun W hW=>by
  obtain ⟨j1,j2⟩:=HB.o W hW;refine (zdn hj m W f va j1 b a r hst (by omega)).mono ?_
  rintro e w1 ⟨rfl,f1,iI,k1,k2⟩;exact ⟨rfl,PM.mk' k1 (j2.trans k2)⟩
 unfold iF;unfold gL at HB HP;clear h hb hc hk hst hs;generalize (if b=0 then 1 else 0)=E at *
 generalize (if b=0 then m else { m with st:=wrap64 (a.tdiv b)::r })=M at *
 go_enter func59,ntmps59
 go_wp2_with fail;refine aA (HP.o _ (by first | exact ak rfl | exact ah rfl)) ?_
 rintro e w1 ⟨rfl,H1⟩;go_wp2_with fail;go_ret;unfold gB;rw[HD.o];exact ⟨rfl,H1.o⟩
