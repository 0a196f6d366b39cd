import Derived.Test.YtokkhhekekeokaaGreatDoorC10
set_option maxRecDepth 100000
set_option maxHeartbeats 1000000
namespace Go.Proofs.YtokkhhekekeokaaGreatDoor
open Go.RowKit Tryz
namespace Ref
open Px
def Ln (s:fq)(w:fu)(e:Ending)(w':fu):Prop :=
 Below w.heap.size w w'/\∃ a n c a' n' c',e=.returned (.tuple #[.slice a n c,.slice a' n' c',.int .i64 ((Px.check s).1:Int),.int .i64 ((Px.check s).2:Int)]) /\
  ((Px.check s).1=0->∃ l qs,Px.read s=.ok l/\iq w' (.slice a n c) qs (In w w')/\fV w' l (In w w') qs/\w'.ownsRow 0 315 2 (.slice a' n' c') (iG l ⟨[],0,0⟩).vars.length (rP (iG l ⟨[],0,0⟩).vars))
theorem Lo {w:fu}{base:Nat}{e:TypeId}{size:Nat}{v:fC}{n:Nat}{xs:List fC}(h:w.ownsRow base e size v n xs):w.ownsRow 0 e size v n xs:=by
 obtain ⟨h1,h2⟩:=h;refine ⟨h1,?_⟩;rcases h2 with h2 | ⟨g,cap,cur,hv,hg,r⟩
 ·exact ak h2
 ·exact ah ⟨g,cap,cur,hv,aK _,r⟩
theorem Lq (s:fq)(w:fu)(hs:s.size<=maxLen):Calls prog 15 #[.string s] w (Ln s w):=by
 go_enter func15,ntmps15
 go_wp2_with fail;refine (PV s _ hs).mono ?_;rintro e w1 ⟨hb,a,n,c,x,p,rfl,hr⟩;cases hrd:Px.read s with
 | error r =>
  obtain ⟨c',p'⟩:=r;rw[hrd] at hr;obtain ⟨rfl,rfl,rfl,rfl,rfl⟩:=hr;have hx0:x≠0:=by
   unfold Px.read at hrd;split at hrd
   ·cases hrd;omega
   ·split at hrd
    ·cases hrd;omega
    ·split at hrd
     ·cases hrd;omega
     ·cases hrd
  have t1:((x:Int) != 0)=true:=by rw[bne_iff_ne];omega
  have ck:Hid (Px.check s=(x,p)):=by unfold Hid Px.check;rw[hrd]
  have B:Hid (_):=hb;clear hrd hb;go_wp2_with fail;refine bodyPost_ret (v:=.tuple #[.slice none 0 0,.slice none 0 0,.int .i64 (x:Int),.int .i64 (p:Int)]) (by simp[results,results15,go_sem]) rfl ?_
  refine ⟨B.o,none,0,0,none,0,0,by rw[ck.o],fun h=>?_⟩
  rw[ck.o] at h;exact absurd h hx0
 | ok l =>
  rw[hrd] at hr;obtain ⟨rfl,rfl,qs,h1,h2⟩:=hr;obtain ⟨wf,hcnt⟩:=EC hrd;generalize hK:iG l ⟨[],0,0⟩=K;have ck:Hid (Px.check s=if K.e=0 then (0,0) else (K.e,K.pl)):=by unfold Hid Px.check;rw[hrd];simp only[hK]
  have HH:Hid (Below w.heap.size w w1/\iq w1 (.slice a n c) qs (In w w1)/\fV w1 l (In w w1) qs/\jM l/\Px.read s=.ok l/\iG l ⟨[],0,0⟩=K):=⟨hb,h1,h2,wf,hrd,hK⟩;have HL:Hid (iy (w1.alloc (.cells #[.slice none 0 0,.int .i64 0,.int .i64 0] 99)) w1.heap.size ⟨[],0,0⟩):=by
   refine ⟨none,0,0,?_,aT _ _ _ _⟩;show (w1.heap.push _)[w1.heap.size]?=_
   rw[aB,if_pos rfl];rfl
  clear hb h1 h2 wf hrd hK;go_wp2_with fail;refine (Is w1.heap.size l ⟨[],0,0⟩ _ (In w w1) _ qs (HH.o.2.1.keep fun i hi=>aD _ _ _ hi.2) (HH.o.2.2.1.keep fun i hi=>aD _ _ _ hi.2) (fun i hi=>hi.2) HL.o HH.o.2.2.2.1 (by simp;omega)).mono ?_
  rw[HH.o.2.2.2.2.2];rintro e w2 ⟨rfl,l2,b2⟩;obtain ⟨va,vn,vc,g1,g2⟩:=l2.ex;obtain ⟨c0,c1,c2,cf⟩:=cells3 g1;have bW:Below w.heap.size w w2:=(HH.o.1.alloc HH.o.1.size _).trans (b2.mono HH.o.1.size);have hkeep:∀ i,In w w1 i->w2.heap[i]?=w1.heap[i]?:=fun i hi=>by rw[b2.block i hi.2,aD _ _ _ hi.2]
  have hz2:w1.heap.size < w2.heap.size:=lt_of_cell c0;have H2:Hid (Below w.heap.size w w2/\iq w2 (.slice a n c) qs (In w w2)/\fV w2 l (In w w2) qs/\w2.ownsRow (w1.heap.size+1) 315 2 (.slice va vn vc) K.vars.length (rP K.vars)):=⟨bW,(HH.o.2.1.keep hkeep).mono fun i hi=>⟨hi.1,by have:=hi.2;omega⟩,(HH.o.2.2.1.keep hkeep).mono fun i hi=>⟨hi.1,by have:=hi.2;omega⟩,g2⟩
  clear l2 b2 g1 g2 bW hkeep;by_cases hE:K.e=0
  ·have t1:((K.e:Int) != 0)=false:=by rw[hE];rfl
   have HE:Hid (K.e=0):=hE;clear hE;go_wp2_with fail;go_region
   go_wp2_with fail;refine bodyPost_ret (v:=.tuple #[.slice a n c,.slice va vn vc,.int .i64 0,.int .i64 0]) (by simp[results,results15,go_sem]) rfl ?_
   refine ⟨H2.o.1.drew,a,n,c,va,vn,vc,by rw[ck.o,if_pos HE.o];rfl,fun h=>⟨l,qs,HH.o.2.2.2.2.1,H2.o.2.1,H2.o.2.2.1.keep fun _ _=>rfl,?_⟩⟩
   rw[HH.o.2.2.2.2.2];exact World.ownsRow.drew (Lo H2.o.2.2.2)
  ·have t1:((K.e:Int) != 0)=true:=by rw[bne_iff_ne];omega
   have HE:Hid (¬ K.e=0):=hE;clear hE;go_wp2_with fail;go_region
   go_wp2_with fail;refine bodyPost_ret (v:=.tuple #[.slice none 0 0,.slice none 0 0,.int .i64 (K.e:Int),.int .i64 (K.pl:Int)]) (by simp[results,results15,go_sem]) rfl ?_
   refine ⟨H2.o.1.drew,none,0,0,none,0,0,by rw[ck.o,if_neg HE.o],fun h=>?_⟩
   rw[ck.o,if_neg HE.o] at h;exact absurd h HE.o
variable {s:fq}{l:List Sm}
theorem Lt (hr:Px.read s=.ok l)(hc:(Px.check s).1=0):(iG l ⟨[],0,0⟩).e=0/\Px.check s=(0,0):=by
 unfold Px.check at hc |-;rw[hr] at hc |-;dsimp only at hc |-;split at hc
 ·rename_i h;exact ⟨h,by rw[if_pos h]⟩
 ·rename_i h;exact absurd hc h
theorem Wy (hr:Px.read s=.ok l)(hc:Px.check s=(0,0))(fK:List Int):(Px.play (iG l ⟨[],0,0⟩).vars l fK).fI.length<=4000000:=by
 obtain ⟨m,h1,h2,_⟩:=Vv hr hc fK 4000000 (by omega)
 have h3:=Px.VG (iL l) 4000000 ⟨[],List.replicate (iL l).nv 0,[],[],[],fK,0,0,false,0⟩;rw[h1] at h3;rw[<- h2]
 simpa using h3
