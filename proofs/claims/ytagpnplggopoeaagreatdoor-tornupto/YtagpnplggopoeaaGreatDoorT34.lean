import Derived.Test.YtagpnplggopoeaaGreatDoorT33
import Derived.Test.YtagpnplggopoeaaGreatDoorT01
import Derived.Defers
import Derived.Deep.RegionWith
set_option maxRecDepth 100000
set_option maxHeartbeats 4000000
namespace Go.Proofs.YtagpnplggopoeaaGreatDoor
open Go.RowKit Go.Shelf Go.Lib Go.Sort
namespace Fi
def yc3:List (Nat×ByteArray)→List (Nat×ByteArray)
 | [a,b]=>if Op.bytesLess b.2.toList a.2.toList then [b,a] else [a,b]
 | l=>l
theorem yd2 (bx B b D:Nat) (v:Value) (Q:List (Nat×ByteArray)) (W:World) (h:FsAt W B b D v Q) (hQ:Q.length=1∨Q.length=2) (h0:W.cell? ⟨bx,0,none⟩=some (.pointer (some ⟨b,0,none⟩))) (hx:v.ownBlock≠some bx) :
  Calls Tryz.prog 15 #[.iface 40 v,.func (.func 16) #[] #[.pointer (some ⟨bx,0,none⟩)]] W fun e w'=>e=.returned (.tuple #[])∧FsAt w' B b D v (yc3 Q)∧Tch (fun k=>v.ownBlock=some k) W w':=by
 rcases hQ with hQ | hQ
 ·obtain ⟨a,rfl⟩:∃ a,Q=[a]:=List.length_eq_one_iff.1 hQ;obtain ⟨g,cap,rfl,hc⟩:=yc1 h.row (i:=0) (by simp)
  refine (ydd (some ⟨g,0,none⟩) 1 cap (by omega) _ _ _ W).mono ?_
  rintro e w' ⟨rfl,os,rfl⟩;have hb:Below W.heap.size W (grow W os):=⟨rfl,rfl,rfl,by rw[size_grow];exact Nat.le_add_right _ _,fun k hk=>heap_grow_old _ os hk⟩
  exact ⟨rfl,h.below hb,((Tch.refl (fun _=>False) W).below hb).mono fun _ _ h=>h.elim⟩
 ·obtain ⟨p,q,rfl⟩:∃ p q,Q=[p,q]:=by
   match Q,hQ with
   | [p,q],_=>exact ⟨p,q,rfl⟩
  obtain ⟨g,cap,rfl,hc⟩:=yc1 h.row (i:=0) (by simp)
  have hc0:=hc 0 (.pointer (some ⟨p.1,0,none⟩)) rfl;have hc1:=hc 1 (.pointer (some ⟨q.1,0,none⟩)) rfl;have hrow:=h.row;obtain ⟨n,hbk⟩:=h.bk;obtain ⟨c0,_,_,_,_,_,cl⟩:=cells5 hbk;obtain ⟨dp,xp,hp,hpd⟩:=h.fl p (by simp)
  obtain ⟨dq,xq,hq,hqd⟩:=h.fl q (by simp)
  have hbg:b≠g:=fun e=>zf9 h.row hbk (by decide) (by rw[e]<;>rfl)
  have hpg:p.1≠g:=fun e=>zf9 h.row hp (by decide) (by rw[e]<;>rfl)
  have hqg:q.1≠g:=fun e=>zf9 h.row hq (by decide) (by rw[e]<;>rfl)
  have hpq:p.1=q.1→p.2=q.2:=fun e=>by
   rw[e,hq] at hp
   have:=congrArg (fun o:Option Obj=>match o with
    | some (.cells c _ _)=>c[0]?
    | _=>none) hp
   simpa using this.symm
  have hxg:bx≠g:=fun e=>hx (by rw[e]<;>rfl)
  have hgz:g < W.heap.size:=(h.row.lt g rfl).2;have hHo:Holds (fun x:Bool=>Value.pointer (some ⟨if x then q.1 else p.1,0,none⟩)) W g 0 #[false,true]:=by
   intro j hj;refine ⟨?_,by rw[Nat.zero_add];exact h.row.frozenAt j⟩
   match j,hj with
   | 0,_=>exact hc0
   | 1,_=>exact hc1
  have hL:LessReads Tryz.prog 16 #[.pointer (some ⟨bx,0,none⟩)] (fun x:Bool=>Value.pointer (some ⟨if x then q.1 else p.1,0,none⟩)) (fun x y=>Op.bytesLess (if x then q.2 else p.2).toList (if y then q.2 else p.2).toList) g 0 2 W:=by
   intro m os dk hs i j hi hj;have e:sortWorld (fun x:Bool=>Value.pointer (some ⟨if x then q.1 else p.1,0,none⟩)) W g 0 m dk os=putRow (fun x:Bool=>Value.pointer (some ⟨if x then q.1 else p.1,0,none⟩)) (grow (Sort.ahead W m) os) g 0 dk:=by
    unfold sortWorld;rw[putRow_grow _ (Sort.ahead W m) _ g 0 _ hgz]
   have hHg:=holds_grow _ (Sort.ahead W m) os g 0 #[false,true] hgz (holds_ahead _ W m g 0 _ hHo);have hother:∀ k o u,k≠g→W.cell? ⟨k,o,none⟩=some u→(sortWorld (fun x:Bool=>Value.pointer (some ⟨if x then q.1 else p.1,0,none⟩)) W g 0 m dk os).cell? ⟨k,o,none⟩=some u:=fun k o u hk hu=>by
    rw[e,cell?_putRow_other _ _ g 0 dk _ (Or.inl hk),cell?_grow _ _ _ (lt_of_cell hu)];exact hu
   have hl:=ye0 bx b g 2 cap (sortWorld (fun x:Bool=>Value.pointer (some ⟨if x then q.1 else p.1,0,none⟩)) W g 0 m dk os) (fun t=>if dk[t]! then q.1 else p.1) (fun k=>if k=q.1 then q.2 else p.2) (hother _ _ _ hxg h0) (hother _ _ _ hbg c0) (fun t ht=>by
    have:=cell?_putRow (fun x:Bool=>Value.pointer (some ⟨if x then q.1 else p.1,0,none⟩)) _ g 0 _ dk hHg hs t (by omega)
    rw[Nat.zero_add] at this;rw[e];exact this) (fun t ht=>by
    have np:W.cell? ⟨p.1,0,none⟩=some (.string p.2):=by simp[World.cell?,hp]
    have nq:W.cell? ⟨q.1,0,none⟩=some (.string q.2):=by simp[World.cell?,hq]
    cases dk[t]! with
    | true =>
     simp only[if_true];exact hother _ _ _ hqg nq
    | false =>
     simp only[Bool.false_eq_true,if_false];by_cases e:p.1=q.1
     ·rw[if_pos e,← hpq e];exact hother _ _ _ hpg np
     ·rw[if_neg e];exact hother _ _ _ hpg np) i j hi hj
   have hname:∀ x:Bool,(if (if x then q.1 else p.1)=q.1 then q.2 else p.2)=(if x then q.2 else p.2):=by
    intro x;cases x with
    | true=>simp
    | false =>
     simp only[Bool.false_eq_true,if_false];by_cases e:p.1=q.1
     ·rw[if_pos e];exact (hpq e).symm
     ·rw[if_neg e]
   simp only[hname] at hl;exact hl
  have hS:=yc5 (fun x:Bool=>Value.pointer (some ⟨if x then q.1 else p.1,0,none⟩)) (fun _=>rfl) (fun x y=>Op.bytesLess (if x then q.2 else p.2).toList (if y then q.2 else p.2).toList) 16 #[.pointer (some ⟨bx,0,none⟩)] (enters_of Tryz.func16 (by kernel_rfl) rfl) g cap #[false,true] (by decide) (by decide) W hL hHo hgz
  refine hS.mono ?_;rintro e w' ⟨rfl,m,os,rfl⟩;have e2:∀ lt:Bool→Bool→Bool,Sort.insertionSort lt #[false,true] 0 (#[false,true]:Array Bool).size=if lt true false then #[true,false] else #[false,true]:=fun lt=>yfq lt false true
  rw[e2];have hput:=fun d:Array Bool=>yfm (enc:=fun x:Bool=>Value.pointer (some ⟨if x then q.1 else p.1,0,none⟩)) (m:=m) (d:=d) (os:=os) h.row
  have key:∀ (d:Array Bool) (Q':List (Nat×ByteArray)),d.size=2→Q'.length=2→(d.toList.map fun x:Bool=>Value.pointer (some ⟨if x then q.1 else p.1,0,none⟩))=Q'.map (fun q=>.pointer (some ⟨q.1,0,none⟩))→(∀ x∈Q',x=p∨x=q)→FsAt (grow (putRow (fun x:Bool=>Value.pointer (some ⟨if x then q.1 else p.1,0,none⟩)) (Sort.ahead W m) g 0 d) os) B b D (.slice (some ⟨g,0,none⟩) 2 cap) Q'∧Tch (fun k=>(Value.slice (some ⟨g,0,none⟩) 2 cap).ownBlock=some k) W (grow (putRow (fun x:Bool=>Value.pointer (some ⟨if x then q.1 else p.1,0,none⟩)) (Sort.ahead W m) g 0 d) os):=by
   intro d Q' hd hQ' hm hin;obtain ⟨o1,o2⟩:=hput d hd;refine ⟨⟨⟨n,by rw[o2.block b cl hbg];exact hbk⟩,by rw[hQ',← hm];exact o1,fun x hx=>?_,by omega,h.lo.1,fun x hx=>h.lo.2 x (by rcases hin x hx with rfl | rfl<;>simp)⟩,o2.mono fun k _ hk=>by rw[hk]<;>rfl⟩
   rcases hin x hx with rfl | rfl
   ·exact ⟨dp,xp,by rw[o2.block _ (lt_of_block hp) hpg];exact hp,hpd⟩
   ·exact ⟨dq,xq,by rw[o2.block _ (lt_of_block hq) hqg];exact hq,hqd⟩
  refine ⟨rfl,?_⟩;by_cases hlt:Op.bytesLess q.2.toList p.2.toList=true
  ·have e3:yc3 [p,q]=[q,p]:=if_pos hlt;rw[e3,if_pos (by simpa using hlt)]
   exact key _ _ rfl rfl rfl (fun x hx=>by simp at hx;exact hx.symm)
  ·have e3:yc3 [p,q]=[p,q]:=if_neg hlt;rw[e3,if_neg (by simpa using hlt)]
   exact key _ _ rfl rfl rfl (fun x hx=>by simp at hx;exact hx)
def yep (B b D:Nat) (v:Value) (Q:List (Nat×ByteArray)) (s:ByteArray) (w:World) (e:Ending) (w':World):Prop:=e=.returned (.bool true)∧∃ v' Q',FsAt w' B b D v' Q'∧(ycl (Q'.map (·.2)) s).2=true∧Tch (fun k=>k=b∨v.ownBlock=some k) w w'∧(∀ q∈Q',q∈Q∨w.heap.size≤q.1)∧Q'.length≤Q.length+1
theorem _root_.Go.Proofs.YtagpnplggopoeaaGreatDoor.Tch.new {T T':Nat→Prop} {w w1 w2:World} (h:Tch T w w1) (k:Tch T' w1 w2) (hT:∀ i,i < w.heap.size→T' i→T i):Tch T w w2 :=
 ⟨k.os.trans h.os,k.tape.trans h.tape,k.output.trans h.output,Nat.le_trans h.size k.size,fun i hi hn=>(k.block i (Nat.lt_of_lt_of_le hi h.size) fun ho=>hn (hT i hi ho)).trans (h.block i hi hn)⟩
theorem yde (a b:Nat×ByteArray):yc3 [a,b]=[b,a]∨yc3 [a,b]=[a,b]:=by
 by_cases h:Op.bytesLess b.2.toList a.2.toList=true
 ·exact Or.inl (if_pos h)
 ·exact Or.inr (if_neg h)
theorem yed:∀ {Q:List (Nat×ByteArray)} {q:Nat×ByteArray},q∈yc3 Q→q∈Q
 | [a,b],q,h=>by
  rcases yde a b with e | e
  ·rw[e] at h;rcases List.mem_cons.1 h with rfl | h
   ·simp
   ·rw[List.mem_singleton.1 h];simp
  ·rw[e] at h;exact h
 | [],_,h=>h
 | [_],_,h=>h
 | _::_::_::_,_,h=>h
theorem yee:∀ (Q:List (Nat×ByteArray)),(yc3 Q).length=Q.length
 | [a,b]=>by rcases yde a b with e | e<;>rw[e]<;>rfl
 | []=>rfl
 | [_]=>rfl
 | _::_::_::_=>rfl
theorem FsAt.put {w:World} {B b D i g c:Nat} {Q:List (Nat×ByteArray)} (h:FsAt w B b D (.slice (some ⟨g,0,none⟩) Q.length c) Q) (_hi:i < Q.length) (s:ByteArray) (hB:B≤w.heap.size) :
  FsAt ((w.setCell ⟨g,i,none⟩ (.pointer (some ⟨w.heap.size,0,none⟩))).alloc (.cells #[.string s,.string ⟨#[]⟩,.int .i64 0] 48)) B b D (.slice (some ⟨g,0,none⟩) Q.length c) (Q.set i (w.heap.size,s))∧Tch (·=g) w ((w.setCell ⟨g,i,none⟩ (.pointer (some ⟨w.heap.size,0,none⟩))).alloc (.cells #[.string s,.string ⟨#[]⟩,.int .i64 0] 48)):=by
 have ht:Tch (·=g) w ((w.setCell ⟨g,i,none⟩ (.pointer (some ⟨w.heap.size,0,none⟩))).alloc (.cells #[.string s,.string ⟨#[]⟩,.int .i64 0] 48)):=((Tch.refl (·=g) w).setCell (p:=⟨g,i,none⟩) (Or.inl rfl) _).alloc _
 obtain ⟨n,hn⟩:=h.bk;have hsz:(w.setCell ⟨g,i,none⟩ (.pointer (some ⟨w.heap.size,0,none⟩))).heap.size=w.heap.size:=by simp[World.setCell]
 refine ⟨⟨⟨n,by rw[ht.block b (lt_of_block hn) (fun e=>zf9 h.row hn (by decide) (by rw[e]<;>rfl))];exact hn⟩,?_,fun q hq=>?_,by rw[List.length_set];exact h.n,h.lo.1,fun q hq=>?_⟩,ht⟩
 ·have:=(h.row.stored i (.pointer (some ⟨w.heap.size,0,none⟩))).1.alloc (.cells #[.string s,.string ⟨#[]⟩,.int .i64 0] 48)
  rw[List.length_set,List.map_set];exact this
 ·rcases List.mem_or_eq_of_mem_set hq with hq | rfl
  ·obtain ⟨d,x,hf,hd⟩:=h.fl q hq;exact ⟨d,x,by rw[ht.block _ (lt_of_block hf) (fun e=>zf9 h.row hf (by decide) (by rw[e]<;>rfl))];exact hf,hd⟩
  ·refine ⟨⟨#[]⟩,0,?_,Nat.zero_le _⟩;show ((w.setCell ⟨g,i,none⟩ (.pointer (some ⟨w.heap.size,0,none⟩))).heap.push _)[w.heap.size]?=_
   rw[Array.getElem?_push,if_pos hsz.symm]
 ·rcases List.mem_or_eq_of_mem_set hq with hq | rfl
  ·exact h.lo.2 q hq
  ·exact hB
theorem yc7 (B b D:Nat) (v:Value) (Q:List (Nat×ByteArray)) (s:ByteArray) (w:World) (h:FsAt w B b D v Q) (hB:B≤w.heap.size) (h0:(ycl (Q.map (·.2)) s).2=true):Calls Tryz.prog 5 #[.pointer (some ⟨b,0,none⟩),.string s] w (yep B b D v Q s w):=by
 have hbl:b < w.heap.size:=by obtain ⟨n,hn⟩:=h.bk;exact lt_of_block hn
 have hb0:Below w.heap.size w (w.alloc (.cells #[.pointer (some ⟨b,0,none⟩)] 23)):=(Below.refl _ _).alloc (Nat.le_refl _) _;have HS:Hid (_):=qn2 b v (w.alloc (.cells #[.pointer (some ⟨b,0,none⟩)] 23)) (h.bk.below hb0);have HF:Hid (∀ w1,FsAt w1 B b D v Q→_):=fun w1 h1=>qie B b D v Q s w1 h1
 have H:Hid (FsAt (w.alloc (.cells #[.pointer (some ⟨b,0,none⟩)] 23)) B b D v Q∧Tch (fun k=>k=b∨v.ownBlock=some k) w (w.alloc (.cells #[.pointer (some ⟨b,0,none⟩)] 23))):=⟨h.below hb0,(Tch.refl _ _).alloc _⟩
 clear h hb0;go_enter Tryz.func5,Tryz.ntmps5
 go_wp2_with fail;refine Calls.mono HS.out ?_;rintro e w1 ⟨rfl,hb1,ht1⟩;have H1:Hid (FsAt w1 B b D v Q∧Tch (fun k=>k=b∨v.ownBlock=some k) w w1):=⟨H.out.1.step ht1 hb1,H.out.2.trans (ht1.mono fun k _ hk=>Or.inl hk)⟩
 have cb1:w1.cell? ⟨w.heap.size,0,none⟩=some (.pointer (some ⟨b,0,none⟩)):=by
  rw[World.cell?_of_block (w:=w.alloc (.cells #[.pointer (some ⟨b,0,none⟩)] 23)) (a:=⟨w.heap.size,0,none⟩) (ht1.block _ (by show w.heap.size < (w.heap.push _).size;rw[Array.size_push];omega) (by show ¬ w.heap.size=b;omega))]
  simp
 clear hb1 ht1 HS;go_wp2_with fail;refine Calls.mono (HF.out w1 H1.out.1) ?_;rintro e w2 ⟨⟨i,ok,hi,hok,hfn,rfl⟩,hb⟩;have H2:Hid (FsAt w2 B b D v Q∧Tch (fun k=>k=b∨v.ownBlock=some k) w w2):=⟨H1.out.1.below hb,H1.out.2.trans (((Tch.refl (fun _=>False) w1).below hb).mono fun _ _ h=>h.elim)⟩
 have cb2:w2.cell? ⟨w.heap.size,0,none⟩=some (.pointer (some ⟨b,0,none⟩)):=by
  rw[hb.cell (p:=⟨w.heap.size,0,none⟩) (lt_of_cell cb1)];exact cb1
 obtain rfl:ok=true:=by rw[hfn] at h0;exact h0
 clear HF H1 H hb h0 cb1;have HN:Hid (_):=hfn;have hlt:=hok rfl;obtain ⟨n,hn⟩:=H2.out.1.bk;obtain ⟨c0,c1,c2,c3,c4,cf,cl⟩:=cells5 hn;have hlt':(i:Int) < (Q.length:Int):=by omega
 obtain ⟨g,cap,rfl,hc⟩:=yc1 H2.out.1.row hlt;have hcj:=hc i (.pointer (some ⟨Q[i].1,0,none⟩)) (by simp[hlt])
 have hfr:=H2.out.1.row.frozenAt i;obtain ⟨q,hq⟩:∃ q,q=Q[i]:=⟨_,rfl⟩;rw[← hq] at hcj;have hgz:=lt_of_cell hcj;clear hc hq hok hn hfn;go_wp2_with fail
 all_goals (try go_region)
 all_goals (try go_wp2_with fail)
 go_ret;obtain ⟨f1,f2⟩:=H2.out.1.put hlt s (Nat.le_trans hB H2.out.2.size);refine ⟨rfl,_,_,f1,?_,H2.out.2.trans (f2.mono fun k _ hk=>Or.inr (by rw[hk]<;>rfl)),fun q hq=>?_,by rw[List.length_set];omega⟩
 ·rw[List.map_set];exact ydh s _ _ HN.out
 ·rcases List.mem_or_eq_of_mem_set hq with hq | rfl
  ·exact Or.inl hq
  ·exact Or.inr H2.out.2.size
theorem infoF:(Tryz.prog.info? 46).map (fun i=>(i.zero,i.size,i.bytes))=some (some (.pointer none),1,8):=by kernel_rfl
theorem yey {W:World} {b:Nat} {p:Value} {t:TypeId} (h:W.heap[b]?=some (.cells #[p] t)):∀ j u,[p][j]?=some u→W.cell? ((⟨b,0,none⟩:Addr).add j)=some u:=by
 intro j u hj;match j,hj with
 | 0,hj=>simp at hj;subst hj;simp[Addr.add,World.cell?,h]
def ydm (s:ByteArray):Obj:=.cells #[.string s,.string ⟨#[]⟩,.int .i64 0] 48
theorem FsAt.app {w:World} {B b D bx:Nat} {v:Value} {Q:List (Nat×ByteArray)} (h:FsAt w B b D v Q) (hQ:Q.length≤1) (s:ByteArray) (hB:B≤w.heap.size) (hx:w.heap[bx]?=some (.cells #[.pointer (some ⟨b,0,none⟩)] 23)) (W:World) (hW:Tch (fun _=>False) w W) (hf:W.heap[w.heap.size]?=some (ydm s)) :
  ∀ v' w3,w3.ownsRow B 46 1 v' (Q.length+1) ((Q.map fun q=>.pointer (some ⟨q.1,0,none⟩))++[.pointer (some ⟨w.heap.size,0,none⟩)])→W.grownBy w3 v.ownBlock→(v'.ownBlock=v.ownBlock∨v'.ownBlock=some W.heap.size) →
   ∃ a1 n1 c1,v'=.slice a1 n1 c1∧w3.cell? ⟨bx,0,none⟩=some (.pointer (some ⟨b,0,none⟩))∧w3.cell? ⟨b,0,none⟩=some v∧w3.frozen? ⟨b,0,none⟩=false∧b≠bx∧b < w3.heap.size∧Hid (∀ w4,(w4=w3.setCell ⟨b,0,none⟩ v'∨w4=(w3.setCell ⟨b,0,none⟩ v').drew)→FsAt w4 B b D v' (Q++[(w.heap.size,s)])∧Tch (fun k=>k=b∨v.ownBlock=some k) w w4∧v'.ownBlock≠some bx∧w4.cell? ⟨bx,0,none⟩=some (.pointer (some ⟨b,0,none⟩))∧∀ k,v'.ownBlock=some k→v.ownBlock=some k∨w.heap.size≤k):=by
 intro v' w3 hown hg hloc;obtain ⟨n,hn⟩:=h.bk;have hbv:¬ v.ownBlock=some b:=zf9 h.row hn (by decide)
 have hxv:¬ v.ownBlock=some bx:=zf9 h.row hx (by decide)
 have hbx:b≠bx:=by
  intro e;rw[e] at hn;rw[hn] at hx
  have:=congrArg (fun o:Option Obj=>match o with
   | some (.cells c _ _)=>c.size
   | _=>0) hx
  simp at this
 have hT:Tch (fun k=>v.ownBlock=some k) w w3:=(hW.mono fun _ _ h=>h.elim).grown hg fun k hk=>Or.inl hk
 have hbz:=lt_of_block hn;have hxz:=lt_of_block hx;have hn3:w3.heap[b]?=_:=(hT.block b hbz hbv).trans hn;have hx3:w3.heap[bx]?=_:=(hT.block bx hxz hxv).trans hx;have hvb:v'.ownBlock≠some b:=by
  rcases hloc with e | e
  ·rw[e];exact hbv
  ·rw[e];intro e2;cases e2;have:=hW.size;omega
 have hvx:v'.ownBlock≠some bx:=by
  rcases hloc with e | e
  ·rw[e];exact hxv
  ·rw[e];intro e2;cases e2;have:=hW.size;omega
 obtain ⟨a1,n1,c1,rfl⟩:=Ref.qad hown;have hTs:Tch (fun k=>k=b∨v.ownBlock=some k) w (w3.setCell ⟨b,0,none⟩ (.slice a1 n1 c1)):=Tch.setCell (T:=fun k=>k=b∨v.ownBlock=some k) (hT.mono fun k _ hk=>Or.inr hk) (p:=⟨b,0,none⟩) (Or.inl (Or.inl rfl)) _
 have hwz:w.heap.size < W.heap.size:=lt_of_block hf;have hvz:v.ownBlock≠some w.heap.size:=fun e=>by have:=(h.row.lt _ e).2;omega
 have hF:FsAt (w3.setCell ⟨b,0,none⟩ (.slice a1 n1 c1)) B b D (.slice a1 n1 c1) (Q++[(w.heap.size,s)]):=by
  refine ⟨⟨n,by rw[Ref.heap_set _ hn3]<;>rfl⟩,?_,fun q hq=>?_,by simp;omega,h.lo.1,fun q hq=>?_⟩
  ·rw[List.length_append,List.map_append];exact ownsRow_setCell_other hown (a:=⟨b,0,none⟩) hvb _
  ·rcases List.mem_append.1 hq with hq | hq
   ·obtain ⟨d,x,hx1,hd⟩:=h.fl q hq;have hqb:q.1≠b:=by
     intro e;rw[e,hn] at hx1
     have:=congrArg (fun o:Option Obj=>match o with
      | some (.cells c _ _)=>c.size
      | _=>0) hx1
     simp at this
    exact ⟨d,x,by rw[hTs.block _ (lt_of_block hx1) (fun hh=>hh.elim hqb fun e=>zf9 h.row hx1 (by decide) e)];exact hx1,hd⟩
   ·rw[List.mem_singleton.1 hq];refine ⟨⟨#[]⟩,0,?_,Nat.zero_le _⟩;show (w3.setCell ⟨b,0,none⟩ (.slice a1 n1 c1)).heap[w.heap.size]?=_
    rw[Below.heap_setCell _ _ _ _ (by show w.heap.size≠b;omega),hg.block _ hwz (fun e=>hvz e.symm)]
    exact hf
  ·rcases List.mem_append.1 hq with hq | hq
   ·exact h.lo.2 q hq
   ·rw[List.mem_singleton.1 hq];exact hB
 have hcx:(w3.setCell ⟨b,0,none⟩ (.slice a1 n1 c1)).cell? ⟨bx,0,none⟩=some (.pointer (some ⟨b,0,none⟩)):=by
  rw[World.cell?_of_block (w:=w3) (a:=⟨bx,0,none⟩) (Below.heap_setCell _ _ _ _ (fun e=>hbx e.symm))]
  simp[World.cell?,hx3]
 refine ⟨a1,n1,c1,rfl,by simp[World.cell?,hx3],by simp[World.cell?,hn3],by simp[World.frozen?,hn3],hbx,Nat.lt_of_lt_of_le hbz hT.size,?_⟩
 have hpl:∀ k,(Value.slice a1 n1 c1).ownBlock=some k→v.ownBlock=some k∨w.heap.size≤k:=by
  intro k hk;rcases hloc with e | e
  ·rw[e] at hk;exact Or.inl hk
  ·rw[e] at hk;cases hk;exact Or.inr hW.size
 rintro w4 (rfl | rfl)
 ·exact ⟨hF,hTs,hvx,hcx,hpl⟩
 ·exact ⟨hF.below (Below.refl _ _).drew,hTs.drew,hvx,hcx,hpl⟩
theorem yd4 (B b D:Nat) (v:Value) (Q:List (Nat×ByteArray)) (s:ByteArray) (w:World) (h:FsAt w B b D v Q) (hB:B≤w.heap.size) (hQ:Q.length≤1) (h0:(ycl (Q.map (·.2)) s).2=false):Calls Tryz.prog 5 #[.pointer (some ⟨b,0,none⟩),.string s] w (yep B b D v Q s w):=by
 have hbl:b < w.heap.size:=by obtain ⟨n,hn⟩:=h.bk;exact lt_of_block hn
 have hb0:Below w.heap.size w (w.alloc (.cells #[.pointer (some ⟨b,0,none⟩)] 23)):=(Below.refl _ _).alloc (Nat.le_refl _) _;obtain ⟨i0,hi0,hz0,hz1,hz2⟩:=info_parts infoF;have HS:Hid (_):=qn2 b v (w.alloc (.cells #[.pointer (some ⟨b,0,none⟩)] 23)) (h.bk.below hb0);have HF:Hid (∀ w1,FsAt w1 B b D v Q→_):=fun w1 h1=>qie B b D v Q s w1 h1
 have H:Hid (FsAt (w.alloc (.cells #[.pointer (some ⟨b,0,none⟩)] 23)) B b D v Q∧Tch (fun k=>k=b∨v.ownBlock=some k) w (w.alloc (.cells #[.pointer (some ⟨b,0,none⟩)] 23))):=⟨h.below hb0,(Tch.refl _ _).alloc _⟩
 clear h hb0;go_enter Tryz.func5,Tryz.ntmps5
 go_wp2_with fail;refine Calls.mono HS.out ?_;rintro e w1 ⟨rfl,hb1,ht1⟩;have H1:Hid (FsAt w1 B b D v Q∧Tch (fun k=>k=b∨v.ownBlock=some k) w w1):=⟨H.out.1.step ht1 hb1,H.out.2.trans (ht1.mono fun k _ hk=>Or.inl hk)⟩
 have x1:w1.heap[w.heap.size]?=some (.cells #[.pointer (some ⟨b,0,none⟩)] 23):=by
  rw[ht1.block w.heap.size (by show w.heap.size < (w.heap.push _).size;rw[Array.size_push];omega) (by show ¬ w.heap.size=b;omega)]
  show (w.heap.push _)[w.heap.size]?=_
  rw[Array.getElem?_push,if_pos rfl]
 have cb1:w1.cell? ⟨w.heap.size,0,none⟩=some (.pointer (some ⟨b,0,none⟩)):=by simp[World.cell?,x1]
 have X1:Hid (_):=x1;clear hb1 ht1 HS x1;go_wp2_with fail;refine Calls.mono (HF.out w1 H1.out.1) ?_;rintro e w2 ⟨⟨i,ok,hi,hok,hfn,rfl⟩,hb⟩;have H2:Hid (FsAt w2 B b D v Q∧Tch (fun k=>k=b∨v.ownBlock=some k) w w2):=⟨H1.out.1.below hb,H1.out.2.trans (((Tch.refl (fun _=>False) w1).below hb).mono fun _ _ h=>h.elim)⟩
 have x2:w2.heap[w.heap.size]?=some (.cells #[.pointer (some ⟨b,0,none⟩)] 23):=(hb.block _ (lt_of_block X1.out)).trans X1.out;have cb2:w2.cell? ⟨w.heap.size,0,none⟩=some (.pointer (some ⟨b,0,none⟩)):=by simp[World.cell?,x2]
 obtain rfl:ok=false:=by rw[hfn] at h0;exact h0
 have hsz:=H2.out.2.size;have hW:Tch (fun _=>False) w2 ((w2.alloc (ydm s)).alloc (.cells #[.pointer (some ⟨w2.heap.size,0,none⟩)] 46)).drew:=(((Tch.refl _ _).alloc _).alloc _).drew
 have hfi:((w2.alloc (ydm s)).alloc (.cells #[.pointer (some ⟨w2.heap.size,0,none⟩)] 46)).drew.heap[w2.heap.size]?=some (ydm s):=by
  show ((w2.heap.push _).push _)[w2.heap.size]?=_
  rw[Array.getElem?_push,if_neg (by rw[Array.size_push];omega),Array.getElem?_push,if_pos rfl]
 have AP:Hid (_):=H2.out.1.app hQ s (Nat.le_trans hB hsz) x2 _ hW hfi;have O1:Hid (_):=qah H2.out.1.row hW (fun _ _ h=>h)
 have O2:Hid (∀ j u,[Value.pointer (some ⟨w2.heap.size,0,none⟩)][j]?=some u→((w2.alloc (ydm s)).alloc (.cells #[.pointer (some ⟨w2.heap.size,0,none⟩)] 46)).drew.cell? ((⟨w2.heap.size+1,0,none⟩:Addr).add j)=some u):=by
  exact yey (t:=46) (by
   show ((w2.heap.push _).push _)[w2.heap.size+1]?=_
   rw[Ref.qdu])
 have O3:Hid (∀ u∈[Value.pointer (some ⟨w2.heap.size,0,none⟩)],u.oneCell'=true):=by intro u hu;simp at hu;subst hu;rfl
 have O4:Hid (Q.length+1≤maxLen):=by unfold Hid maxLen;omega
 have O5:Hid ((Q.length+1) * 8≤140737488355328):=by unfold Hid;omega
 have O6:Hid (B≤((w2.alloc (ydm s)).alloc (.cells #[.pointer (some ⟨w2.heap.size,0,none⟩)] 46)).drew.heap.size):=by have:=hW.size;unfold Hid;omega
 have HQ:Hid (∀ q,Q=[q]∨Q=[]→(ycl ((yc3 (Q++[(w2.heap.size,s)])).map (·.2)) s).2=true):=by
  intro q hq;rcases hq with rfl | rfl
  ·have:=yej q.2 s h0
   unfold yc3;simp only[List.cons_append,List.nil_append];by_cases hl:Op.bytesLess s.toList q.2.toList=true
   ·rw[if_pos hl] at this ⊢;exact this
   ·rw[if_neg hl] at this ⊢;exact this
  ·show (ycl [s] s).2=true
   rw[ycl,if_neg (by rw[ycz];simp)]
   simp
 have HQ2:Hid ((ycl ((yc3 (Q++[(w2.heap.size,s)])).map (·.2)) s).2=true):=by
  match Q,hQ,HQ with
  | [],_,HQ=>exact HQ.out (0,s) (Or.inr rfl)
  | [q],_,HQ=>exact HQ.out q (Or.inl rfl)
 have HL:Hid ((Q++[(w2.heap.size,s)]).length=1∨(Q++[(w2.heap.size,s)]).length=2):=by unfold Hid;rw[List.length_append,List.length_singleton];omega
 have hT2:Hid (Tch (fun k=>k=b∨v.ownBlock=some k) w w2):=H2.out.2
 have hvz:Hid (∀ k,v.ownBlock=some k→k < w2.heap.size):=fun k hk=>(H2.out.1.row.lt k hk).2
 obtain ⟨n,hn⟩:=H2.out.1.bk;obtain ⟨c0,c1,c2,c3,c4,cf,cl⟩:=cells5 hn;obtain ⟨va,vn,vc,rfl⟩:=Ref.qad H2.out.1.row;clear hok hn hfn h0 HF H1 H hb cb1 X1 x2 hW hfi HQ H2;have hxz:w.heap.size < w2.heap.size:=lt_of_cell cb2;unfold ydm at *;go_wp2_with fail;go_region_law (refine qbh rfl _ _ 40 rfl B 46 i0 (.pointer none) 1 8 Tryz.underlying40 hi0 hz0 hz1 hz2 rfl (Nat.succ_pos 0) _ _ _ rfl O1.out _ 1 1 _ rfl rfl O2.out O3.out O4.out O5.out O6.out ?_;intro v' w3 hown' hgrow hloc;obtain ⟨a1,n1,k1,rfl,x3,d0,df,hbx,hb3,HN⟩:=AP.out v' w3 hown' hgrow hloc;clear hown' hgrow hloc)
 all_goals
  go_wp2_with fail
 all_goals
  obtain ⟨m1,m2,m3,m4,m5⟩:=HN.out _ (by first | exact Or.inl rfl | exact Or.inr rfl)
  have M2:Hid (_∧_):=⟨m2,m5⟩;refine Calls.mono (yd2 w.heap.size B b D _ _ _ m1 HL.out m4 m3) ?_;rintro e w5 ⟨rfl,s1,s2⟩;have M5:Hid (_∧_):=⟨s1,s2⟩;clear m1 m2 m3 m4 m5 s1 s2 HN;go_wp2_with fail;go_ret;have t1:=hT2.out.trans M2.out.1;refine ⟨rfl,_,_,M5.out.1,HQ2.out,t1.new M5.out.2 fun k hk hv=>?_,fun q hq=>?_,?_⟩
  ·rcases M2.out.2 k hv with h | h
   ·exact Or.inr h
   ·omega
  ·rcases List.mem_append.1 (yed hq) with h | h
   ·exact Or.inl h
   ·rw[List.mem_singleton.1 h];exact Or.inr (by show w.heap.size≤w2.heap.size;omega)
  ·rw[yee,List.length_append];exact Nat.le_refl _
end Fi
open Go.RowKit
namespace Jn
abbrev jN:ByteArray:=⟨#[106,111,117,114,110,97,108]⟩
def HasJ (Q:List (Nat×ByteArray)):Prop:=(Fi.ycl (Q.map (·.2)) jN).2=true
def FO (b:Nat) (v:Value) (Q:List (Nat×ByteArray)) (k:Nat):Prop:=k=b∨v.ownBlock=some k∨∃ q∈Q,k=q.1
theorem FsAt.other {w:World} {B b D k:Nat} {v:Value} {Q:List (Nat×ByteArray)} {c:Array Value} {t:TypeId} {fr:Nat×Nat} (h:Fi.FsAt w B b D v Q) (hk:w.heap[k]?=some (.cells c t fr)) (h1:t≠42) (h2:t≠48) (h3:t≠46):¬ FO b v Q k:=by
 rintro (rfl | e | ⟨q,hq,rfl⟩)
 ·obtain ⟨n,hn⟩:=h.bk;rw[hn] at hk;cases hk;exact h1 rfl
 ·exact Fi.zf9 h.row hk h3 e
 ·obtain ⟨d,x,hf,_⟩:=h.fl q hq;rw[hf] at hk;cases hk;exact h2 rfl
theorem FsAt.away {w w':World} {B b D:Nat} {v:Value} {Q:List (Nat×ByteArray)} {T:Nat→Prop} (h:Fi.FsAt w B b D v Q) (t:Tch T w w') (hT:∀ k,T k→¬ FO b v Q k):Fi.FsAt w' B b D v Q:=by
 obtain ⟨n,hn⟩:=h.bk;refine ⟨⟨n,(t.block b (lt_of_block hn) fun h=>hT _ h (Or.inl rfl)).trans hn⟩,qah h.row t (fun k hk e=>hT _ e (Or.inr (Or.inl hk))),fun q hq=>?_,h.n,h.lo⟩
 obtain ⟨d,x,hf,hd⟩:=h.fl q hq;exact ⟨d,x,(t.block q.1 (lt_of_block hf) fun h=>hT _ h (Or.inr (Or.inr ⟨q,hq,rfl⟩))).trans hf,hd⟩
theorem FsAt.lt {w:World} {B b D:Nat} {v:Value} {Q:List (Nat×ByteArray)} (h:Fi.FsAt w B b D v Q) {k:Nat} (hk:FO b v Q k):B≤k∧k < w.heap.size:=by
 rcases hk with rfl | e | ⟨q,hq,rfl⟩
 ·obtain ⟨n,hn⟩:=h.bk;exact ⟨h.lo.1,lt_of_block hn⟩
 ·exact h.row.lt _ e
 ·obtain ⟨d,x,hf,_⟩:=h.fl q hq;exact ⟨h.lo.2 q hq,lt_of_block hf⟩
theorem zvx (B b D:Nat) (v:Value) (Q:List (Nat×ByteArray)) (d:ByteArray) (w:World) (h:Fi.FsAt w B b D v Q) (hj:HasJ Q) (hD:D+d.size≤1000000000000):Calls Tryz.prog 86 #[.pointer (some ⟨b,0,none⟩),.string d] w (Fi.ydp B b D d.size v Q true w):=by
 have HA:Hid (_):=Fi.ycx B b D v Q jN d w h hD true hj;have HS:Hid (∀ w1,Fi.FsAt w1 B b (D+d.size) v Q→_):=fun w1 h1=>Fi.ydt B b (D+d.size) v Q jN w1 h1 true hj
 clear h;go_enter Tryz.func86,Tryz.ntmps86
 go_wp2_with fail;refine Calls.mono HA.out ?_;rintro e w1 ⟨rfl,h1,t1⟩;have H1:Hid (_∧_):=⟨h1,t1⟩;clear HA h1 t1;go_wp2_with fail;refine Calls.mono (HS.out w1 H1.out.1) ?_;rintro e w2 ⟨rfl,h2,t2⟩;have H2:Hid (_∧_):=⟨h2,H1.out.2.trans t2⟩;clear HS h2 t2;go_wp2_with fail;go_ret;exact ⟨rfl,H2.out.1,H2.out.2⟩
theorem yd3 (er st f t:Addr) (u:FrameMode) (w:World) (h:w.cell? er=some .nilIface):CallsD Tryz.prog 85 #[.pointer (some er),.pointer (some st),.pointer (some f),.pointer (some t)] u w fun e u' w'=>u'=u∧(e=.returned (.tuple #[])∧Below w.heap.size w w'):=by
 go_enter_d Tryz.func85,Tryz.ntmps85
 go_wp2_with fail;go_end0
 exact ⟨rfl,Below.refl _ _⟩
def yfh (B b D n:Nat) (v:Value) (Q:List (Nat×ByteArray)) (w:World) (e:Ending) (w':World):Prop:=e=.returned .nilIface∧∃ v' Q',Fi.FsAt w' B b (D+n) v' Q'∧HasJ Q'∧Tch (FO b v Q) w w'
theorem zjt (B b D:Nat) (v:Value) (Q:List (Nat×ByteArray)) (d:ByteArray) (w:World) (h:Fi.FsAt w B b D v Q) (hB:B≤w.heap.size) (hj:HasJ Q) (hD:D+d.size≤1000000000000):Calls Tryz.prog 42 #[.pointer (some ⟨b,0,none⟩),.string d] w (yfh B b D d.size v Q w):=by
 have hmf:∀ (fn:Fn) (first cap:Array Value) (w:World),(Instr.makeFunc fn first cap).run Tryz.prog w=.ok (.func fn first cap) w:=fun _ _ _ _=>rfl
 have H:Hid (Fi.FsAt w B b D v Q):=h;have HR:Hid (∀ w1,Below w.heap.size w w1→_):=fun w1 h1=>Fi.qj0 B b D v Q jN w1 (h.below h1)
 have HC:Hid (∀ w1,Below w.heap.size w w1→_):=fun w1 h1=>Fi.yc7 B b D v Q jN w1 (h.below h1) (Nat.le_trans hB h1.size) hj
 have HW:Hid (∀ v' Q' w1,Fi.FsAt w1 B b D v' Q'→HasJ Q'→_):=fun v' Q' w1 h1 h2=>zvx B b D v' Q' d w1 h1 h2 hD
 have hbl:b < w.heap.size:=by obtain ⟨n,hn⟩:=h.bk;exact lt_of_block hn
 have HZ:Hid ((∀ k,v.ownBlock=some k→k < w.heap.size)∧∀ q∈Q,q.1 < w.heap.size):=⟨fun k hk=>(h.row.lt k hk).2,fun q hq=>by obtain ⟨d,x,hf,_⟩:=h.fl q hq;exact lt_of_block hf⟩
 clear h;have hb0:Below w.heap.size w ((w.alloc (.cells #[.pointer (some ⟨b,0,none⟩)] 23)).alloc (.cells #[.nilIface] 55)):=((Below.refl _ _).alloc (Nat.le_refl _) _).alloc (by simp) _
 have HB0:Hid (_):=hb0;clear hb0;go_enter_defers Tryz.func42,Tryz.ntmps42
 go_wp2_with fail;refine Calls.mono (HR.out _ HB0.out) ?_;rintro e w1 ⟨⟨d',ok',hd',rfl⟩,hb1⟩;have B1:Hid (Below w.heap.size w w1):=HB0.out.trans (hb1.mono HB0.out.size);have hz1:w.heap.size+2≤w1.heap.size:=by have:=hb1.size;simp at this;omega
 have cF:w1.cell? ⟨w.heap.size,0,none⟩=some (.pointer (some ⟨b,0,none⟩)):=by
  rw[hb1.cell (p:=⟨w.heap.size,0,none⟩) (by show w.heap.size < ((w.heap.push _).push _).size;simp only[Array.size_push];omega),World.cell?_alloc_lt _ _ ⟨w.heap.size,0,none⟩ (by show w.heap.size < (w.heap.push _).size;simp only[Array.size_push];omega)]
  simp
 have cE:w1.heap[w.heap.size+1]?=some (.cells #[.nilIface] 55):=by
  rw[hb1.block (w.heap.size+1) (by show w.heap.size+1 < ((w.heap.push _).push _).size;simp only[Array.size_push];omega)]
  show ((w.heap.push _).push _)[w.heap.size+1]?=_
  rw[Ref.qdu]
 have hb2:Below w1.heap.size w1 ((w1.alloc (.cells #[.string d'] 9)).alloc (.cells #[.bool ok'] 4)):=((Below.refl _ _).alloc (Nat.le_refl _) _).alloc (by simp) _
 have cF2:=(hb2.cell (p:=⟨w.heap.size,0,none⟩) (by show w.heap.size < w1.heap.size;omega)).trans cF
 have cE2:=(hb2.block (w.heap.size+1) (by omega)).trans cE
 have B2:Hid (Below w.heap.size w ((w1.alloc (.cells #[.string d'] 9)).alloc (.cells #[.bool ok'] 4))):=B1.out.trans (hb2.mono B1.out.size);clear hb1 HR HB0 cF cE B1 hb2;go_wp2_with fail;refine Calls.mono (HC.out _ B2.out) ?_;generalize ((w1.alloc (.cells #[.string d'] 9)).alloc (.cells #[.bool ok'] 4))=W at *;rintro e w2 ⟨rfl,v',Q',f2,j2,t2,q2,_⟩;have hWz:=B2.out.size;have hn:∀ k,w.heap.size≤k→¬ (k=b∨v.ownBlock=some k):=fun k hk h=>by
  rcases h with h | h
  ·omega
  ·have:=HZ.out.1 _ h;omega
 have cF3:w2.cell? ⟨w.heap.size,0,none⟩=some (.pointer (some ⟨b,0,none⟩)):=(World.cell?_of_block (w:=W) (a:=⟨w.heap.size,0,none⟩) (t2.block _ (lt_of_cell cF2) (hn _ (Nat.le_refl _)))).trans cF2;have cE3:=(t2.block _ (lt_of_block cE2) (hn _ (by omega))).trans cE2
 have H2:Hid (Fi.FsAt w2 B b D v' Q'∧HasJ Q'∧Tch (FO b v Q) w w2∧∀ q∈Q',q∈Q∨W.heap.size≤q.1):=⟨f2,j2,(((Tch.refl (fun _=>False) w).below B2.out).mono fun _ _ h=>h.elim).trans (t2.mono fun k _ hk=>hk.elim Or.inl fun h=>Or.inr (Or.inl h)),q2⟩
 have hWl:w.heap.size+1 < W.heap.size:=lt_of_block cE2;clear f2 j2 t2 q2 cF2 cE2 HC hn;go_wp2_with fail;refine Calls.mono (HW.out v' Q' w2 H2.out.1 H2.out.2.1) ?_;rintro e w3 ⟨rfl,f3,t3⟩;have hq3:∀ k,w.heap.size≤k→k < W.heap.size→¬ Fi.FT b Q' k:=by
  rintro k h1 h2 (h | ⟨q,hq,h⟩)
  ·omega
  ·rcases H2.out.2.2.2 q hq with h3 | h3
   ·have:=HZ.out.2 q h3;omega
   ·omega
 have cE4:=(t3.block _ (lt_of_block cE3) (hq3 _ (by omega) (by omega))).trans cE3
 have cE5:w3.cell? ⟨w.heap.size+1,0,none⟩=some .nilIface:=by simp[World.cell?,cE4]
 have cE6:w3.frozen? ⟨w.heap.size+1,0,none⟩=false:=by simp[World.frozen?,cE4]
 have H3:Hid (Fi.FsAt w3 B b (D+d.size) v' Q'∧HasJ Q'∧Tch (FO b v Q) w w3):=⟨f3,H2.out.2.1,H2.out.2.2.1.new t3 fun k hk h=>by
  rcases h with h | ⟨q,hq,h⟩
  ·exact Or.inl h
  ·rcases H2.out.2.2.2 q hq with h3 | h3
   ·exact Or.inr (Or.inr ⟨q,h3,h⟩)
   ·omega⟩
 have HO:Hid (¬ FO b v' Q' (w.heap.size+1)):=FsAt.other H3.out.1 cE4 (by decide) (by decide) (by decide)
 clear f3 t3 hq3 cE3 cF3 HW H2 cE4;go_wp2_with fail;have cE7:(w3.setCell ⟨w.heap.size+1,0,none⟩ .nilIface).cell? ⟨w.heap.size+1,0,none⟩=some .nilIface:=World.cell?_setCell_same' w3 _ _ (by rw[cE5]<;>rfl)
 refine leaves_cons (f:=85) (args:=#[.pointer (some ⟨w.heap.size+1,0,none⟩),.pointer (some ⟨w1.heap.size+1,0,none⟩),.pointer (some ⟨w.heap.size,0,none⟩),.pointer (some ⟨w1.heap.size,0,none⟩)]) (by simp) (by simp[go_sem]) ?_
 refine (yd3 _ _ _ _ _ _ cE7).mono ?_;rintro e u' w4 ⟨rfl,rfl,hb4⟩;have cE8:=(hb4.cell (p:=⟨w.heap.size+1,0,none⟩) (lt_of_cell cE7)).trans cE7;have hts:Tch (·=w.heap.size+1) w3 (w3.setCell ⟨w.heap.size+1,0,none⟩ .nilIface):=(Tch.refl (·=w.heap.size+1) w3).setCell (p:=⟨w.heap.size+1,0,none⟩) (Or.inl rfl) _
 have T:Hid (yfh B b D d.size v Q w (.returned .nilIface) w4):=⟨rfl,v',Q',(FsAt.away H3.out.1 hts fun k hk=>by rw[hk];exact HO.out).below hb4,H3.out.2.1,(H3.out.2.2.new hts fun k hk h=>absurd h (by omega)).trans (((Tch.refl (fun _=>False) _).below hb4).mono fun _ _ h=>h.elim)⟩
 clear hb4 hts cE7;simp[Leaves,settle,results,Tryz.results42,go_sem,cE8];exact T.out
open Go.RowKit Go.Extern.Stop Go.Stop Go.Extern
open Lg
theorem noAsJ (v:Value) (xT:TypeId) (w:World):(Instr.typeAssert (.iface 98 v) xT 230 true).run Tryz.prog w=.ok (.tuple #[.nilIface,.bool false]) w:=run_typeAssert_lacksB Tryz.underlying230 (by kernel_rfl) (by kernel_rfl) v xT w
theorem yfi (v:Value) (w:World):(ReflectliteType.typeOf #[.iface 98 v]).run Tryz.prog w=.ok (.iface 147 (.agg #[.pointer (some ⟨21,98,none⟩)])) w:=by kernel_rfl
theorem ydn (w:World):(ReflectliteType.relation "AssignableTo" ReflectliteType.assignableTo #[.agg #[.pointer (some ⟨21,98,none⟩)],.iface 147 (.agg #[.pointer (some ⟨21,93,none⟩)])]).run Tryz.prog w=.ok (.bool false) w:=by kernel_rfl
theorem yfy (f:Nat) (e t:Addr) (w:World) (hg:w.cell? ⟨10,0,none⟩=some (.iface 147 (.agg #[.pointer (some ⟨21,55,none⟩)]))) (hc:w.cell? ⟨f,1,none⟩=some (.iface 359 (.pointer (some e)))) :
  Calls Tryz.prog 37 #[.iface 98 (.pointer (some ⟨f,0,none⟩)),.iface 95 (.pointer (some t))] w fun ev w'=>ev=.returned (.bool false)∧w'=(((w.alloc (.cells #[.pointer (some t)] 95)).alloc (asV w)).alloc (asV w)):=by
 have h6:=yh6;have h7:=yh7;have h8:=yh8;have h27:=yh27;have h37:=yh37;have h38:=yh38;have h10:=yh10;have h35:=yh35;have tO:=qlt;have mA:=qg8;have aE:=qyt;have f6:=quz;have f7:=zpu;have mK:=qrf;have mE:=qrg;have mI:=qir;have k27:=zqj;have k25:=zqk;have e27:=zqt;have i25:=qps;have nE:=ych;have uE:=qli;have vE:=qj3;have tW:=yfi;have aW:=ydn;have nW:=noAsJ;have uW:=yct;have mU:=ycq;have hcl:f < w.heap.size:=lt_of_cell hc;have hc2:(((w.alloc (.cells #[.pointer (some t)] 95)).alloc (asV w)).alloc (asV w)).cell? ⟨f,1,none⟩=some (.iface 359 (.pointer (some e))):=by
  rw[World.cell?_alloc_lt _ _ ⟨f,1,none⟩ (by simp;omega),World.cell?_alloc_lt _ _ ⟨f,1,none⟩ (by simp;omega),World.cell?_alloc_lt _ _ ⟨f,1,none⟩ hcl];exact hc
 have n8:=zh5 ⟨w.heap.size,0,none⟩ t ((w.alloc (.cells #[.pointer (some t)] 95)).alloc (asV w)) (by simp[asV])
 have hlt:10 < w.heap.size:=by
  rcases Nat.lt_or_ge 10 w.heap.size with h | h
  ·exact h
  ·have:w.heap[10]?=none:=by simp[h]
   simp[World.cell?,this] at hg
 have hg2:((w.alloc (.cells #[.pointer (some t)] 95)).alloc (asV w)).cell? ⟨10,0,none⟩=some (.iface 147 (.agg #[.pointer (some ⟨21,55,none⟩)])):=by
  rw[World.cell?_alloc_lt _ _ ⟨10,0,none⟩ (by simp;omega),World.cell?_alloc_lt _ _ ⟨10,0,none⟩ hlt];exact hg
 unfold asV at *;go_enter Tryz.func37,Tryz.ntmps37
 go_wp2;refine wp_loop_rounds 2 ?_;rw[rounds_succ];go_wp2;rw[rounds_succ];go_wp2;go_ret;exact ⟨rfl,rfl⟩
theorem FJ.cell {w:World} {f:Nat} {ev:Value} (h:FJ w f ev):w.cell? ⟨f,1,none⟩=some ev:=by
 obtain ⟨s,hs⟩:=h;simp[World.cell?,hs]
theorem ye2 {w:World} {E:Nat→Addr} (h:Snt w E) {f:Nat} (hf:FJ w f (.iface 359 (.pointer (some (E 9))))) {i:Nat} (hi:1≤i∧i≤8) :
  Calls Tryz.prog 40 #[.iface 98 (.pointer (some ⟨f,0,none⟩)),.iface 359 (.pointer (some (E i)))] w fun e w'=>e=.returned (.bool false)∧w'=w:=by
 obtain ⟨ca,ta,ha⟩:=h.blk 9 (by decide) (by decide)
 obtain ⟨cb,tb,hb⟩:=h.blk i hi.1 (by omega)
 exact ydg f _ _ _ _ _ _ w hf.cell (h.ne 9 i (by decide) (by decide) hi.1 (by omega) (by omega)) ha hb
theorem ycv (E:Nat→Addr) (f:Nat) (w:World) (h:Snt w E) (hf:FJ w f (.iface 359 (.pointer (some (E 9))))):Calls Tryz.prog 28 #[.iface 98 (.pointer (some ⟨f,0,none⟩))] w fun r w'=>r=.returned (.int .i64 10)∧w'=w:=by
 have v1:=h.v1;have v3:=h.v3;have v4:=h.v4;have v5:=h.v5;have v6:=h.v6;have v7:=h.v7;have v8:=h.v8;have v9:=h.v9;have H:Hid (Snt w E∧FJ w f (.iface 359 (.pointer (some (E 9))))):=⟨h,hf⟩;clear h hf;go_enter Tryz.func28,Tryz.ntmps28
 repeat (go_wp2_with fail;refine (ye2 H.out.1 H.out.2 (by omega)).mono ?_;rintro r w' ⟨rfl,rfl⟩)
 go_wp2_with fail;refine (ydy f (E 9) _ H.out.2.cell).mono ?_;rintro r w' ⟨rfl,rfl⟩;go_wp2_with fail;go_ret;exact ⟨rfl,rfl⟩
theorem yd8 (E:Nat→Addr) (f:Nat) (w:World) (h:Snt w E) (hf:FJ w f (.iface 359 (.pointer (some (E 9))))):Calls Tryz.prog 19 #[.iface 98 (.pointer (some ⟨f,0,none⟩))] w fun r w'=>r=.returned (.tuple #[.int .i64 10,.int .i64 0])∧Below w.heap.size w w':=by
 have H:Hid (Snt w E∧FJ w f (.iface 359 (.pointer (some (E 9))))):=⟨h,hf⟩;have hb:Hid (Below w.heap.size w (w.alloc (.cells #[.pointer none] 93))):=(Below.refl _ _).alloc (Nat.le_refl _) _;clear h hf;go_enter Tryz.func19,Tryz.ntmps19
 go_wp2_with fail;refine (yfy f (E 9) _ _ (H.out.1.below hb.out).et (H.out.2.below hb.out).cell).mono ?_;rintro r w' ⟨rfl,rfl⟩;have hb2:Hid (Below w.heap.size w ((((w.alloc (.cells #[.pointer none] 93)).alloc (.cells #[.pointer (some ⟨w.heap.size,0,none⟩)] 95)).alloc (asV (w.alloc (.cells #[.pointer none] 93)))).alloc (asV (w.alloc (.cells #[.pointer none] 93))))) :=
  (((hb.out.alloc (by simp) _).alloc (by simp;omega) _).alloc (by simp;omega) _)
 go_wp2_with fail;refine (ycv E f _ (H.out.1.below hb2.out) (H.out.2.below hb2.out)).mono ?_;rintro r w' ⟨rfl,rfl⟩;go_wp2_with fail;go_ret2;exact ⟨rfl,hb2.out⟩
open Go.RowKit
def jObj (b:Nat) (sz:Int) (vs:Value) (wd:ByteArray) (ar tr:Int) (un:Bool):Obj:=.cells #[.pointer (some ⟨b,0,none⟩),.int .i64 sz,vs,.string wd,.int .i64 ar,.int .i64 tr,.bool un] 109
def OpenAt (B b D:Nat) (v:Value) (Q:List (Nat×ByteArray)) (w w':World) (jl:Nat) (L:List Int):Prop :=
 w.heap.size≤jl∧(∃ sz vs,w'.heap[jl]?=some (jObj b sz vs ⟨#[]⟩ 0 0 false)∧w'.ownsRow w.heap.size 3 1 vs L.length (iC L))∧L.length≤10000000∧(∀ x∈L,B64 x)∧∃ v' Q',Fi.FsAt w' B b D v' Q'∧HasJ Q'∧Tch (FO b v Q) w w'
def yfa (E:Nat→Addr) (B b D:Nat) (v:Value) (Q:List (Nat×ByteArray)) (w:World) (e:Ending) (w':World):Prop :=
 (∃ f,e=.returned (.tuple #[.pointer none,.iface 98 (.pointer (some ⟨f,0,none⟩))])∧Below w.heap.size w w'∧FJ w' f (.iface 359 (.pointer (some (E 9))))) ∨
 ∃ jl L,e=.returned (.tuple #[.pointer (some ⟨jl,0,none⟩),.nilIface])∧OpenAt B b (D+1000) v Q w w' jl L
theorem FsAt.up {w:World} {B b D D':Nat} {v:Value} {Q:List (Nat×ByteArray)} (h:Fi.FsAt w B b D v Q) (hD:D≤D'):Fi.FsAt w B b D' v Q:=by
 refine ⟨h.bk,h.row,fun q hq=>?_,h.n,h.lo⟩
 obtain ⟨d,x,hf,hd⟩:=h.fl q hq;exact ⟨d,x,hf,Nat.le_trans hd hD⟩
theorem ydu {B b D:Nat} {v vs:Value} {Q:List (Nat×ByteArray)} {w w2:World} {L:List Int} (sz:Int) (h:∃ v' Q',Fi.FsAt w2 B b D v' Q'∧HasJ Q'∧Tch (FO b v Q) w w2) (hx:w2.ownsRow w.heap.size 3 1 vs L.length (iC L)) (hl:L.length≤10000000) (hb:∀ x∈L,B64 x) :
  ∀ w3,(w3=w2.alloc (jObj b sz vs ⟨#[]⟩ 0 0 false)∨w3=(w2.alloc (jObj b sz vs ⟨#[]⟩ 0 0 false)).drew)→OpenAt B b D v Q w w3 w2.heap.size L:=by
 intro w3 hw3;obtain ⟨v',Q',f1,f2,f3⟩:=h;have hb3:Below w2.heap.size w2 w3:=by
  rcases hw3 with rfl | rfl
  ·exact (Below.refl _ _).alloc (Nat.le_refl _) _
  ·exact ((Below.refl _ _).alloc (Nat.le_refl _) _).drew
 have hT:Tch (fun _=>False) w2 w3:=(Tch.refl _ _).below hb3
 have hn:w3.heap[w2.heap.size]?=some (jObj b sz vs ⟨#[]⟩ 0 0 false):=by
  rcases hw3 with rfl | rfl<;>exact ycy
 exact ⟨f3.size,⟨sz,vs,hn,qah hx hT fun _ _ h=>h⟩,hl,hb,v',Q',f1.below hb3,f2,f3.trans (hT.mono fun _ _ h=>h.elim)⟩
theorem qz7 (E:Nat→Addr) (B b D:Nat) (v:Value) (Q:List (Nat×ByteArray)) (s:ByteArray) (w:World) (h:Fi.FsAt w B b D v Q) (hB:B≤w.heap.size) (hj:HasJ Q) (hs:s.size≤300) (hD:D≤10000000) (g:Je w E) :
  Calls Tryz.prog 20 #[.pointer (some ⟨b,0,none⟩),.string s] w (yfa E B b D v Q w):=by
 have H:Hid (Fi.FsAt w B b D v Q∧Je w E):=⟨h,g⟩;have HR:Hid (_):=Fi.qj0 B b D v Q jN w h;have HD:Hid (∀ l:List UInt8,l.length≤D→∀ w1,Below w.heap.size w w1→_):=fun l hl w1 h1=>qj0 E l s w1 (by omega) (by omega) (g.below h1)
 have HH:Hid (∀ w1,_):=fun w1=>yc2 s w1 (by omega)
 have HG:Hid (∀ (d:ByteArray) w1,d.size≤1000→Below w.heap.size w w1→_):=fun d w1 hd h1=>zjt B b D v Q d w1 (h.below h1) (Nat.le_trans hB h1.size) hj (by omega)
 clear h g;go_enter Tryz.func20,Tryz.ntmps20
 go_wp2_with fail;refine Calls.mono HR.out ?_;rintro e w1 ⟨⟨d,ok,hd,rfl⟩,hb1⟩;obtain ⟨l,rfl⟩:∃ l:List UInt8,d=⟨l.toArray⟩:=⟨d.data.toList,by cases d;simp⟩
 have HC2:Hid (_):=HD.out l (by simpa [ByteArray.size] using hd) w1 hb1
 have B1:Hid (_):=hb1;generalize hS:(⟨l.toArray⟩:ByteArray)=S at *;clear HR HD hb1;go_wp2_with fail;refine Calls.mono HC2.out ?_;rintro e w2 ⟨hb2,hcase⟩;have B2:Hid (Below w.heap.size w w2):=B1.out.trans (hb2.mono B1.out.size);have ct:=(H.out.2.below B2.out).t;have hlD:l.length≤D:=by simpa [← hS,ByteArray.size] using hd
 rcases hcase with ⟨va,xs,rfl,hx1,hx2,hx3⟩ | ⟨f,rfl,hbad⟩
 ·obtain ⟨a1,n1,k1,rfl⟩:=Ref.qad hx1;have HX:Hid (_):=ydu (B:=B) (b:=b) (D:=D+1000) (v:=v) (Q:=Q) (w:=w) (S.size:Int) ⟨v,Q,(FsAt.up H.out.1 (by omega)).below B2.out,hj,((Tch.refl (fun _=>False) w).below B2.out).mono fun _ _ h=>h.elim⟩ (ydk hx1 B1.out.size) (by omega) hx3
  unfold jObj at HX;clear hx1 hx2 hx3 hb2 HC2 HH HG;go_wp2_with fail;refine Calls.mono (yff _ _) ?_;rintro e w3 ⟨rfl,rfl⟩;go_wp2_with fail
  all_goals (try go_region)
  all_goals (try go_wp2_with fail)
  all_goals
   go_ret2;exact Or.inr ⟨_,_,rfl,HX.out _ (by first | exact Or.inl rfl | exact Or.inr rfl)⟩
 ·rcases hbad with ⟨g,hf1,hf2⟩ | hf
  ·have HI:Hid (_):=ye4 f g (E 10) w2 hf1.cell hf2.cell;clear hb2 HC2 hf1 hf2;go_wp2_with fail;refine Calls.mono HI.out ?_;rintro e w3 ⟨rfl,rfl⟩;go_wp2_with fail;refine Calls.mono (HH.out _) ?_;rintro e w4 ⟨hb4,hh,hhl,rfl⟩;have B4:Hid (Below w.heap.size w w4):=B2.out.trans (hb4.mono B2.out.size);have HG4:Hid (_):=HG.out ⟨hh.toArray⟩ w4 (by show hh.toArray.size≤1000;rw[List.size_toArray];omega) B4.out
   have hhz:(⟨hh.toArray⟩:ByteArray).size≤1000:=by show hh.toArray.size≤1000;rw[List.size_toArray];omega
   generalize (⟨hh.toArray⟩:ByteArray)=hd4 at *;clear hb4 HH HG HI;go_wp2_with fail;refine Calls.mono HG4.out ?_;rintro e w5 ⟨rfl,v',Q',f5,j5,t5⟩;have HX:Hid (_):=ydu (B:=B) (b:=b) (D:=D+1000) (v:=v) (Q:=Q) (w:=w) (L:=[]) (vs:=.slice none 0 0) (hd4.size:Int) ⟨v',Q',FsAt.up f5 (by omega),j5,(((Tch.refl (fun _=>False) w).below B4.out).mono fun _ _ h=>h.elim).trans t5⟩ (World.ownsRow_nil _ _ _ _) (by simp) (fun x hx=>by cases hx)
   unfold jObj at HX;clear f5 j5 t5 HG4;go_wp2_with fail
   all_goals (try go_region)
   all_goals (try go_wp2_with fail)
   all_goals
    go_ret2;exact Or.inr ⟨_,_,rfl,HX.out _ (by first | exact Or.inl rfl | exact Or.inr rfl)⟩
  ·obtain ⟨ca,ta,ha⟩:=(H.out.2.below B2.out).s.blk 9 (by decide) (by decide)
   obtain ⟨cb,tb,hbb⟩:=(H.out.2.below B2.out).b;have HI:Hid (_):=ydg f (E 10) (E 9) _ _ _ _ w2 hf.cell ((H.out.2.ne 9 (by decide) (by decide))) ha hbb
   have HF:Hid (_):=hf;clear hb2 HC2 hf ha hbb HH HG;go_wp2_with fail;refine Calls.mono HI.out ?_;rintro e w3 ⟨rfl,rfl⟩;go_wp2_with fail
   all_goals (try go_region)
   all_goals (try go_wp2_with fail)
   all_goals
    go_ret2
    first
     | exact Or.inl ⟨f,rfl,B2.out,HF.out⟩
     | exact Or.inl ⟨f,rfl,B2.out.drew,FJ.below HF.out (Below.refl _ _).drew⟩
open Go.RowKit
theorem yeh (S Q:ByteArray) (w:World) (h:S.size < Q.size):Calls Tryz.prog 141 #[.string S,.string Q] w fun e w'=>e=.returned (.bool false)∧w'=w:=by
 have hi2:¬ (Q.size:Int)≤(S.size:Int):=by omega
 go_enter Tryz.func141,Tryz.ntmps141
 go_wp2_with fail;go_ret;exact ⟨rfl,rfl⟩
theorem yd0 (S Q:ByteArray) (w:World) (h:S.size < Q.size):Calls Tryz.prog 173 #[.string S,.string Q] w fun e w'=>e=.returned (.string S)∧w'=w:=by
 have HP:Hid (_):=yeh S Q w h;go_enter Tryz.func173,Tryz.ntmps173
 go_wp2_with fail;refine Calls.mono HP.out ?_;rintro e w1 ⟨rfl,rfl⟩;go_wp2_with fail;go_ret;exact ⟨rfl,rfl⟩
def ye9 (n:Nat) (w:World) (e:Ending) (w':World):Prop:=(∃ r:ByteArray,r.size≤n∧e=.returned (.string r))∧w'=w
theorem yd1 (S Q:ByteArray) (w:World) (h:S.size≤1000):Calls Tryz.prog 130 #[.string S,.string Q] w (ye9 S.size w):=by
 by_cases hq:S.size < Q.size
 ·have HP:Hid (_):=yd0 S Q w hq;go_enter Tryz.func130,Tryz.ntmps130
  go_wp2_with fail;refine Calls.mono HP.out ?_;rintro e w1 ⟨rfl,rfl⟩;go_wp2_with fail;go_ret;exact ⟨⟨S,Nat.le_refl _,rfl⟩,rfl⟩
 ·have e1:(⟨S.data.toList.toArray⟩:ByteArray)=S:=by cases S;simp
  have e2:(⟨Q.data.toList.toArray⟩:ByteArray)=Q:=by cases Q;simp
  have hS:S.data.toList.length=S.size:=Array.length_toList;have hQ:Q.data.toList.length=Q.size:=Array.length_toList
  have:=ydr S.data.toList Q.data.toList w (by unfold maxLen;omega) (by omega)
  rw[e1,e2] at this;refine this.mono ?_;rintro e w1 ⟨⟨r,hr,rfl⟩,rfl⟩;exact ⟨⟨⟨r.toArray⟩,by rw[← hS];show r.toArray.size≤_;rw[List.size_toArray];exact hr,rfl⟩,rfl⟩
def mx (x y:Int):Int:=if y > x then y else x
theorem max4 (ts:Array TypeId) (t:TypeId) (a b c d:Int) (w:World):(Builtin.max_ ts t #[.int .i64 a,.int .i64 b,.int .i64 c,.int .i64 d]).run Tryz.prog w=.ok (.int .i64 (mx (mx (mx a b) c) d)) w:=by
 simp[Builtin.max_,Builtin.max2,mx]
theorem yfo {n:Nat} {i j k:Int} (hi:AtOr n i) (hj:AtOr n j) (hk:AtOr n k):0≤mx (mx (mx 0 i) j) k∧mx (mx (mx 0 i) j) k≤(n:Int):=by
 have q:∀ x y:Int,0≤x→x≤(n:Int)→AtOr n y→0≤mx x y∧mx x y≤(n:Int):=by
  intro x y h1 h2 h3;have h4:y≤(n:Int):=by
   rcases h3 with rfl | ⟨k,hk,rfl⟩
   ·omega
   ·omega
  unfold mx;split
  ·omega
  ·omega
 have q1:=q 0 i (by omega) (by omega) hi
 have q2:=q _ j q1.1 q1.2 hj;exact q _ k q2.1 q2.2 hk
theorem ye1 (S Q:ByteArray) (w:World) (h:S.size≤1000) (hq:Q.size≤100000000000):Calls Tryz.prog 52 #[.string S,.string Q] w fun e w'=>(∃ r:ByteArray,r.size≤S.size∧e=.returned (.string r))∧Below w.heap.size w w':=by
 have H1:Hid (∀ c w1,_):=fun c w1=>ydw Q c w1 (by unfold maxLen;omega)
 have HT:Hid (∀ Q' w1,_):=fun Q' w1=>yd1 S Q' w1 h
 go_enter Tryz.func52,Tryz.ntmps52
 go_wp2_with fail;refine Calls.mono (H1.out _ _) ?_;rintro e w1 ⟨⟨i1,hi1,rfl⟩,rfl⟩;go_wp2_with fail;refine Calls.mono (H1.out _ _) ?_;rintro e w1 ⟨⟨i2,hi2,rfl⟩,rfl⟩;go_wp2_with fail;refine Calls.mono (H1.out _ _) ?_;rintro e w1 ⟨⟨i3,hi3,rfl⟩,rfl⟩;have hmx:=max4 #[3,3,3,3] 3 0 i1 i2 i3 w1;obtain ⟨hm1,hm2⟩:=yfo hi1 hi2 hi3;generalize mx (mx (mx 0 i1) i2) i3=M at *;obtain ⟨m,rfl⟩:∃ m:Nat,M=(m:Int):=⟨M.toNat,by omega⟩
 have hm3:m≤Q.size:=by omega
 clear hi1 hi2 hi3 H1;go_wp2_with fail;refine Calls.mono (HT.out _ _) ?_;rintro e w2 ⟨⟨r,hr,rfl⟩,rfl⟩;go_wp2_with fail;go_ret;exact ⟨⟨r,hr,rfl⟩,Below.refl _ _⟩
end Jn
open Go.RowKit
namespace Fi
theorem zs8 (w:World):Calls Tryz.prog 4 #[.int .i64 0] w fun e w'=>e=.returned (.pointer (some ⟨w.heap.size,0,none⟩))∧FsAt w' w.heap.size w.heap.size 0 (.slice none 0 0) []∧Below w.heap.size w w':=by
 have H:Hid (∀ w',Below (w.alloc (.cells #[.slice none 0 0,.int .i64 0,.int .i64 0,.int .i64 (-1),.bool false] 42)).heap.size (w.alloc (.cells #[.slice none 0 0,.int .i64 0,.int .i64 0,.int .i64 (-1),.bool false] 42)) w'→FsAt w' w.heap.size w.heap.size 0 (.slice none 0 0) []∧Below w.heap.size w w'):=by
  intro w' hb;have h0:FsAt (w.alloc (.cells #[.slice none 0 0,.int .i64 0,.int .i64 0,.int .i64 (-1),.bool false] 42)) w.heap.size w.heap.size 0 (.slice none 0 0) []:=by
   refine ⟨⟨0,?_⟩,World.ownsRow_nil _ _ _ _,(fun q hq=>by cases hq),by simp,Nat.le_refl _,fun q hq=>by cases hq⟩
   show (w.heap.push _)[w.heap.size]?=_
   rw[Array.getElem?_push,if_pos rfl]
  exact ⟨h0.below hb,((Below.refl w.heap.size w).alloc (Nat.le_refl _) _).trans (hb.mono (by simp))⟩
 go_enter Tryz.func4,Tryz.ntmps4
 go_wp2_with fail
 all_goals (try go_region)
 all_goals (try go_wp2_with fail)
 all_goals
  go_ret;exact ⟨rfl,H.out _ (by first | exact Below.refl _ _ | exact (Below.refl _ _).drew)⟩
end Fi
end Go.Proofs.YtagpnplggopoeaaGreatDoor
