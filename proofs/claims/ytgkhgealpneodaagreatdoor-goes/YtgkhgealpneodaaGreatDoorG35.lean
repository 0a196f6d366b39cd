import Derived.Test.YtgkhgealpneodaaGreatDoorG34
import Derived.Deep.RegionHeld
set_option maxRecDepth 100000
set_option maxHeartbeats 4000000
namespace Go.Proofs.YtgkhgealpneodaaGreatDoor
open Go.RowKit Go.Shelf Go.Lib Go.Sort
namespace Fi
theorem _root_.Go.Proofs.YtgkhgealpneodaaGreatDoor.fE.new{T T':Nat->Prop}{w w1 w2:dY}(h:fE T w w1)(k:fE T' w1 w2)(hT:∀i,i<w.heap.size->T' i->T i):fE T w w2:=⟨k.os.trans h.os,k.tape.trans h.tape,k.output.trans h.output,aK h.size k.size,fun i hi hn=>(k.block i (aJ hi h.size) fun ho=>hn (hT i hi ho)).trans (h.block i hi hn)⟩
theorem cW:(Tryz.prog.info? 159).map (fun i=>(i.zero,i.size,i.bytes))=some (some (.pointer none),1,8):=by kernel_rfl
theorem NH{W:dY}{b:Nat}{p:dZ}{t:TypeId}(h:W.heap[b]?=some (.cells #[p] t)):∀j u,[p][j]?=some u->W.cell? ((⟨b,0,none⟩:Addr).add j)=some u:=by intro j u hj;match j,hj with| 0,hj=>simp at hj;subst hj;simp[Addr.add,World.cell?,h]
def DV(s:dX):Obj:=.cells #[.string s,.string ⟨#[]⟩,eF 0] 161
end Fi
namespace Jn
theorem yd3(er st f t:Addr)(u:FrameMode)(w:dY)(h:w.cell? er=some .nilIface):CallsD Tryz.prog 94 #[.pointer (some er),.pointer (some st),.pointer (some f),.pointer (some t)] u w fun e u' w'=>u'=u/\(e=fM (.tuple #[])/\gU w w'):=by
 go_enter_d Tryz.func94,Tryz.ntmps94
 go_wp2_with fail;go_end0
 exact⟨rfl,aF _ _⟩
open Go.RowKit Go.Extern.Stop Go.Stop Go.Extern
open Lg
theorem Lc(v:dZ)(xT:TypeId)(w:dY):(Instr.typeAssert (.iface 120 v) xT 262 true).run Tryz.prog w=.ok (.tuple #[.nilIface,.bool false]) w:=run_typeAssert_lacksB Tryz.underlying262 (by kernel_rfl) (by kernel_rfl) v xT w
theorem yfi(v:dZ)(w:dY):(ReflectliteType.typeOf #[.iface 120 v]).run Tryz.prog w=.ok (.iface 258 (.agg #[.pointer (some ⟨21,120,none⟩)])) w:=by kernel_rfl
theorem ydn(w:dY):(ReflectliteType.relation "AssignableTo" ReflectliteType.assignableTo #[.agg #[.pointer (some ⟨21,120,none⟩)],.iface 258 (.agg #[.pointer (some ⟨21,114,none⟩)])]).run Tryz.prog w=.ok (.bool false) w:=by kernel_rfl
theorem yfy(f:Nat)(e t:Addr)(w:dY)(hg:w.cell? ⟨4,0,none⟩=some (.iface 258 (.agg #[.pointer (some ⟨21,63,none⟩)])))(hc:w.cell? ⟨f,1,none⟩=some (.iface 393 (.pointer (some e)))):fI 43 #[.iface 120 (fq f),.iface 116 (.pointer (some t))] w fun ev w'=>ev=fM (.bool false)/\w'=(((w.alloc (.cells #[.pointer (some t)] 116)).alloc (nY w)).alloc (nY w)):=by
 have h6:=Sn;have h7:=Sq;have h8:=Sr;have h27:=Fw;have h37:=Fx;have YK:=Fy;have h10:=Fz;have Ez:=FB;have tO:=BO;have mA:=Si;have aE:=YI;have f6:=R6;have f7:=R7;have mK:=R8;have mE:=Sd;have mI:=Sg;have k27:=R9;have k25:=Sb;have e27:=Sj;have i25:=Sk;have nE:=YJ;have uE:=Dm;have vE:=Dn;have tW:=yfi;have aW:=ydn;have nW:=Lc;have uW:=Oo;have mU:=Oq;have hcl:f<w.heap.size:=lt_of_cell hc;have hc2:(((w.alloc (.cells #[.pointer (some t)] 116)).alloc (nY w)).alloc (nY w)).cell? ⟨f,1,none⟩=some (.iface 393 (.pointer (some e))):=by rw[bK _ _ ⟨f,1,none⟩ (by simp;omega),bK _ _ ⟨f,1,none⟩ (by simp;omega),bK _ _ ⟨f,1,none⟩ hcl];exact hc
 have n8:=Sc ⟨w.heap.size,0,none⟩ t ((w.alloc (.cells #[.pointer (some t)] 116)).alloc (nY w)) (by simp[nY]);have hlt:4<w.heap.size:=by
  obtain h|h:=dF 4 w.heap.size;·exact h
  have:w.heap[4]?=none:=by simp[h]
  simp[World.cell?,this]at hg
 have hg2:((w.alloc (.cells #[.pointer (some t)] 116)).alloc (nY w)).cell? ⟨4,0,none⟩=some (.iface 258 (.agg #[.pointer (some ⟨21,63,none⟩)])):=by rw[bK _ _ ⟨4,0,none⟩ (by simp;omega),bK _ _ ⟨4,0,none⟩ hlt];exact hg
 unfold nY at *;go_enter Tryz.func43,Tryz.ntmps43;go_wp2;refine wp_loop_rounds 2 ?_;rw[rounds_succ];go_wp2;rw[rounds_succ];go_wp2;go_ret;exact⟨rfl,rfl⟩
theorem FJ.cell{w:dY}{f:Nat}{ev:dZ}(h:FJ w f ev):w.cell? ⟨f,1,none⟩=some ev:=by obtain⟨s,hs⟩:=h;simp[World.cell?,hs]
def jJ(b:Nat)(sz:Int)(vs:dZ)(wd:dX)(ar tr:Int)(un:Bool):Obj:=.cells #[fq b,eF sz,vs,.string wd,eF ar,eF tr,.bool un] 132
def qz(x y:Int):Int:=if y>x then y else x
theorem UD(ts:Array TypeId)(t:TypeId)(a b c d:Int)(w:dY):(Builtin.max_ ts t #[eF a,eF b,eF c,eF d]).run Tryz.prog w=.ok (eF (qz (qz (qz a b) c) d)) w:=by simp[Builtin.max_,Builtin.max2,qz]
end Jn
namespace Gf
open Fi Ref
abbrev jN:dX:=⟨#[106,111,117,114,110,97,108]⟩
def Bq(w:dY)(b:Nat)(v:dZ)(q:Int):Prop:=∃n,w.heap[b]?=some (.cells #[v,eF q,eF n,eF (-1),.bool false] 53)
structure F1(w:dY)(B b:Nat)(q:Int)(v:dZ)(fb:Nat)(C:dX):Prop where
 bk:Bq w b v q
 row:w.ownsRow B 159 1 v 1 [fq fb]
 fl:∃h,w.heap[fb]?=some (.cells #[.string jN,.string C,eF h] 161)
 lo:B<=b/\B<=fb
theorem Bq.below{w w':dY}{b:Nat}{v:dZ}{q:Int}(h:Bq w b v q)(k:gU w w'):Bq w' b v q:=by obtain⟨n,hn⟩:=h;exact⟨n,(k.block _ (lt_of_block hn)).trans hn⟩
section
variable{w w':dY} {B b:Nat} {q:Int} {v:dZ} {fb:Nat} {C:dX}
theorem F1.below(h:F1 w B b q v fb C)(k:gU w w'):F1 w' B b q v fb C:=by obtain⟨x,hx⟩:=h.fl;exact⟨h.bk.below k,iM h.row ((fE.refl (fun _=>False) w).below k) (fun _ _ h=>h),⟨x,(k.block _ (lt_of_block hx)).trans hx⟩,h.lo⟩
theorem F1.bf(h:F1 w B b q v fb C):b≠fb/\v.ownBlock≠some b/\v.ownBlock≠some fb:=by obtain⟨n,hn⟩:=h.bk;obtain⟨x,hx⟩:=h.fl;refine⟨?_,uR h.row hn (by decide),uR h.row hx (by decide)⟩;rintro rfl;rw[hn]at hx;cases hx
theorem F1.step(h:F1 w B b q v fb C)(t:fE (·=b) w w')(hb:Bq w' b v q):F1 w' B b q v fb C:=by obtain⟨h1,h2,h3⟩:=h.bf;obtain⟨x,hx⟩:=h.fl;exact⟨hb,iM h.row t (fun k hk e=>h2 (by rw[hk,e])),⟨x,(t.block fb (lt_of_block hx) fun e=>h1 e.symm).trans hx⟩,h.lo⟩
theorem F1.turn(h:F1 w B b q v fb C){C':dX}(t:fE (·=fb) w w')(hf:∃x,w'.heap[fb]?=some (.cells #[.string jN,.string C',eF x] 161)):F1 w' B b q v fb C':=by obtain⟨h1,h2,h3⟩:=h.bf;obtain⟨n,hn⟩:=h.bk;exact⟨⟨n,(t.block b (lt_of_block hn) h1).trans hn⟩,iM h.row t (fun k hk e=>h3 (by rw[hk,e])),hf,h.lo⟩
theorem F1.cells(h:F1 w B b q v fb C):∃g cap n x,v=.slice (some ⟨g,0,none⟩) 1 cap/\w.cell? ⟨g,0,none⟩=some (fq fb)/\w.cell? ⟨b,0,none⟩=some v/\w.cell? ⟨b,1,none⟩=some (eF q)/\w.cell? ⟨b,2,none⟩=some (eF n)/\w.cell? ⟨b,3,none⟩=some (eF (-1))/\w.cell? ⟨b,4,none⟩=some (.bool false)/\w.cell? ⟨fb,0,none⟩=some (.string jN)/\w.cell? ⟨fb,1,none⟩=some (.string C)/\w.cell? ⟨fb,2,none⟩=some (eF x)/\(∀o,w.frozen? ⟨b,o,none⟩=false)/\(∀o,w.frozen? ⟨fb,o,none⟩=false)/\b<w.heap.size/\fb<w.heap.size:=by obtain⟨n,hn⟩:=h.bk;obtain⟨x,hx⟩:=h.fl;obtain⟨g,cap,rfl,hc⟩:=yT h.row (i:=0) (by decide);refine⟨g,cap,n,x,rfl,hc 0 _ rfl,?_,?_,?_,?_,?_,?_,?_,?_,?_,?_,lt_of_block hn,lt_of_block hx⟩<;>simp[World.cell?,World.frozen?,hn,hx]
end
theorem OV(b:Nat)(v:dZ)(q:Int)(w:dY)(h:Bq w b v q):fI 133 #[fq b] w fun e w'=>e=fM (.bool true)/\Bq w' b v q/\fE (·=b) w w':=by obtain⟨n,hn⟩:=h;have HN:Hid _:=hn;obtain⟨c0,c1,c2,c3,c4,cf,cl⟩:=Fi.cells5 hn;go_enter Tryz.func133,Tryz.ntmps133;go_wp2_with fail;go_ret;refine⟨rfl,⟨wrap64 (n+1),?_⟩,(fE.refl (·=b) w).setCell (p:=⟨b,2,none⟩) (ak rfl) _⟩;rw[Ref.heap_set _ HN.o];all_goals rfl
theorem yid:Op.bytesLess jN.toList jN.toList=false:=ycz _
theorem OW(B b:Nat)(q:Int)(v:dZ)(fb:Nat)(C:dX)(w:dY)(h:F1 w B b q v fb C):fI 88 #[fq b,.string jN] w fun e w'=>e=fM (.tuple #[eF 0,.bool true])/\gU w w':=by
 obtain⟨g,cap,n,x,rfl,r0,c0,c1,c2,c3,c4,d0,d1,d2,cf,df,cl,dl⟩:=h.cells;have hle:=yid;have heq:(jN.toList==jN.toList)=true:=by simp
 generalize hJ:jN=J at *;go_enter Tryz.func88,Tryz.ntmps88;go_wp2_with fail;go_loopw [6] (fun i wr=>wr=w/\i=eF 0) (fun _ _=>0)
 case atStart=>exact⟨rfl,rfl⟩
 case round=>
  obtain⟨rfl,rfl⟩:=hrel;go_wp2_with fail;all_goals (try go_region)
  all_goals (try go_wp2_with fail)
  all_goals
   go_ret2;exact⟨rfl,(aF _ _).drew⟩
theorem cX(B b:Nat)(q:Int)(v:dZ)(fb:Nat)(C:dX)(w:dY)(h:F1 w B b q v fb C):fI 45 #[fq b,.string jN] w fun e w'=>e=fM (.tuple #[.string C,.bool true])/\gU w w':=by
 have HF:Hid _:=OW B b q v fb C w h;have H:Hid _:=h;go_enter Tryz.func45,Tryz.ntmps45;go_wp2_with fail;refine aB HF.o ?_;rintro e w1 ⟨rfl,hb⟩;obtain⟨g,cap,n,x,rfl,r0,c0,c1,c2,c3,c4,d0,d1,d2,cf,df,cl,dl⟩:=(H.o.below hb).cells;have HB:Hid _:=hb;go_wp2_with fail;all_goals (try go_region)
 all_goals (try go_wp2_with fail)
 all_goals
  go_ret2;first
   |exact⟨rfl,HB.o⟩
   |exact⟨rfl,HB.o.drew⟩
theorem Ld(B b:Nat)(q:Int)(v:dZ)(fb:Nat)(C:dX)(w:dY)(hC:C.size<=1000000000000)(h:F1 w B b q v fb C):fI 136 #[fq b] w fun e w'=>e=fM (eF (C.size:Int))/\gU w w':=by
 obtain⟨g,cap,n,x,rfl,r0,c0,c1,c2,c3,c4,d0,d1,d2,cf,df,cl,dl⟩:=h.cells;go_enter Tryz.func136,Tryz.ntmps136;go_wp2_with fail;go_loopw [3,4] (fun m i wr=>wr=w/\((i=eF 0/\m=eF 0)\/(i=eF 1/\m=eF (C.size:Int)))) (fun _ i _=>1-(intOf i).toNat)
 case atStart=>exact⟨rfl,ak ⟨rfl,rfl⟩⟩
 case round=>
  obtain⟨rfl,⟨rfl,rfl⟩|⟨rfl,rfl⟩⟩:=hrel
  ·go_wp2_with fail;all_goals (try go_region)
   all_goals (try go_wp2_with fail)
   all_goals exact⟨⟨trivial,aj ⟨rfl,by congr 1⟩⟩,by simp[intOf]⟩
  go_wp2_with fail;go_ret;exact⟨rfl,aF _ _⟩
def mq(q:Int)(n m:Nat):Bool:=!(decide (0<q)&&decide (q<(n:Int)+m))
def Ap(B b:Nat)(q:Int)(v:dZ)(fb:Nat)(C d:dX)(w:dY)(e:Ending)(w':dY):Prop:=e=fM (.bool (mq q C.size d.size))/\F1 w' B b q v fb (if mq q C.size d.size then C++d else C)/\fE (fun k=>k=b\/k=fb) w w'
theorem ykc(B b:Nat)(q:Int)(v:dZ)(fb:Nat)(C d:dX)(w:dY)(hC:C.size+d.size<=1000000000000)(hq0:0<=q)(h:F1 w B b q v fb C):fI 55 #[fq b,.string jN,.string d] w (Ap B b q v fb C d w):=by
 have HS:Hid _:=OV b v q w h.bk;have HF:Hid (∀w1,F1 w1 B b q v fb C->_):=fun w1 h1=>OW B b q v fb C w1 h1;have HZ:Hid (∀w1,F1 w1 B b q v fb C->_):=fun w1 h1=>Ld B b q v fb C w1 (by omega) h1;have H:Hid _:=h;go_enter Tryz.func55,Tryz.ntmps55;go_wp2_with fail;refine aB HS.o ?_;rintro e w1 ⟨rfl,hb1,ht1⟩;have H1:Hid (F1 w1 B b q v fb C/\fE (fun k=>k=b\/k=fb) w w1):=⟨H.o.step ht1 hb1,ht1.mono fun k _ hk=>ak hk⟩;go_wp2_with fail;refine aB (HF.o w1 H1.o.1) ?_;rintro e w2 ⟨rfl,hb⟩;have H2:Hid (F1 w2 B b q v fb C/\fE (fun k=>k=b\/k=fb) w w2):=⟨H1.o.1.below hb,H1.o.2.trans (((fE.refl (fun _=>False) w1).below hb).mono fun _ _ h=>h.elim)⟩;have HX:Hid (∀w3,F1 w3 B b q v fb C->fE (fun k=>k=b\/k=fb) w w3->∀x,w3.heap[fb]?=some (.cells #[.string jN,.string C,eF x] 161)->F1 (w3.setCell ⟨fb,1,none⟩ (.string (C++d))) B b q v fb (C++d)/\fE (fun k=>k=b\/k=fb) w (w3.setCell ⟨fb,1,none⟩ (.string (C++d)))):=by intro w3 h3 t3 x hx;have ht:fE (·=fb) w3 (w3.setCell ⟨fb,1,none⟩ (.string (C++d))):=(fE.refl (·=fb) w3).setCell (p:=⟨fb,1,none⟩) (ak rfl) _;exact⟨h3.turn ht ⟨x,by rw[Ref.heap_set _ hx]<;>rfl⟩,t3.trans (ht.mono fun k _ hk=>aj hk)⟩
 obtain⟨g,cap,n,x,rfl,r0,c0,c1,c2,c3,c4,d0,d1,d2,cf,df,cl,dl⟩:=H2.o.1.cells;have HQ:Hid (∀W,gU w2 W->fI 136 #[fq b] W fun e w3=>e=fM (eF (C.size:Int))/\w3.cell? ⟨b,0,none⟩=some (.slice (some ⟨g,0,none⟩) 1 cap)/\w3.cell? ⟨b,1,none⟩=some (eF q)/\Hid (F1 w3 B b q (.slice (some ⟨g,0,none⟩) 1 cap) fb C/\fE (fun k=>k=b\/k=fb) w w3)):=by intro W hW;refine(HZ.o W (H2.o.1.below hW)).mono ?_;rintro e w3 ⟨rfl,b3⟩;have h3:=(H2.o.1.below hW).below b3;obtain⟨_,_,_,_,_,_,k0,k1,_⟩:=h3.cells;exact⟨rfl,k0,k1,h3,(H2.o.2.trans (((fE.refl (fun _=>False) w2).below hW).mono fun _ _ h=>h.elim)).trans (((fE.refl (fun _=>False) W).below b3).mono fun _ _ h=>h.elim)⟩
 by_cases hq:0<q
 ·have wR:q>0:=hq;have hwz:IntKind.i64.wrap ((C.size:Int)+(d.size:Int))=(C.size:Int)+(d.size:Int):=by rw[IntKind.wrap_i64];omega
  have hwz2:wrap64 ((C.size:Int)+(d.size:Int))=(C.size:Int)+(d.size:Int):=by unfold wrap64;omega
  by_cases hk:q<(C.size:Int)+(d.size:Int)
  ·have hok:mq q C.size d.size=false:=by simp[mq,hq,hk]
   go_wp2_with fail;go_region_held (fun w'=>w'.cell? ⟨b,0,none⟩=some (.slice (some ⟨g,0,none⟩) 1 cap)/\w'.cell? ⟨b,1,none⟩=some (eF q)) (go_keep)
    (first|(go_at_call 136;refine aB (HQ.o _ (by first|exact aF _ _|exact(aF _ _).drew)) ?_;rintro e w3 ⟨rfl,e0,e1,HW⟩))
   all_goals
    go_wp2_with fail;go_ret;refine⟨by rw[hok]<;>rfl,?_,?_⟩
    ·rw[hok,ah (by decide)];first
      |exact HW.o.1
      |exact HW.o.1.below (aF _ _).drew
    ·first
      |exact HW.o.2
      |exact HW.o.2.drew
  have hok:mq q C.size d.size=true:=by simp[mq,hq,hk]
  go_wp2_with fail;go_region_held (fun w'=>w'.cell? ⟨b,0,none⟩=some (.slice (some ⟨g,0,none⟩) 1 cap)/\w'.cell? ⟨b,1,none⟩=some (eF q)) (go_keep)
   (first|(go_at_call 136;refine aB (HQ.o _ (by first|exact aF _ _|exact(aF _ _).drew)) ?_;rintro e w3 ⟨rfl,e0,e1,HW⟩))
  all_goals
   obtain⟨g',cap',n3,x3,eV,s0,k0,k1,k2,k3,k4,l0,l1,l2,kf,lf,kl,ll⟩:=HW.o.1.cells;cases eV;obtain⟨x4,hx4⟩:=HW.o.1.fl;have HY:Hid _:=HX.o _ HW.o.1 HW.o.2 x4 hx4;go_wp2_with fail;all_goals (try go_region)
   all_goals (try go_wp2_with fail)
   all_goals (try go_region)
   all_goals (try go_wp2_with fail)
   all_goals
    go_ret;refine⟨by rw[hok]<;>rfl,?_,?_⟩
    ·rw[hok,aA rfl];first
      |exact HY.o.1
      |exact HY.o.1.below (aF _ _).drew
      |exact HY.o.1.below (aF _ _).drew.drew
    ·first
      |exact HY.o.2
      |exact HY.o.2.drew
      |exact HY.o.2.drew.drew
 obtain rfl:q=0:=by omega
 have hok:mq 0 C.size d.size=true:=by simp[mq]
 have HW:Hid (F1 w2.drew B b 0 (.slice (some ⟨g,0,none⟩) 1 cap) fb C/\fE (fun k=>k=b\/k=fb) w w2.drew):=⟨H2.o.1.below (aF _ _).drew,H2.o.2.drew⟩;go_wp2_with fail;go_region
 all_goals
  skip
  obtain⟨g',cap',n3,x3,eV,s0,k0,k1,k2,k3,k4,l0,l1,l2,kf,lf,kl,ll⟩:=HW.o.1.cells;cases eV;obtain⟨x4,hx4⟩:=HW.o.1.fl;have HY:Hid _:=HX.o _ HW.o.1 HW.o.2 x4 hx4;go_wp2_with fail;all_goals (try go_region)
  all_goals (try go_wp2_with fail)
  all_goals (try go_region)
  all_goals (try go_wp2_with fail)
  all_goals
   go_ret;refine⟨by rw[hok]<;>rfl,?_,?_⟩
   ·rw[hok,aA rfl];first
     |exact HY.o.1
     |exact HY.o.1.below (aF _ _).drew
     |exact HY.o.1.below (aF _ _).drew.drew
   ·first
     |exact HY.o.2
     |exact HY.o.2.drew
     |exact HY.o.2.drew.drew
theorem Le(B b:Nat)(q:Int)(v:dZ)(fb:Nat)(C:dX)(w:dY)(h:F1 w B b q v fb C):fI 56 #[fq b,.string jN] w fun e w'=>e=fM (.bool true)/\F1 w' B b q v fb C/\fE (fun k=>k=b\/k=fb) w w':=by
 have HS:Hid _:=OV b v q w h.bk;have HF:Hid (∀w1,F1 w1 B b q v fb C->_):=fun w1 h1=>OW B b q v fb C w1 h1;have H:Hid _:=h;go_enter Tryz.func56,Tryz.ntmps56;go_wp2_with fail;refine aB HS.o ?_;rintro e w1 ⟨rfl,hb1,ht1⟩;have H1:Hid (F1 w1 B b q v fb C/\fE (fun k=>k=b\/k=fb) w w1):=⟨H.o.step ht1 hb1,ht1.mono fun k _ hk=>ak hk⟩;go_wp2_with fail;refine aB (HF.o w1 H1.o.1) ?_;rintro e w2 ⟨rfl,hb⟩;have H2:Hid (F1 w2 B b q v fb C/\fE (fun k=>k=b\/k=fb) w w2):=⟨H1.o.1.below hb,H1.o.2.trans (((fE.refl (fun _=>False) w1).below hb).mono fun _ _ h=>h.elim)⟩;obtain⟨g,cap,n,x,rfl,r0,c0,c1,c2,c3,c4,d0,d1,d2,cf,df,cl,dl⟩:=H2.o.1.cells;obtain⟨x4,hx4⟩:=H2.o.1.fl;have HY:Hid (F1 (w2.setCell ⟨fb,2,none⟩ (eF (C.size:Int))) B b q (.slice (some ⟨g,0,none⟩) 1 cap) fb C/\fE (fun k=>k=b\/k=fb) w (w2.setCell ⟨fb,2,none⟩ (eF (C.size:Int)))):=by have ht:fE (·=fb) w2 (w2.setCell ⟨fb,2,none⟩ (eF (C.size:Int))):=(fE.refl (·=fb) w2).setCell (p:=⟨fb,2,none⟩) (ak rfl) _;exact⟨H2.o.1.turn ht ⟨_,by rw[Ref.heap_set _ hx4]<;>rfl⟩,H2.o.2.trans (ht.mono fun k _ hk=>aj hk)⟩
 go_wp2_with fail;go_region
 all_goals go_wp2_with fail
 all_goals
  go_ret;first
   |exact⟨rfl,HY.o.1.below (aF _ _).drew,HY.o.2.drew⟩
   |exact⟨rfl,HY.o.1.below (aF _ _).drew.drew,HY.o.2.drew.drew⟩
structure F0(w:dY)(B b:Nat)(q:Int)(v:dZ):Prop where
 bk:Bq w b v q
 row:w.ownsRow B 159 1 v 0 []
 lo:B<=b
theorem F0.below{w w':dY}{B b:Nat}{q:Int}{v:dZ}(h:F0 w B b q v)(k:gU w w'):F0 w' B b q v:=⟨h.bk.below k,iM h.row ((fE.refl (fun _=>False) w).below k) (fun _ _ h=>h),h.lo⟩
theorem F0.step{w w':dY}{B b:Nat}{q:Int}{v:dZ}(h:F0 w B b q v)(t:fE (·=b) w w')(hb:Bq w' b v q):F0 w' B b q v:=by obtain⟨n,hn⟩:=h.bk;exact⟨hb,iM h.row t (fun k hk e=>uR h.row hn (by decide) (by rw[hk,e])),h.lo⟩
theorem F0.cells{w:dY}{B b:Nat}{q:Int}{v:dZ}(h:F0 w B b q v):∃a c n,v=.slice a 0 c/\w.cell? ⟨b,0,none⟩=some v/\w.cell? ⟨b,1,none⟩=some (eF q)/\w.cell? ⟨b,2,none⟩=some (eF n)/\w.cell? ⟨b,3,none⟩=some (eF (-1))/\w.cell? ⟨b,4,none⟩=some (.bool false)/\(∀o,w.frozen? ⟨b,o,none⟩=false)/\b<w.heap.size:=by
 obtain⟨n,hn⟩:=h.bk;obtain⟨c0,c1,c2,c3,c4,cf,cl⟩:=Fi.cells5 hn;obtain⟨rfl,_⟩|⟨g,cap,cur,rfl,_⟩:=h.row.2;·exact⟨_,_,n,rfl,c0,c1,c2,c3,c4,cf,cl⟩
 exact⟨_,_,n,rfl,c0,c1,c2,c3,c4,cf,cl⟩
theorem cY(B b:Nat)(q:Int)(v:dZ)(w:dY)(h:F0 w B b q v):fI 88 #[fq b,.string jN] w fun e w'=>e=fM (.tuple #[eF 0,.bool false])/\gU w w':=by
 obtain⟨a,c,n,rfl,c0,c1,c2,c3,c4,cf,cl⟩:=h.cells;clear h c1 c2 c3 c4;generalize hJ:jN=J at *;go_enter Tryz.func88,Tryz.ntmps88;go_wp2_with fail;go_loopw [6] (fun i wr=>wr=w/\i=eF 0) (fun _ _=>0)
 case atStart=>exact⟨rfl,rfl⟩
 case round=>
  obtain⟨rfl,rfl⟩:=hrel;go_wp2_with fail;all_goals (try go_region)
  all_goals (try go_wp2_with fail)
  all_goals
   go_ret2;first
    |exact⟨rfl,(aF _ _).drew⟩
    |exact⟨rfl,aF _ _⟩
theorem dE(B b:Nat)(q:Int)(v:dZ)(w:dY)(h:F0 w B b q v):fI 45 #[fq b,.string jN] w fun e w'=>e=fM (.tuple #[.string ⟨#[]⟩,.bool false])/\gU w w':=by have HF:Hid _:=cY B b q v w h;clear h;go_enter Tryz.func45,Tryz.ntmps45;go_wp2_with fail;refine aB HF.o ?_;rintro e w1 ⟨rfl,hb⟩;have HB:Hid _:=hb;clear hb HF;go_wp2_with fail;go_ret2;exact⟨rfl,HB.o⟩
theorem dT(W:dY)(os:Array Obj):gU W (Sort.grow W os):=⟨rfl,rfl,rfl,by rw[Sort.size_grow];exact Nat.le_add_right _ _,fun _ hi=>Sort.heap_grow_old _ os hi⟩
theorem F0.app{w:dY}{B b bx:Nat}{q:Int}{v:dZ}(h:F0 w B b q v)(hB:B<=w.heap.size)(hx:w.heap[bx]?=some (.cells #[fq b] 28))(W:dY)(hW:fE (fun _=>False) w W)(hf:W.heap[w.heap.size]?=some (DV jN)):∀v' w3,w3.ownsRow B 159 1 v' (0+1) ([]++[fq w.heap.size])->W.grownBy w3 v.ownBlock->(v'.ownBlock=v.ownBlock\/v'.ownBlock=some W.heap.size) ->
   ∃a1 k1,v'=.slice a1 1 k1/\w3.cell? ⟨bx,0,none⟩=some (fq b)/\w3.cell? ⟨b,0,none⟩=some v/\w3.frozen? ⟨b,0,none⟩=false/\b≠bx/\b<w3.heap.size/\Hid (∀w4,(w4=w3.setCell ⟨b,0,none⟩ v'\/w4=(w3.setCell ⟨b,0,none⟩ v').drew)->F1 w4 B b q v' w.heap.size ⟨#[]⟩/\fE (fun k=>k=b\/v.ownBlock=some k) w w4/\∀k,v'.ownBlock=some k->v.ownBlock=some k\/w.heap.size<=k):=by
 intro v' w3 hown hg hloc;obtain⟨n,hn⟩:=h.bk;have hbv:¬v.ownBlock=some b:=uR h.row hn (by decide);have hxv:¬v.ownBlock=some bx:=uR h.row hx (by decide);have hbx:b≠bx:=by rintro rfl;rw[hn]at hx;cases hx
 have hT:fE (fun k=>v.ownBlock=some k) w w3:=(hW.mono fun _ _ h=>h.elim).grown hg fun k hk=>ak hk;have hbz:=lt_of_block hn;have UE:=(hT.block b hbz hbv).trans hn;have hx3:=(hT.block bx (lt_of_block hx) hxv).trans hx;have hvb:v'.ownBlock≠some b:=by
  obtain e|e:=hloc;·rw[e];exact hbv
  ·rw[e];intro e2;cases e2;have:=hW.size;omega
 have hwz:w.heap.size<W.heap.size:=lt_of_block hf;have Ua:v.ownBlock≠some w.heap.size:=fun e=>by have:=(h.row.lt _ e).2;omega
 have hTs:fE (fun k=>k=b\/v.ownBlock=some k) w (w3.setCell ⟨b,0,none⟩ v'):=fE.setCell (T:=fun k=>k=b\/v.ownBlock=some k) (hT.mono fun k _ hk=>aj hk) (p:=⟨b,0,none⟩) (ak (ak rfl)) _;have hF:F1 (w3.setCell ⟨b,0,none⟩ v') B b q v' w.heap.size ⟨#[]⟩:=by refine⟨⟨n,by rw[Ref.heap_set _ UE]<;>rfl⟩,ownsRow_setCell_other hown (a:=⟨b,0,none⟩) hvb _,⟨0,?_⟩,h.lo,hB⟩;rw[bO _ _ _ _ (by show w.heap.size≠b;omega),hg.block _ hwz (fun e=>Ua e.symm)];exact hf
 have hfr:∀k,v'.ownBlock=some k->v.ownBlock=some k\/w.heap.size<=k:=fun k hk=>by
  obtain e|e:=hloc;·exact ak (by rw[<- e];exact hk)
  ·rw[e]at hk;cases hk;exact aj hW.size
 obtain⟨g,cap,rfl,_⟩:=yT hown (i:=0) (by decide);refine⟨_,_,rfl,by simp[World.cell?,hx3],by simp[World.cell?,UE],by simp[World.frozen?,UE],hbx,aJ hbz hT.size,?_⟩;rintro w4 (rfl|rfl);·exact⟨hF,hTs,hfr⟩
 ·exact⟨hF.below (aF _ _).drew,hTs.drew,hfr⟩
theorem yj9(B b:Nat)(q:Int)(v:dZ)(w:dY)(h:F0 w B b q v)(hB:B<=w.heap.size):fI 54 #[fq b,.string jN] w fun e w'=>e=fM (.bool true)/\∃v' fb,(w.heap.size<=fb/\∀k,v'.ownBlock=some k->v.ownBlock=some k\/w.heap.size<=k)/\F1 w' B b q v' fb ⟨#[]⟩/\fE (fun k=>k=b\/v.ownBlock=some k) w w':=by
 have hbl:b<w.heap.size:=by obtain⟨n,hn⟩:=h.bk;exact lt_of_block hn
 have hb0:gU w (w.alloc (.cells #[fq b] 28)):=(aF _ _).alloc (ay _) _;obtain⟨i0,hi0,hz0,hz1,hz2⟩:=info_parts cW;have HS:Hid _:=OV b v q (w.alloc (.cells #[fq b] 28)) (h.bk.below hb0);have HF:Hid (∀w1,F0 w1 B b q v->_):=fun w1 h1=>cY B b q v w1 h1;have H:Hid (F0 (w.alloc (.cells #[fq b] 28)) B b q v/\fE (fun k=>k=b\/v.ownBlock=some k) w (w.alloc (.cells #[fq b] 28))):=⟨h.below hb0,(fE.refl _ _).alloc _⟩;clear h hb0;go_enter Tryz.func54,Tryz.ntmps54;go_wp2_with fail;refine aB HS.o ?_;rintro e w1 ⟨rfl,hb1,ht1⟩;have H1:Hid (F0 w1 B b q v/\fE (fun k=>k=b\/v.ownBlock=some k) w w1):=⟨H.o.1.step ht1 hb1,H.o.2.trans (ht1.mono fun k _ hk=>ak hk)⟩;have x1:w1.heap[w.heap.size]?=some (.cells #[fq b] 28):=by rw[ht1.block w.heap.size (by show w.heap.size<(w.heap.push _).size;rw[dS];omega) (by show ¬w.heap.size=b;omega)];show(w.heap.push _)[w.heap.size]?=_;rw[aD,aA rfl]
 have ZX:w1.cell? ⟨w.heap.size,0,none⟩=some (fq b):=by simp[World.cell?,x1]
 have X1:Hid _:=x1;clear hb1 ht1 HS x1;go_wp2_with fail;refine aB (HF.o w1 H1.o.1) ?_;rintro e w2 ⟨rfl,hb⟩;have H2:Hid (F0 w2 B b q v/\fE (fun k=>k=b\/v.ownBlock=some k) w w2):=⟨H1.o.1.below hb,H1.o.2.trans (((fE.refl (fun _=>False) w1).below hb).mono fun _ _ h=>h.elim)⟩;have x2:w2.heap[w.heap.size]?=some (.cells #[fq b] 28):=(hb.block _ (lt_of_block X1.o)).trans X1.o;have ZY:w2.cell? ⟨w.heap.size,0,none⟩=some (fq b):=by simp[World.cell?,x2]
 have hsz:=H2.o.2.size;have hW:fE (fun _=>False) w2 ((w2.alloc (DV jN)).alloc (.cells #[fq w2.heap.size] 159)).drew:=(((fE.refl _ _).alloc _).alloc _).drew;have hfi:((w2.alloc (DV jN)).alloc (.cells #[fq w2.heap.size] 159)).drew.heap[w2.heap.size]?=some (DV jN):=by show((w2.heap.push _).push _)[w2.heap.size]?=_;rw[aD,ah (by rw[dS];omega),aD,aA rfl]
 have AP:Hid _:=H2.o.1.app (aK hB hsz) x2 _ hW hfi;have O1:Hid (((w2.alloc (DV jN)).alloc (.cells #[fq w2.heap.size] 159)).drew.ownsRow B 159 1 v 0 []):=iM H2.o.1.row hW (fun _ _ h=>h);have O2:Hid (∀j u,[Value.pointer (some ⟨w2.heap.size,0,none⟩)][j]?=some u->((w2.alloc (DV jN)).alloc (.cells #[fq w2.heap.size] 159)).drew.cell? ((⟨w2.heap.size+1,0,none⟩:Addr).add j)=some u):=by exact Fi.NH (t:=159) (by show((w2.heap.push _).push _)[w2.heap.size+1]?=_;rw[xJ])
 have O3:Hid (∀u∈[Value.pointer (some ⟨w2.heap.size,0,none⟩)],u.oneCell'=true):=by intro u hu;simp at hu;subst hu;rfl
 have O4:Hid (0+1<=maxLen):=by unfold Hid maxLen;omega
 have O5:Hid ((0+1)*8<=140737488355328):=by unfold Hid;omega
 have O6:Hid (B<=((w2.alloc (DV jN)).alloc (.cells #[fq w2.heap.size] 159)).drew.heap.size):=by have:=hW.size;unfold Hid;omega
 have uN:Hid (fE (fun k=>k=b\/v.ownBlock=some k) w w2):=H2.o.2;obtain⟨n,hn⟩:=H2.o.1.bk;obtain⟨c0,c1,c2,c3,c4,cf,cl⟩:=Fi.cells5 hn;obtain⟨va,vn,vc,rfl⟩:=lu H2.o.1.row;clear hn HF H1 H hb ZX X1 x2 hW hfi H2 c1 c2 c3 c4;have hxz:w.heap.size<w2.heap.size:=lt_of_cell ZY;unfold DV at *;generalize jN=J at *;go_wp2_with fail;go_region_law (refine zk rfl _ _ 51 rfl B 159 i0 (.pointer none) 1 8 Tryz.underlying51 hi0 hz0 hz1 hz2 rfl (bX 0) _ _ _ rfl O1.o _ 1 1 _ rfl rfl O2.o O3.o O4.o O5.o O6.o ?_;intro v' w3 hown' hgrow hloc;obtain⟨a1,k1,rfl,x3,d0,df,hbx,hb3,HN⟩:=AP.o v' w3 hown' hgrow hloc;clear hown' hgrow hloc)
 all_goals
  go_wp2_with fail
 all_goals
  obtain⟨m1,m2,m3⟩:=HN.o _ (by first|exact ak rfl|exact aj rfl);have M2:Hid (_/\_/\∀k,_->_\/w.heap.size<=k):=⟨m1,m2,fun k hk=>(m3 k hk).imp id (aK hsz)⟩;refine aB (Hn _ 1 _ (ay _) _ _ _ _) ?_;rintro e w5 ⟨rfl,os,rfl⟩;clear m1 m2 m3 HN;go_wp2_with fail;go_ret;exact⟨rfl,_,_,⟨hsz,M2.o.2.2⟩,M2.o.1.below (dT _ os),(uN.o.trans M2.o.2.1).trans (((fE.refl (fun _=>False) _).below (dT _ os)).mono fun _ _ h=>h.elim)⟩
