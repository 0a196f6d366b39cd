import Derived.Test.YtagpnplggopoeaaGreatDoorT15
import Derived.Test.YtagpnplggopoeaaGreatDoorT11
import Derived.Test.YtagpnplggopoeaaGreatDoorT03
set_option maxRecDepth 100000
namespace Go.Proofs.YtagpnplggopoeaaGreatDoor
open Go.RowKit
namespace Px
theorem qr0 {P:Pg} {S:List (Option Vst)} {c:Nat} {m:Ms} (h:InvM P S c m) (hS:qnp P S) {b:Nat×Nat×Nat} {r:List (Nat×Nat×Nat)} (hb:m.begun=b::r) :
  b.2.1≤m.st.length∧InvM P S (c+1) { m with qak:=false,begun:=r,st:=m.st.drop (m.st.length - b.2.1),place:=b.2.2 }:=by
 obtain ⟨t,h1,h2,_⟩:=h.at_;have hfl:=h.fl;have hc3:=h.c3;have hc1:=h.c1;rw[hb] at h1 hfl hc3;rw[List.length_cons] at hc3;obtain ⟨q,i,s,rfl,x2,x3,x4,x5,x6,x7⟩:=h1;have hfs:s.1≤m.st.length:=by
  unfold qcg at h2;simp only[x4] at h2;exact h2
 obtain ⟨now,e1,e2,e3,e4⟩:=hS.ok _ _ x2;rw[x4] at e1;cases e1;have hat:=(e4.2.2.2.1 x3).1;have hl:(m.st.drop (m.st.length - b.2.1)).length=s.1:=by rw[List.length_drop,x5];omega
 have hat':atV S b.2.2=some ((m.st.drop (m.st.length - b.2.1)).length,s.2):=by rw[hl,x6];exact hat
 refine ⟨by omega,h.vars,fun v hv=>h.rst v (List.mem_of_mem_drop hv),h.rvars,h.rleft,h.rund,hfl.2.le hfl.1,h.tried,⟨s.2,x7,(qde hS.try_ (LeV.refl _) hat').2,fun _=>hat'⟩,?_,h.fin,by show (m.st.drop (m.st.length - b.2.1)).length≤_;omega,Nat.le_succ_of_le h.c2,by show r.length≤_;omega,Nat.le_succ_of_le h.c4⟩
 show b.2.2≤_
 rw[x6];exact qjp e2 (by omega) (by omega)
theorem za8 {P:Pg} {S:List (Option Vst)} {c:Nat} {m:Ms} (h:InvM P S c m):qbw m≤m.undos.length:=by
 have hfl:=h.fl;unfold qbw;cases hb:m.begun with
 | nil=>exact Nat.zero_le _
 | cons b r=>rw[hb] at hfl;exact hfl.1
theorem zku {P:Pg} {S:List (Option Vst)} {c:Nat} {m:Ms} (h:InvM P S c m) (hS:qnp P S) (_hu:m.qak=true) {e:Nat} {m':Ms} (he:qa2 P m=(e,m')) (hf:m'.fin=0):InvM P S (c+1) m':=by
 have hbe:∀ e m',qa2.behind m=(e,m')→m'.fin=0→InvM P S (c+1) m':=by
  intro e m' hb hf;unfold qa2.behind at hb;split at hb
  ·cases hb;cases hf
  ·rename_i b r hbb;cases hb;exact (qr0 h hS hbb).2
 unfold qa2 at he;split at he
 ·exact hbe _ _ he hf
 ·rename_i u r hur;split at he
  ·exact hbe _ _ he hf
  ·rename_i hne;cases ha:askM P u.1 u.2 3 true m with
   | mk ea va =>
    obtain ⟨va,ma⟩:=va;rw[ha] at he;have hI:=h.ask ha (by decide)
    obtain ⟨a,l,t',rfl,_⟩:=qhg ha;have hfl:=za8 h;match ea,he with
    | 0,he =>
     cases he;refine ⟨hI.vars,hI.rst,hI.rvars,hI.rleft,fun x hx=>h.rund x (by rw[hur];exact List.mem_cons_of_mem _ hx),?_,hI.tried,hI.at_,hI.pl,hI.fin,hI.c1,?_,hI.c3,hI.c4⟩
     ·show FlV m.begun r.length
      have hf2:=h.fl;rw[hur,List.length_cons] at hne hfl;unfold qbw at hne hfl;cases hb:m.begun with
      | nil=>trivial
      | cons b r' =>
       rw[hb] at hne hfl hf2;exact ⟨by simp only at hne hfl;omega,hf2.2⟩
     ·have:=h.c2
      rw[hur,List.length_cons] at this;show r.length≤_
      omega
    | 1,he=>cases he;exact hI
    | 2,he=>cases he;exact hI
    | n+3,he=>cases he;exact hI
theorem qn1 {P:Pg} {S:List (Option Vst)} {c:Nat} {m:Ms} (h:InvM P S c m) (hS:qnp P S) (ho:∀ i∈P.ins,OkI i) {e:Nat} {m':Ms} (he:qa1 P m=(e,m')) (hf:m'.fin=0):InvM P S (c+1) m':=by
 unfold qa1 at he;split at he
 ·rename_i hu;exact zku h hS hu he hf
 ·rename_i hu;have hu:m.qak=false:=by simpa using hu
  split at he
  ·cases he;cases hf
  ·rename_i i hi;cases hd:doM P i { m with place:=m.place+1 } with
   | mk ea ma =>
    rw[hd] at he;obtain ⟨i1,i2⟩:=zxw h hS ho hu hi hd;match ea,he with
    | 0,he=>cases he;exact i1 rfl
    | n+1,he=>cases he;exact i2 (by omega)
theorem zms {P:Pg} {S:List (Option Vst)} {c:Nat} {m:Ms} (h:InvM P S c m) (hS:qnp P S) (ho:∀ i∈P.ins,OkI i) (hf:(qbo P m).2.fin=0):InvM P S (c+1) (qbo P m).2:=by
 unfold qbo at hf ⊢;cases hs:qa1 P m with
 | mk e m' =>
  rw[hs] at hf;match e,hs,hf with
  | 0,hs,hf=>exact qn1 h hS ho hs hf
  | 1,hs,hf =>
   have:=qn1 h hS ho hs hf
   obtain ⟨t,a,b,d⟩:=this.at_;exact ⟨this.vars,this.rst,this.rvars,this.rleft,this.rund,this.fl,this.tried,⟨t,a,b,(fun h=>by cases h)⟩,this.pl,this.fin,this.c1,this.c2,this.c3,this.c4⟩
  | 2,hs,hf=>exact qn1 h hS ho hs hf
  | 3,hs,hf=>exact qn1 h hS ho hs hf
  | n+4,hs,hf=>cases hf
def qi2 (P:Pg) (answers:List Int):Ms:=⟨[],List.replicate P.nv 0,[],[],[],answers,0,0,false,0⟩
theorem zfa {P:Pg} {S:List (Option Vst)} (hS:qnp P S) {answers:List Int} (hr:∀ v∈answers,R64 v):InvM P S 0 (qi2 P answers) :=
 ⟨by simp[qi2],(fun v h=>by cases h),fun v h=>by rw[List.eq_of_mem_replicate h];exact zpm,hr,(fun u h=>by cases h),trivial,by show 0 < 65536;decide,⟨none,rfl,Nat.zero_le _,fun _=>hS.start⟩,Nat.zero_le _,rfl,Nat.le_refl _,Nat.le_refl _,Nat.le_refl _,Nat.le_refl _⟩
end Px
open Go.RowKit Go.Extern.Stop Go.Stop Go.Extern
namespace Jn
theorem yew (v:Value) (xT:TypeId) (w:World):(Instr.typeAssert (.iface 98 v) xT 239 true).run Tryz.prog w=.ok (.tuple #[.nilIface,.bool false]) w:=run_typeAssert_lacksB Tryz.underlying239 (by kernel_rfl) (by kernel_rfl) v xT w
theorem yct (v:Value) (xT:TypeId) (w:World):(Instr.typeAssert (.iface 98 v) xT 233 true).run Tryz.prog w=.ok (.tuple #[.iface 98 v,.bool true]) w:=run_typeAssert_hasB Tryz.underlying233 (by kernel_rfl) v xT w
theorem ycq (v:Value) (w:World):(Go.method 500 98 v "Unwrap").run Tryz.prog w=.ok (270,v) w:=by kernel_rfl
theorem ydy (f:Nat) (b:Addr) (w:World) (h1:w.cell? ⟨f,1,none⟩=some (.iface 359 (.pointer (some b)))) :
  Calls Tryz.prog 40 #[.iface 98 (.pointer (some ⟨f,0,none⟩)),.iface 359 (.pointer (some b))] w fun e w'=>e=.returned (.bool true)∧w'=w:=by
 obtain ⟨i,hi,hcmp⟩:=Option.map_eq_some_iff.1 Lg.zat;obtain ⟨j,hj,hjs⟩:=Option.map_eq_some_iff.1 Lg.zas;have h8:=Lg.xh8;have h32:=Lg.xh32;have tT:=Lg.qlt;have cT:=Lg.qhc;have mR:=Lg.qdr;have nE:=Lg.zs3;have uE:=Lg.qli;have vE:=Lg.qj3;have nW:=yew;have uW:=yct;have mU:=ycq;have heq:=run_eql_iface_ptr_same (P:=Tryz.prog) w b Tryz.underlying55 Tryz.underlying359 hi hcmp hj;have hty:=run_eql_iface_types (P:=Tryz.prog) 98 359 (.pointer (some ⟨f,0,none⟩)) (.pointer (some b)) Tryz.underlying55 (by decide) w
 go_enter Tryz.func40,Tryz.ntmps40
 go_wp2;refine wp_loop_rounds 2 ?_;rw[rounds_succ];go_wp2;rw[rounds_succ];go_wp2;go_ret;exact ⟨rfl,rfl⟩
theorem ye4 (f g:Nat) (b:Addr) (w:World) (h0:w.cell? ⟨f,1,none⟩=some (.iface 98 (.pointer (some ⟨g,0,none⟩)))) (h1:w.cell? ⟨g,1,none⟩=some (.iface 359 (.pointer (some b)))) :
  Calls Tryz.prog 40 #[.iface 98 (.pointer (some ⟨f,0,none⟩)),.iface 359 (.pointer (some b))] w fun e w'=>e=.returned (.bool true)∧w'=w:=by
 obtain ⟨i,hi,hcmp⟩:=Option.map_eq_some_iff.1 Lg.zat;obtain ⟨j,hj,hjs⟩:=Option.map_eq_some_iff.1 Lg.zas;have h8:=Lg.xh8;have h32:=Lg.xh32;have tT:=Lg.qlt;have cT:=Lg.qhc;have mR:=Lg.qdr;have nE:=Lg.zs3;have uE:=Lg.qli;have vE:=Lg.qj3;have nW:=yew;have uW:=yct;have mU:=ycq;have heq:=run_eql_iface_ptr_same (P:=Tryz.prog) w b Tryz.underlying55 Tryz.underlying359 hi hcmp hj;have hty:=run_eql_iface_types (P:=Tryz.prog) 98 359 (.pointer (some ⟨f,0,none⟩)) (.pointer (some b)) Tryz.underlying55 (by decide) w
 have hty2:=run_eql_iface_types (P:=Tryz.prog) 98 359 (.pointer (some ⟨g,0,none⟩)) (.pointer (some b)) Tryz.underlying55 (by decide) w
 go_enter Tryz.func40,Tryz.ntmps40
 go_wp2;refine wp_loop_rounds 3 ?_;rw[rounds_succ];go_wp2;rw[rounds_succ];go_wp2;rw[rounds_succ];go_wp2;go_ret;exact ⟨rfl,rfl⟩
theorem ydg (f:Nat) (b a:Addr) (ca cb:Array Value) (ta tb:TypeId) (w:World) (h1:w.cell? ⟨f,1,none⟩=some (.iface 359 (.pointer (some a)))) (hne:a≠b) (ha:w.heap[a.block]?=some (.cells ca ta (0,0))) (hb:w.heap[b.block]?=some (.cells cb tb (0,0))) :
  Calls Tryz.prog 40 #[.iface 98 (.pointer (some ⟨f,0,none⟩)),.iface 359 (.pointer (some b))] w fun e w'=>e=.returned (.bool false)∧w'=w:=by
 obtain ⟨i,hi,hcmp⟩:=Option.map_eq_some_iff.1 Lg.zat;obtain ⟨j,hj,hjs⟩:=Option.map_eq_some_iff.1 Lg.zas;have h8:=Lg.xh8;have h32:=Lg.xh32;have tT:=Lg.qlt;have cT:=Lg.qhc;have mR:=Lg.qdr;have nE:=Lg.zs3;have uE:=Lg.qli;have vE:=Lg.qj3;have nW:=yew;have uW:=yct;have mU:=ycq;have heq:=run_eql_iface_ptr_other (P:=Tryz.prog) w Tryz.underlying55 Tryz.underlying359 hi hcmp hj (by rw[hjs];decide) hne ha hb
 have hty:=run_eql_iface_types (P:=Tryz.prog) 98 359 (.pointer (some ⟨f,0,none⟩)) (.pointer (some b)) Tryz.underlying55 (by decide) w
 go_enter Tryz.func40,Tryz.ntmps40
 go_wp2;refine wp_loop_rounds 2 ?_;rw[rounds_succ];go_wp2;rw[rounds_succ];go_wp2;go_ret;exact ⟨rfl,rfl⟩
end Jn
open Go.RowKit
namespace Px
theorem yex {P:Pg} {m:Ms} (h:(qbo P m).1=false):(qbo P m).2.fin=0:=by
 unfold qbo at h ⊢;cases hq:qa1 P m with
 | mk e m' =>
  rw[hq] at h;match e,h with
  | 0,h=>simpa using h
  | 1,h=>simpa using h
  | 2,h=>cases h
  | 3,h=>simpa using h
  | e+4,h=>cases h
theorem yeb {P:Pg} {S:List (Option Vst)} (hS:qnp P S) (ho:∀ i∈P.ins,OkI i) (k:Nat):∀ {c:Nat} {m m1:Ms},InvM P S c m→qa7 P k m=some m1→InvM P S (c+k) m1:=by
 induction k with
 | zero=>intro c m m1 h e;cases e;exact h
 | succ k ih =>
  intro c m m1 h e;rw[qa7] at e;split at e
  ·cases e
  ·rename_i hn;have hn':(qbo P m).1=false:=by simpa using hn
   have:=ih (zms h hS ho (yex hn')) e
   rw[show c+(k+1)=c+1+k by omega]
   exact this
def Come (P:Pg) (L:List Int) (m:Ms):Prop:=∃ C,m=(runM P 4000000 (qi2 P L)).2.said C
theorem yd5 (P:Pg) (L:List Int):Come P L (runM P 4000000 (qi2 P L)).2:=⟨(runM P 4000000 (qi2 P L)).2.asks,rfl⟩
theorem yfw {s:ByteArray} {l:List Sm} (hr:read s=.ok l) (hc:check s=(0,0)) {S:List (Option Vst)} (hS:qnp (pgOf l) S) (ho:∀ i∈(pgOf l).ins,OkI i) {L:List Int} {m:Ms} (h:Come (pgOf l) L m) (hL:∀ v∈L,R64 v) (hf:m.fin=0) (a:Int) (ha:R64 a) :
  InvM (pgOf l) S 4000000 { m with left:=[a],asks:=[] }∧Come (pgOf l) (L++[a]) (runM (pgOf l) 4000000 { m with left:=[a],asks:=[] }).2∧m.left=[]:=by
 obtain ⟨C,rfl⟩:=h;obtain ⟨m2,e1,_,_,e4⟩:=qvy hr hc L 4000000 (by decide)
 have e1':runM (pgOf l) 4000000 (qi2 (pgOf l) L)=(_,m2):=e1;rw[e1'] at hf ⊢;have hf2:m2.fin=0:=hf;rw[hf2] at e4;rw[← e4] at e1';obtain ⟨k,m1,hk,hs,hw⟩:=zln _ _ e1';obtain ⟨w1,⟨q,w2⟩,_⟩:=ze4 hw;have hI:=yeb hS ho k (zfa hS hL) hs;obtain ⟨m3,d1,_⟩:=qvy hr hc (L++[a]) 4000000 (by decide)
 have d1':runM (pgOf l) 4000000 ((qi2 (pgOf l) L).more [a])=(_,m3):=d1;have h4:(runM (pgOf l) 4000000 ((qi2 (pgOf l) L).more [a])).1≠4:=by
  rw[d1']
  have:=zsg (qap l ⟨[],0,0⟩).vars l (L++[a])
  dsimp only;omega
 obtain ⟨C',r1,_⟩:=resume e1' [a] h4 [];refine ⟨?_,⟨C',?_⟩,?_⟩
 ·subst w2;exact ⟨hI.vars,hI.rst,hI.rvars,(fun v hv=>by rw[List.mem_singleton.1 hv];exact ha),hI.rund,hI.fl,hI.tried,hI.at_,hI.pl,hI.fin,Nat.le_trans hI.c1 (by omega),Nat.le_trans hI.c2 (by omega),Nat.le_trans hI.c3 (by omega),Nat.zero_le _⟩
 ·exact congrArg Prod.snd r1
 ·show m2.left=[]
  rw[w2];exact w1
theorem zqi {P:Pg} {S:List (Option Vst)} {p a:Nat} {s:Vst} (h0:atV S p=some s) (hf:a < P.ins.length+1) (h1:qcg S s.2≤s.1):qhl P S p ⟨12,a,0⟩=qbs S a s:=by
 unfold qhl;rw[h0];simp only;rw[qdw (i:=⟨12,a,0⟩) (fun h=>by rcases h with h | h<;>cases h) (fun h=>by rcases h with h | h<;>cases h) (fun _=>hf),if_neg (by simp),if_neg (by show ¬ s.1 < 0+_;omega),if_neg (by simp)]
 rfl
theorem zqh {P:Pg} {S:List (Option Vst)} {p a h:Nat} {t:Option Nat} (h0:atV S p=some (h+1,t)) (hf:a < P.ins.length+1) (h1:qcg S t≤h):qhl P S p ⟨13,a,0⟩=(qbs S a (h,t)).bind fun S=>qbs S (p+1) (h,t):=by
 unfold qhl;rw[h0];simp only;rw[qdw (i:=⟨13,a,0⟩) (fun h=>by rcases h with h | h<;>cases h) (fun h=>by rcases h with h | h<;>cases h) (fun _=>hf),if_neg (by simp),if_neg (by show ¬ h+1 < 1+_;omega),if_neg (by simp)]
 rfl
theorem zw5 {P:Pg} {S:List (Option Vst)} {p a h:Nat} {t:Option Nat} (h0:atV S p=some (h+1,t)) (hf:a < P.ins.length+1) (h1:qcg S t≤h):qhl P S p ⟨14,a,0⟩=(qbs S a (h,t)).bind fun S=>qbs S (p+1) (h+1,t):=by
 unfold qhl;rw[h0];simp only;rw[qdw (i:=⟨14,a,0⟩) (fun h=>by rcases h with h | h<;>cases h) (fun h=>by rcases h with h | h<;>cases h) (fun _=>hf),if_neg (by simp),if_neg (by show ¬ h+1 < 1+_;omega),if_neg (by simp)]
 rfl
theorem zw4 {P:Pg} {S:List (Option Vst)} {p a h:Nat} {t:Option Nat} (h0:atV S p=some (h,t)) (hf:a < P.ins.length+1) (h1:qcg S t≤h):qhl P S p ⟨15,a,0⟩=(qbs S a (h,t)).bind fun S=>qbs S (p+1) (h,some p):=by
 unfold qhl;rw[h0];simp only;rw[qdw (i:=⟨15,a,0⟩) (fun h=>by rcases h with h | h<;>cases h) (fun h=>by rcases h with h | h<;>cases h) (fun _=>hf),if_neg (by simp),if_neg (by show ¬ h < 0+_;omega),if_neg (by simp)]
 rfl
theorem zw3 {P:Pg} {S:List (Option Vst)} {p a h q:Nat} {t:Option Nat} (h0:atV S p=some (h,some q)) (hq:atV S q=some (h,t)) (hf:a < P.ins.length+1):qhl P S p ⟨16,a,0⟩=qbs S a (h,t):=by
 have hfl:qcg S (some q)=h:=by unfold qcg;simp only;rw[hq]
 unfold qhl;rw[h0];simp only;rw[qdw (i:=⟨16,a,0⟩) (fun h=>by rcases h with h | h<;>cases h) (fun h=>by rcases h with h | h<;>cases h) (fun _=>hf),if_neg (by simp),if_neg (by rw[hfl];show ¬ h < 0+_;omega),if_neg (by rw[hfl];simp)]
 unfold znm;simp only;rw[if_neg (by decide),if_neg (by decide),if_neg (by decide),if_neg (by decide),if_pos trivial]
 show qbs S a ((atV S q).getD (0,none))=_
 rw[hq]
 all_goals rfl
theorem qj5 (P:Pg) (S:List (Option Vst)) (p:Nat) (i:Ins) (l:List Ins):qdv P S p ([i]++l)=(qhl P S p i).bind fun S=>qdv P S (p+1) l:=rfl
theorem zob {P:Pg} {a:List Ins} {h:Nat} {t:Option Nat} (p:Nat) (ha:GoesV P h a (p+1) (h,t) (h,t)):GoesV P h ([⟨13,p+1+a.length,0⟩]++a) p (h+1,t) (h,t):=by
 intro S hS hp h0 h1 hq h2 h3;have hl:([(⟨13,p+1+a.length,0⟩:Ins)]++a).length=1+a.length:=List.length_append;rw[hl] at hp h2 h3 ⊢;have h3':=h3 (by simp)
 rw[← Nat.add_assoc] at h3';obtain ⟨S1,e1,l1,f1⟩:=qe1 (S:=S) (p:=p+1+a.length) (s:=(h,t)) (by omega) h3'
 obtain ⟨S2,e2,l2,f2⟩:=qe1 (S:=S1) (p:=p+1) (s:=(h,t)) (by omega) (by
  rw[f1];by_cases hz:p+1=p+1+a.length
  ·rw[if_pos hz];exact Or.inr rfl
  ·rw[if_neg hz];exact Or.inl (h2 _ (by omega) (by omega)))
 have k2:atV S2 (p+1)=some (h,t):=by rw[f2,if_pos rfl]
 have g2:∀ q,q≤p→atV S2 q=atV S q:=fun q g=>by rw[f2,if_neg (by omega),f1,if_neg (by omega)]
 obtain ⟨S3,e3,l3,k3,f3⟩:=ha S2 (by omega) (by omega) k2 (by rw[qep hq g2];exact h1) (fun q g=>by have:=hq q g;omega) (fun q g1 g3=>by rw[f2,if_neg (by omega),f1,if_neg (by omega)];exact h2 q (by omega) (by omega)) (fun _=>by
  rw[f2,f1];by_cases hz:p+1+a.length=p+1
  ·rw[if_pos hz];exact Or.inr rfl
  ·rw[if_neg hz,if_pos rfl];exact Or.inr rfl)
 refine ⟨S3,?_,by omega,by rw[← Nat.add_assoc];exact k3,?_⟩
 ·rw[qj5,zqh h0 (by omega) h1,e1]
  show (qbs S1 (p+1) (h,t)).bind (fun S=>qdv P S (p+1) a)=_
  rw[e2];exact e3
 ·intro q hq';rw[f3 q (by omega),f2,if_neg (by omega),f1,if_neg (by omega)]
theorem qza {P:Pg} {a b:List Ins} {i j:Ins} {s u:Vst} {h:Nat} {t:Option Nat} (p:Nat) (hut:u.1=h∧(u.2=t∨(u.2=some p∧s.1=h)))
  (hi:∀ S:List (Option Vst),atV S p=some s→qcg S t≤h→(p+1+a.length+1) < P.ins.length+1→qhl P S p i=(qbs S (p+1+a.length+1) (h,t)).bind fun S=>qbs S (p+1) u)
  (hj:∀ S:List (Option Vst),atV S (p+1+a.length)=some u→atV S p=some s→qcg S t≤h→(p+1+a.length+1+b.length) < P.ins.length+1→qhl P S (p+1+a.length) j=qbs S (p+1+a.length+1+b.length) (h,t))
  (hs:s.2=t)
  (ha:GoesV P h a (p+1) u u) (hb:GoesV P h b (p+1+a.length+1) (h,t) (h,t)):GoesV P h ([i]++(a++([j]++b))) p s (h,t):=by
 intro S hS hp h0 h1 hq h2 h3;rw[hs] at h1 hq;have hl:([i]++(a++([j]++b))).length=1+a.length+1+b.length:=by simp;omega
 rw[hl] at hp h2 h3 ⊢;have h3':=h3 (by simp)
 rw[show p+(1+a.length+1+b.length)=p+1+a.length+1+b.length by omega] at h3' h2 ⊢
 obtain ⟨S1,e1,l1,f1⟩:=qe1 (S:=S) (p:=p+1+a.length+1) (s:=(h,t)) (by omega) (by
  by_cases hz:b.length=0
  ·rw[show p+1+a.length+1=p+1+a.length+1+b.length by omega];exact h3'
  ·exact Or.inl (h2 _ (by omega) (by omega)))
 obtain ⟨S2,e2,l2,f2⟩:=qe1 (S:=S1) (p:=p+1) (s:=u) (by omega) (by rw[f1,if_neg (by omega)];exact Or.inl (h2 _ (by omega) (by omega)))
 have k2:atV S2 (p+1)=some u:=by rw[f2,if_pos rfl]
 have g2:∀ q,q≤p→atV S2 q=atV S q:=fun q g=>by rw[f2,if_neg (by omega),f1,if_neg (by omega)]
 have fl2:qcg S2 t≤h:=by rw[qep hq g2];exact h1
 obtain ⟨S3,e3,l3,k3,f3⟩:=ha S2 (by omega) (by omega) k2 (by
   rcases hut.2 with hu | ⟨hu,hsu⟩
   ·rw[hu];exact fl2
   ·rw[hu];unfold qcg;simp only;rw[g2 p (Nat.le_refl _),h0];show s.1≤h;rw[hsu];exact Nat.le_refl _)
  (fun q g=>by
   rcases hut.2 with hu | ⟨hu,_⟩
   ·have:=hq q (by rw[← hu];exact g);omega
   ·rw[hu] at g;cases g;omega)
  (fun q g1 g3=>by rw[f2,if_neg (by omega),f1,if_neg (by omega)];exact h2 q (by omega) (by omega))
  (fun hne=>by
   have:=List.length_pos_iff.2 hne
   rw[f2,if_neg (by omega),f1,if_neg (by omega)];exact Or.inl (h2 _ (by omega) (by omega)))
 have g3:∀ q,q≤p→atV S3 q=atV S q:=fun q g=>by rw[f3 q (by omega)];exact g2 q g
 have fl3:qcg S3 t≤h:=by rw[qep hq g3];exact h1
 have q3:atV S3 (p+1+a.length+1)=some (h,t):=by rw[f3 _ (by omega),f2,if_neg (by omega),f1,if_pos rfl]
 obtain ⟨S4,e4,l4,f4⟩:=qe1 (S:=S3) (p:=p+1+a.length+1+b.length) (s:=(h,t)) (by omega) (by
  by_cases hz:b.length=0
  ·rw[hz];exact Or.inr q3
  ·rw[f3 _ (by omega),f2,if_neg (by omega),f1,if_neg (by omega)];exact h3')
 have q4:atV S4 (p+1+a.length+1)=some (h,t):=by
  rw[f4];split
  ·rfl
  ·exact q3
 have g4:∀ q,q≤p→atV S4 q=atV S q:=fun q g=>by rw[f4,if_neg (by omega)];exact g3 q g
 obtain ⟨S5,e5,l5,k5,f5⟩:=hb S4 (by omega) (by omega) q4 (by rw[qep hq g4];exact h1) (fun q g=>by have:=hq q g;omega)
  (fun q g1 g2'=>by rw[f4,if_neg (by omega),f3 q (by omega),f2,if_neg (by omega),f1,if_neg (by omega)];exact h2 q (by omega) (by omega))
  (fun _=>by rw[f4,if_pos rfl];exact Or.inr rfl)
 refine ⟨S5,?_,by omega,k5,?_⟩
 ·rw[qj5,hi S h0 h1 (by omega),e1]
  show (qbs S1 (p+1) u).bind (fun S=>qdv P S (p+1) (a++([j]++b)))=_
  rw[e2];show qdv P S2 (p+1) (a++([j]++b))=_
  rw[qmt,e3];show qdv P S3 (p+1+a.length) ([j]++b)=_
  rw[qj5,hj S3 k3 (by rw[g3 p (Nat.le_refl _)];exact h0) fl3 (by omega),e4]
  exact e5
 ·intro q hq';rw[f5 q (by omega),f4,if_neg (by omega),f3 q (by omega),f2,if_neg (by omega),f1,if_neg (by omega)]
theorem zlu {P:Pg} {a:List Ins} {h:Nat} {t:Option Nat} (p:Nat) (ha:GoesV P (h+1) a (p+1) (h+1,t) (h+1,t)):GoesV P h ([⟨14,p+1+a.length+1,0⟩]++(a++[⟨12,p,0⟩])) p (h+1,t) (h,t):=by
 intro S hS hp h0 h1 hq h2 h3;have hl:([(⟨14,p+1+a.length+1,0⟩:Ins)]++(a++[(⟨12,p,0⟩:Ins)])).length=1+a.length+1:=by simp;omega
 rw[hl] at hp h2 h3 ⊢;have h3':=h3 (by simp)
 rw[show p+(1+a.length+1)=p+1+a.length+1 by omega] at h3' h2 ⊢
 obtain ⟨S1,e1,l1,f1⟩:=qe1 (S:=S) (p:=p+1+a.length+1) (s:=(h,t)) (by omega) h3'
 obtain ⟨S2,e2,l2,f2⟩:=qe1 (S:=S1) (p:=p+1) (s:=(h+1,t)) (by omega) (by rw[f1,if_neg (by omega)];exact Or.inl (h2 _ (by omega) (by omega)))
 have k2:atV S2 (p+1)=some (h+1,t):=by rw[f2,if_pos rfl]
 have g2:∀ q,q≤p→atV S2 q=atV S q:=fun q g=>by rw[f2,if_neg (by omega),f1,if_neg (by omega)]
 have fl2:qcg S2 t≤h:=by rw[qep hq g2];exact h1
 obtain ⟨S3,e3,l3,k3,f3⟩:=ha S2 (by omega) (by omega) k2 (by show qcg S2 t≤h+1;omega) (fun q g=>by have:=hq q g;omega)
  (fun q g1 g3=>by rw[f2,if_neg (by omega),f1,if_neg (by omega)];exact h2 q (by omega) (by omega))
  (fun hne=>by
   have:=List.length_pos_iff.2 hne
   rw[f2,if_neg (by omega),f1,if_neg (by omega)];exact Or.inl (h2 _ (by omega) (by omega)))
 have g3:∀ q,q≤p→atV S3 q=atV S q:=fun q g=>by rw[f3 q (by omega)];exact g2 q g
 have fl3:qcg S3 t≤h:=by rw[qep hq g3];exact h1
 obtain ⟨S4,e4,l4,f4⟩:=qe1 (S:=S3) (p:=p) (s:=(h+1,t)) (by omega) (by rw[g3 p (Nat.le_refl _)];exact Or.inr h0)
 refine ⟨S4,?_,by omega,?_,?_⟩
 ·rw[qj5,zw5 h0 (by omega) h1,e1]
  show (qbs S1 (p+1) (h+1,t)).bind (fun S=>qdv P S (p+1) (a++[⟨12,p,0⟩]))=_
  rw[e2];show qdv P S2 (p+1) (a++[⟨12,p,0⟩])=_
  rw[qmt,e3];show (qhl P S3 (p+1+a.length) ⟨12,p,0⟩).bind (fun S=>some S)=_
  rw[zqi k3 (by omega) (by show qcg S3 t≤h+1;omega),e4]
  rfl
 ·rw[f4,if_neg (by omega),f3 _ (by omega),f2,if_neg (by omega),f1,if_pos rfl]
 ·intro q hq';rw[f4];by_cases hz:q=p
  ·rw[if_pos hz,hz,h0]
  ·rw[if_neg hz,f3 q (by omega),f2,if_neg (by omega),f1,if_neg (by omega)]
def InO (V:List ByteArray) (x:Option Ex):Prop:=∀ e,x=some e→InE V e
def InS (W V:List ByteArray):List Sm→Prop
 | []=>True
 | ⟨op,word,_,ex,asw,_,undo,_,_,one,two⟩::rest=>(op=108∨op=99∨op=105→InO V ex)∧(op=108→hasW V word=true)∧(op=99→hasW W word=true∧(undo.size≠0→hasW W undo=true)∧(asw.size≠0→hasW V asw=true))∧(op=105∨op=116∨op=114→InS W V one)∧(op=105∨op=116→InS W V two)∧InS W V rest
def InX (W V:List ByteArray) (x:Sm):Prop:=(x.op=108∨x.op=99∨x.op=105→InO V x.ex)∧(x.op=108→hasW V x.word=true)∧(x.op=99→hasW W x.word=true∧(x.undo.size≠0→hasW W x.undo=true)∧(x.asw.size≠0→hasW V x.asw=true))∧(x.op=105∨x.op=116∨x.op=114→InS W V x.one)∧(x.op=105∨x.op=116→InS W V x.two)
theorem zbr {W V:List ByteArray} {x:Sm} {l:List Sm}:InS W V (x::l)↔InX W V x∧InS W V l:=by
 obtain ⟨op,word,pl,ex,asw,asPl,undo,n,nPl,one,two⟩:=x;rw[InS];unfold InX;simp only[and_assoc]
theorem zax {V:List ByteArray} (x:Ex):∀ vs,vsE x vs <+: V→InE V x:=by
 match x with
 | ⟨op,n,word,pl,own,none,r⟩ =>
  intro vs h;rw[InE];intro ho;rw[vsE,if_pos ho] at h;exact qhd (qd3 _ _) h
 | ⟨op,n,word,pl,own,some l,none⟩=>intro vs h;rw[InE];rw[vsE] at h;exact zax l vs h
 | ⟨op,n,word,pl,own,some l,some r⟩ =>
  intro vs h;rw[InE];rw[vsE] at h;exact ⟨zax l vs ((qme r _).trans h),zax r _ h⟩
theorem zh8 {V:List ByteArray} (x:Option Ex) (vs:List ByteArray) (h:vsO x vs <+: V):InO V x:=by
 intro e he;subst he;exact zax e vs h
theorem zxe {W V:List ByteArray} (x:Sm) (h1:∀ ws vs,wsS x.one ws <+: W→vsS x.one vs <+: V→InS W V x.one) (h2:∀ ws vs,wsS x.two ws <+: W→vsS x.two vs <+: V→InS W V x.two) (ws vs:List ByteArray) (hW:wsX x ws <+: W) (hV:vsX x vs <+: V):InX W V x:=by
 by_cases o1:x.op=108
 ·have ev:vsX x vs=addW (vsO x.ex vs) x.word:=by unfold vsX;rw[if_pos o1]
  rw[ev] at hV;exact ⟨fun _=>zh8 _ _ ((qd6 _ _).trans hV),fun _=>qhd (qd3 _ _) hV,fun h=>absurd h (by omega),fun h=>absurd h (by omega),fun h=>absurd h (by omega)⟩
 ·by_cases o2:x.op=99
  ·have ev:vsX x vs=if x.asw.size=0 then vsO x.ex vs else addW (vsO x.ex vs) x.asw:=by unfold vsX;rw[if_neg o1,if_pos o2]
   have ew:wsX x ws=wsC x.word x.undo ws:=by unfold wsX;rw[if_pos o2]
   rw[ev] at hV;rw[ew] at hW;unfold wsC at hW;refine ⟨fun _=>zh8 _ vs ?_,fun h=>absurd h o1,fun _=>⟨?_,fun hu=>?_,fun ha=>?_⟩,fun h=>absurd h (by omega),fun h=>absurd h (by omega)⟩
   ·refine List.IsPrefix.trans ?_ hV;split
    ·exact List.prefix_refl _
    ·exact qd6 _ _
   ·refine qhd (qd3 ws x.word) (List.IsPrefix.trans ?_ hW);split
    ·exact List.prefix_refl _
    ·exact qd6 _ _
   ·rw[if_neg hu] at hW;exact qhd (qd3 _ _) hW
   ·rw[if_neg ha] at hV;exact qhd (qd3 _ _) hV
  ·by_cases o3:x.op=105
   ·have ev:vsX x vs=vsS x.two (vsS x.one (vsO x.ex vs)):=by unfold vsX;rw[if_neg o1,if_neg o2,if_pos o3]
    have ew:wsX x ws=wsS x.two (wsS x.one ws):=by unfold wsX;rw[if_neg o2,if_pos (Or.inl o3)]
    rw[ev] at hV;rw[ew] at hW;exact ⟨fun _=>zh8 _ vs ((qf7 _ _).trans ((qf7 _ _).trans hV)),fun h=>absurd h o1,fun h=>absurd h o2,fun _=>h1 _ _ ((qgn _ _).trans hW) ((qf7 _ _).trans hV),fun _=>h2 _ _ hW hV⟩
   ·by_cases o4:x.op=116
    ·have ev:vsX x vs=vsS x.two (vsS x.one vs):=by unfold vsX;rw[if_neg o1,if_neg o2,if_neg o3,if_pos o4]
     have ew:wsX x ws=wsS x.two (wsS x.one ws):=by unfold wsX;rw[if_neg o2,if_pos (Or.inr o4)]
     rw[ev] at hV;rw[ew] at hW;exact ⟨fun h=>absurd h (by omega),fun h=>absurd h o1,fun h=>absurd h o2,fun _=>h1 _ _ ((qgn _ _).trans hW) ((qf7 _ _).trans hV),fun _=>h2 _ _ hW hV⟩
    ·by_cases o5:x.op=114
     ·have ev:vsX x vs=vsS x.one vs:=by unfold vsX;rw[if_neg o1,if_neg o2,if_neg o3,if_neg o4,if_pos o5]
      have ew:wsX x ws=wsS x.one ws:=by unfold wsX;rw[if_neg o2,if_neg (by omega),if_pos o5]
      rw[ev] at hV;rw[ew] at hW;exact ⟨fun h=>absurd h (by omega),fun h=>absurd h o1,fun h=>absurd h o2,fun _=>h1 _ _ hW hV,fun h=>absurd h (by omega)⟩
     ·exact ⟨fun h=>absurd h (by omega),fun h=>absurd h o1,fun h=>absurd h o2,fun h=>absurd h (by omega),fun h=>absurd h (by omega)⟩
theorem zaw {W V:List ByteArray} (l:List Sm):∀ ws vs,wsS l ws <+: W→vsS l vs <+: V→InS W V l:=by
 match l with
 | []=>intro ws vs _ _;rw[InS];trivial
 | ⟨op,word,pl,ex,asw,asPl,undo,n,nPl,one,two⟩::rest =>
  intro ws vs hW hV;rw[qhz] at hW;rw[qjx] at hV;exact zbr.2 ⟨zxe _ (zaw one) (zaw two) ws vs ((qgn _ _).trans hW) ((qf7 _ _).trans hV),zaw rest _ _ hW hV⟩
theorem qtf {P:Pg} {V:List ByteArray} (hV:V.length=P.nv) (F h:Nat) (t:Option Nat) (hF:F≤h) (x:Option Ex) (hx:InO V x) (p:Nat):GoesV P F (mkO (idxW V) x) p (h,t) (h+1,t):=by
 cases x with
 | none=>exact GoesV.one (i:=⟨0,0,0⟩) (s:=(h,t)) (Or.inl (by show 0 < 12;decide)) (qdw (fun h=>by rcases h with h | h<;>cases h) (fun h=>by rcases h with h | h<;>cases h) (fun h=>absurd h (by show ¬ (12≤0∧0≤16);decide))) (by show 0+F≤h;omega)
 | some e=>exact qn8 hV F h t hF e (hx e rfl) p
theorem zm1 {P:Pg} {W V:List ByteArray} (hW:W.length=P.words.length) (hV:V.length=P.nv) (x:Sm) (hx:InX W V x)
  (h1:InS W V x.one→∀ h t p,GoesV P h (mkS (idxW W) (idxW V) x.one p) p (h,t) (h,t)) (h2:InS W V x.two→∀ h t p,GoesV P h (mkS (idxW W) (idxW V) x.two p) p (h,t) (h,t)) (h:Nat) (t:Option Nat) (p:Nat):GoesV P h (mkX (idxW W) (idxW V) x p) p (h,t) (h,t):=by
 obtain ⟨i1,i2,i3,i4,i5⟩:=hx;unfold mkX;split
 ·rename_i o;have hv:=qpt (i2 o);exact GoesV.app (t:=(h+1,t)) (qtf hV h h t (Nat.le_refl _) x.ex (i1 (Or.inl o)) p) (GoesV.one (i:=⟨2,idxW V x.word,0⟩) (s:=(h+1,t)) (Or.inl (by show 2 < 12;decide)) (qdw (fun _=>by show idxW V x.word < P.nv;omega) (fun h=>by rcases h with h | h<;>cases h) (fun h=>absurd h (by show ¬ (12≤2∧2≤16);decide))) (by show 1+h≤h+1;omega)) rfl (fun h=>by cases h)
 ·split
  ·rename_i o;obtain ⟨w1,w2,w3⟩:=i3 o;have hw:=qpt w1;unfold mkC;refine GoesV.app (t:=(h+1,t)) (qtf hV h h t (Nat.le_refl _) x.ex (i1 (Or.inr (Or.inl o))) p) ?_ rfl (fun h=>by cases h)
   refine GoesV.app (t:=(h+1,t)) (GoesV.one (i:=⟨18,idxW W x.word,x.n⟩) (s:=(h+1,t)) (Or.inr (by show 16 < 18;decide)) (qdw (fun h=>by rcases h with h | h<;>cases h) (fun _=>by show idxW W x.word < P.words.length;omega) (fun h=>absurd h (by show ¬ (12≤18∧18≤16);decide))) (by show 1+h≤h+1;omega)) ?_ rfl (fun h=>by exfalso;revert h;split<;>simp)
   refine GoesV.app (t:=(h+1,t)) ?_ ?_ rfl (fun h=>by cases h)
   ·split
    ·exact GoesV.nil P h _ _
    ·rename_i hu;have hw2:=qpt (w2 hu);exact GoesV.one (i:=⟨19,idxW W x.undo,0⟩) (s:=(h+1,t)) (Or.inr (by show 16 < 19;decide)) (qdw (fun h=>by rcases h with h | h<;>cases h) (fun _=>by show idxW W x.undo < P.words.length;omega) (fun h=>absurd h (by show ¬ (12≤19∧19≤16);decide))) (by show 1+h≤h+1;omega)
   ·split
    ·exact GoesV.one (i:=⟨3,0,0⟩) (s:=(h+1,t)) (Or.inl (by show 3 < 12;decide)) (qdw (fun h=>by rcases h with h | h<;>cases h) (fun h=>by rcases h with h | h<;>cases h) (fun h=>absurd h (by show ¬ (12≤3∧3≤16);decide))) (by show 1+h≤h+1;omega)
    ·rename_i ha;have hv:=qpt (w3 ha);exact GoesV.one (i:=⟨2,idxW V x.asw,0⟩) (s:=(h+1,t)) (Or.inl (by show 2 < 12;decide)) (qdw (fun _=>by show idxW V x.asw < P.nv;omega) (fun h=>by rcases h with h | h<;>cases h) (fun h=>absurd h (by show ¬ (12≤2∧2≤16);decide))) (by show 1+h≤h+1;omega)
  ·split
   ·rename_i o;have ho:=qtf hV h h t (Nat.le_refl _) x.ex (i1 (Or.inr (Or.inr o))) p;have g1:=h1 (i4 (Or.inl o)) h t (p+(mkO (idxW V) x.ex).length+1);dsimp only;split
    ·exact GoesV.app (t:=(h+1,t)) ho (zob _ g1) rfl (fun h=>by cases h)
    ·have g2:=h2 (i5 (Or.inl o)) h t (p+(mkO (idxW V) x.ex).length+1+(mkS (idxW W) (idxW V) x.one (p+(mkO (idxW V) x.ex).length+1)).length+1);refine GoesV.app (t:=(h+1,t)) ho ?_ rfl (fun h=>by cases h)
     exact qza (s:=(h+1,t)) (u:=(h,t)) _ ⟨rfl,Or.inl rfl⟩ (fun S a b c=>zqh a c b) (fun S a _ b c=>zqi a c b) rfl g1 g2
   ·split
    ·rename_i o;have g1:=h1 (i4 (Or.inr (Or.inl o))) h (some p) (p+1);have g2:=h2 (i5 (Or.inr o)) h t (p+1+(mkS (idxW W) (idxW V) x.one (p+1)).length+1);exact qza (s:=(h,t)) (u:=(h,some p)) _ ⟨rfl,Or.inr ⟨rfl,rfl⟩⟩ (fun S a b c=>zw4 a c b) (fun S a b _ c=>zw3 a b c) rfl g1 g2
    ·split
     ·rename_i o;have g1:=h1 (i4 (Or.inr (Or.inr o))) (h+1) t (p+2);refine GoesV.app (t:=(h+1,t)) (GoesV.one (i:=⟨0,x.n,0⟩) (s:=(h,t)) (Or.inl (by show 0 < 12;decide)) (qdw (fun h=>by rcases h with h | h<;>cases h) (fun h=>by rcases h with h | h<;>cases h) (fun h=>absurd h (by show ¬ (12≤0∧0≤16);decide))) (by show 0+h≤h;omega)) ?_ rfl (fun h=>by cases h)
      have:=zlu (P:=P) (h:=h) (t:=t) (p+1) g1
      rw[show p+1+1=p+2 by omega] at this
      exact this
     ·exact GoesV.one (i:=⟨17,0,0⟩) (s:=(h,t)) (Or.inr (by show 16 < 17;decide)) (qdw (fun h=>by rcases h with h | h<;>cases h) (fun h=>by rcases h with h | h<;>cases h) (fun h=>absurd h (by show ¬ (12≤17∧17≤16);decide))) (by show 0+h≤h;omega)
theorem qn7 {P:Pg} {W V:List ByteArray} (hW:W.length=P.words.length) (hV:V.length=P.nv) (l:List Sm):InS W V l→∀ h t p,GoesV P h (mkS (idxW W) (idxW V) l p) p (h,t) (h,t):=by
 match l with
 | []=>intro _ h t p;rw[qms];exact GoesV.nil P h p _
 | ⟨op,word,pl,ex,asw,asPl,undo,n,nPl,one,two⟩::rest =>
  intro hl h t p;obtain ⟨a1,a2⟩:=zbr.1 hl;rw[qh7];exact GoesV.app (zm1 hW hV _ a1 (qn7 hW hV one) (qn7 hW hV two) h t p) (qn7 hW hV rest a2 h t _) rfl (fun _=>rfl)
theorem qql (n q:Nat):atV (qi1 n) q=if q=0 then some (0,none) else none:=by
 unfold atV qi1;cases q with
 | zero=>rfl
 | succ q =>
  rw[if_neg (by omega),List.getD_cons_succ,List.getD_eq_getElem?_getD,List.getElem?_replicate]
  split<;>rfl
theorem zm5 (l:List Sm):verV (pgOf l)=true:=by
 have hg:=qn7 (P:=pgOf l) (W:=wsS l []) (V:=vsS l []) rfl rfl l (zaw l [] [] (List.prefix_refl _) (List.prefix_refl _)) 0 none 0;obtain ⟨S',e1,e2,e3,e4⟩:=hg (qi1 (pgOf l).ins.length) (by simp[qi1]) (by rw[Nat.zero_add];exact Nat.le_refl _) (by rw[qql]<;>rfl) (Nat.le_refl _) (fun q h=>by cases h) (fun q h _=>by rw[qql,if_neg (by omega)]) (fun hne=>by
  have:=List.length_pos_iff.2 hne
  rw[qql,if_neg (by omega)];exact Or.inl rfl)
 have e1':qdv (pgOf l) (qi1 (pgOf l).ins.length) 0 (pgOf l).ins=some S':=e1;have e3':atV S' (pgOf l).ins.length=some (0,none):=by
  rw[Nat.zero_add] at e3;exact e3
 unfold verV;rw[e1'];simp only;rw[e3']
 all_goals rfl
end Px
end Go.Proofs.YtagpnplggopoeaaGreatDoor
