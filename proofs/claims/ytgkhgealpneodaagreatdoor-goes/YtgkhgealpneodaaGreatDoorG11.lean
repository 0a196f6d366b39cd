import Derived.BigQuiet
import Derived.Test.YtgkhgealpneodaaGreatDoorG03
import Derived.Deep.MidRow
set_option maxRecDepth 100000
set_option maxHeartbeats 4000000
namespace Go.Proofs.YtgkhgealpneodaaGreatDoor
open Go.RowKit Tryz
namespace Lg
open Px Ref
theorem JN(c:UInt8)(w:dY):fI 185 #[.int .u8 c.toNat] w fun e w'=>e=fM (.bool (mg c))/\w=w':=by
 have e1:Hid (mg c=(decide (97<=(c.toNat:Int))&&decide ((c.toNat:Int)<=122))):=by unfold Hid mg;rw[bI];simp;omega
 go_enter func185,ntmps185;go_wp2;all_goals
  go_ret;exact⟨vX (by rw[e1.o,bI];simp;try omega),rfl⟩
theorem Au(c:UInt8)(w:dY):fI 188 #[.int .u8 c.toNat] w fun e w'=>e=fM (.bool (lT c))/\w=w':=by
 have e1:Hid (lT c=(decide (48<=(c.toNat:Int))&&decide ((c.toNat:Int)<=57))):=by unfold Hid lT;rw[bI];simp;omega
 go_enter func188,ntmps188;go_wp2;all_goals
  go_ret;exact⟨vX (by rw[e1.o,bI];simp;try omega),rfl⟩
theorem XA(c:UInt8)(w:dY):fI 184 #[.int .u8 c.toNat] w fun e w'=>e=fM (.bool (rW c))/\w=w':=by
 have e1:Hid (rW c=(((c.toNat:Int)==32)||((c.toNat:Int)==10))):=by unfold Hid rW;rw[bI];simp[<- UInt8.toNat_inj];omega
 cases h1:((c.toNat:Int)==32);all_goals
  go_enter func184,ntmps184;go_wp2;go_ret;exact⟨vX (by rw[e1.o,h1];simp),rfl⟩
theorem zc6(m:List UInt8):tN m=((m==[108,101,116])||(m==[99,97,108,108])||(m==[97,115])||(m==[117,110,100,111])||(m==[116,114,105,101,115])||(m==[105,102])||(m==[101,108,115,101])||(m==[116,114,121])||(m==[114,101,112,101,97,116])||(m==[102,97,105,108])||(m==[116,114,117,101])||(m==[102,97,108,115,101])||(m==[110,111,116])):=by rw[bI];simp[tN,yh,or_assoc]
theorem Eo(x:dX)(w:dY):fI 232 #[.string x] w fun e w'=>e=fM (.bool (tN x.toList))/\w=w':=by
 have e1:Hid _:=zc6 x.toList;go_enter func232,ntmps232;go_wp2;all_goals
  go_ret;exact⟨vX (by rw[e1.o];first|(simp[*];done)|(exfalso;simp_all;done)),rfl⟩
theorem qxi(x:dX)(w:dY)(hx:x.size<=maxLen):fI 187 #[.string x,.func (.func 185) #[] #[]] w fun e w'=>e=fM (.string (x.extract 0 (kU mg x 0)))/\w=w':=by
 unfold maxLen at hx;go_enter func187,ntmps187;go_wp2_with fail;go_loop [5] (fun i=>∃k:Nat,k<=x.size/\i=eF k/\Hid (∀j(hj:j<x.size),0<=j->j<k->mg x[j]=true)) (fun i=>x.size-(intOf i).toNat)
 case atStart=>exact⟨0,by omega,rfl,by intro j hj h1 h2;omega⟩
 case round=>
  obtain⟨k,hk,rfl,hall⟩:=hrel;by_cases hlt:k<x.size
  ·cases hp:mg x[k]
   ·have hr:Hid (kU mg x 0=k):=yX _ _ _ _ (by omega) hk hall (fun _=>hp);go_wp2_with (first|(go_at_call 185;refine(JN _ _).mono ?_;rintro e w' ⟨rfl,rfl⟩))
    go_ret;exact⟨by rw[hr.o];rfl,rfl⟩
   go_wp2_with (first|(go_at_call 185;refine(JN _ _).mono ?_;rintro e w' ⟨rfl,rfl⟩))
   exact⟨⟨k+1,by omega,by go_num,Ep hall hlt hp⟩,by simp[intOf];omega⟩
  have hr:Hid (kU mg x 0=k):=yX _ _ _ _ (by omega) hk hall (fun h=>absurd h hlt);go_wp2_with fail;go_ret;exact⟨by rw[hr.o];rfl,rfl⟩
theorem zck(x:dX)(w:dY)(hx:x.size<=maxLen):fI 187 #[.string x,.func (.func 188) #[] #[]] w fun e w'=>e=fM (.string (x.extract 0 (kU lT x 0)))/\w=w':=by
 unfold maxLen at hx;go_enter func187,ntmps187;go_wp2_with fail;go_loop [5] (fun i=>∃k:Nat,k<=x.size/\i=eF k/\Hid (∀j(hj:j<x.size),0<=j->j<k->lT x[j]=true)) (fun i=>x.size-(intOf i).toNat)
 case atStart=>exact⟨0,by omega,rfl,by intro j hj h1 h2;omega⟩
 case round=>
  obtain⟨k,hk,rfl,hall⟩:=hrel;by_cases hlt:k<x.size
  ·cases hp:lT x[k]
   ·have hr:Hid (kU lT x 0=k):=yX _ _ _ _ (by omega) hk hall (fun _=>hp);go_wp2_with (first|(go_at_call 188;refine(Au _ _).mono ?_;rintro e w' ⟨rfl,rfl⟩))
    go_ret;exact⟨by rw[hr.o];rfl,rfl⟩
   go_wp2_with (first|(go_at_call 188;refine(Au _ _).mono ?_;rintro e w' ⟨rfl,rfl⟩))
   exact⟨⟨k+1,by omega,by go_num,Ep hall hlt hp⟩,by simp[intOf];omega⟩
  have hr:Hid (kU lT x 0=k):=yX _ _ _ _ (by omega) hk hall (fun h=>absurd h hlt);go_wp2_with fail;go_ret;exact⟨by rw[hr.o];rfl,rfl⟩
theorem zfi(args:Array dZ)(w:dY):(callFunc 257 args).run prog w=((Extern.BytealgIndexByte.indexByte args).run prog w).andThen fun v w'=>.ok (.value v) w':=run_callFunc_extern func257 (by kernel_rfl) (by kernel_rfl) (by kernel_rfl) (e:=Extern.BytealgIndexByte.indexByte) (by kernel_rfl) args w
theorem XB(s:dX)(c:UInt8)(w:dY):fI 233 #[.string s,.int .u8 c.toNat] w fun e w'=>e=fM (eF (firstIdx s c))/\w=w':=by go_enter func233,ntmps233;go_wp2_with fail;rw[zfi,run_indexByte_string];simp only[Result.andThen];rw[Oper.upon_value];go_wp2;go_ret;exact⟨MV (by simp),rfl⟩
theorem JO(s:dX)(c:UInt8)(w:dY):fI 189 #[.string s,.int .u8 c.toNat] w fun e w'=>e=fM (eF (firstIdx s c))/\w=w':=by
 go_enter func189,ntmps189;go_wp2_with (first|(go_at_call 233;refine(XB _ _ _).mono ?_;rintro e w' ⟨rfl,rfl⟩))
 go_ret;exact⟨rfl,rfl⟩
theorem zc1(c:UInt8):decide (0<=firstIdx ⟨#[59,61,40,41,123,125,60,35,43,45,42,47]⟩ c)=yg c:=by
 have h:∀n:Fin 256,decide (0<=firstIdx ⟨#[59,61,40,41,123,125,60,35,43,45,42,47]⟩ (UInt8.ofNat n.val))=yg (UInt8.ofNat n.val):=by decide +kernel
 have:=h ⟨c.toNat,c.toNat_lt⟩;simpa using this
theorem zed(x:dX)(a:Nat)(w:dY)(hk:tN x.toList=true):fI 186 #[.string x,eF (a:Int)] w fun e w'=>e=fM (.tuple #[.agg #[eF 1,.string x,eF (a:Int)],.bool true])/\gU w w':=by
 go_enter func186,ntmps186;go_wp2_with (first|(go_at_call 232;refine(Eo _ _).mono ?_;rintro e w' ⟨rfl,rfl⟩))
 exact bodyPost_ret (v:=.tuple #[.agg #[eF 1,.string x,eF (a:Int)],.bool true]) (by simp[results,results186,go_sem]) rfl ⟨rfl,(aF _ _).alloc (ay _) _⟩
theorem zbv(x:dX)(a:Nat)(w:dY)(hk:tN x.toList=false):fI 186 #[.string x,eF (a:Int)] w fun e w'=>e=fM (.tuple #[.agg #[eF 2,.string x,eF (a:Int)],.bool (decide ((x.size:Int)<=8))])/\gU w w':=by
 go_enter func186,ntmps186;go_wp2_with (first|(go_at_call 232;refine(Eo _ _).mono ?_;rintro e w' ⟨rfl,rfl⟩))
 exact bodyPost_ret (v:=.tuple #[.agg #[eF 2,.string x,eF (a:Int)],.bool (decide ((x.size:Int)<=8))]) (by simp[results,results186,go_sem]) rfl ⟨rfl,(aF _ _).alloc (ay _) _⟩
def kd(k:Nat):Nat:=if k=107 then 1 else if k=119 then 2 else if k=110 then 3 else 0
def JQ(s:dX)(t:iy)(v:dZ):Prop :=∃(k:Nat)(x:dX),v=.tuple #[.agg #[eF (k:Int),.string x,eF (t.a:Int)],.bool (t.k != 63)]/\(t.k≠63->k=kd t.k/\x=s.extract t.a t.b)
theorem JR(s:dX)(a:Nat):(s.extract a s.size).size=s.size-a:=by simp
theorem Rj(s:dX)(a j:Nat)(h:j<(s.extract a s.size).size):(s.extract a s.size)[j]=s[a+j]'(by simp at h;omega):=by simp[ByteArray.getElem_extract]
theorem NK(p:UInt8->Bool)(s:dX)(a:Nat)(ha:a<=s.size):a+kU p (s.extract a s.size) 0=kU p s a:=by
 symm;have hz:=JR s a;have h2:=AX p (s.extract a s.size) 0 (aQ _);refine yX p s a _ (by omega) (by omega) (fun j hj h1 h3=>?_) (fun h=>?_)
 ·have hj':j-a<(s.extract a s.size).size:=by omega
  have e:=Pz p (s.extract a s.size) ((s.extract a s.size).size-0) 0 (j-a) hj' (aQ _) (by unfold kU at h3;omega);rw[Rj s a _ hj']at e;have:a+(j-a)=j:=by omega
  simp only[this]at e;exact e
 have hj':kU p (s.extract a s.size) 0<(s.extract a s.size).size:=by omega
 have e:=Vk p (s.extract a s.size) ((s.extract a s.size).size-0) 0 (ay _) hj';have e':p (s.extract a s.size)[kU p (s.extract a s.size) 0]=false:=e;rw[Rj s a _ hj']at e';exact e'
theorem Rk(s:dX)(a n:Nat)(h:a+n<=s.size):(s.extract a s.size).extract 0 n=s.extract a (a+n):=by rw[ByteArray.extract_extract];congr 1;omega
variable{w w' w1 w2 w3 wr:dY}{c v:dZ}{t:TypeId}
theorem XC{a b:dZ}(h:Below (w.alloc (.cells #[a,b,c] t)).heap.size (w.alloc (.cells #[a,b,c] t)) w1):w1.cell? ⟨w.heap.size,0,none⟩=some a/\w1.cell? ⟨w.heap.size,1,none⟩=some b/\w1.cell? ⟨w.heap.size,2,none⟩=some c/\∀o,w1.frozen? ⟨w.heap.size,o,none⟩=false:=by
 have g:w1.heap[w.heap.size]?=some (.cells #[a,b,c] t):=by rw[h.block _ (by simp)];show(w.heap.push _)[w.heap.size]?=_;rw[aD,aA rfl]
 refine⟨?_,?_,?_,?_⟩<;>simp[World.cell?,World.frozen?,g]
theorem XD(h:gU w w1)(a b c:dZ):gU w (((w1.setCell ⟨w.heap.size,0,none⟩ a).setCell ⟨w.heap.size,1,none⟩ b).setCell ⟨w.heap.size,2,none⟩ c):=((h.setCell (p:=⟨w.heap.size,0,none⟩) (ay _) a).setCell (p:=⟨w.heap.size,1,none⟩) (ay _) b).setCell (p:=⟨w.heap.size,2,none⟩) (ay _) c
variable{s x:dX}{a b base i k m n o p pl q ql qr tl tr:Nat}
theorem zrx(hr:Hid (kU rW s i=k))(hlt:k<s.size)(hsm:mg s[k]=false)(hdg:lT s[k]=false):JQ s (gY s i) (.tuple #[.agg #[eF 1,.string ((s.extract k s.size).extract 0 1),eF (k:Int)],.bool (decide (0<=firstIdx ⟨#[59,61,40,41,123,125,60,35,43,45,42,47]⟩ s[k]))]):=by
 rw[zc1,Rk s k 1 (by omega)];unfold gY;rw[hr.o];cases hm:yg s[k];·rw[PG hlt hsm hdg hm];exact⟨1,_,rfl,fun h=>absurd rfl h⟩
 rw[PE hlt hsm hdg hm];exact⟨1,_,rfl,fun _=>⟨rfl,rfl⟩⟩
theorem zwf(hr:Hid (kU rW s i=k))(hlt:k<s.size)(hsm:mg s[k]=false)(hdg:lT s[k]=true)(hb:Hid (kU lT s k=b))(_h2:b<=s.size):JQ s (gY s i) (.tuple #[.agg #[eF 3,.string (s.extract k b),eF (k:Int)],.bool (decide (((b-k:Nat):Int)<=4))]):=by
 unfold gY;rw[hr.o];by_cases hl:4<b-k;·rw[LW hlt hsm hdg hb.o hl,show decide (((b-k:Nat):Int)<=4)=false from by simp;omega];exact⟨3,_,rfl,fun h=>absurd rfl h⟩
 rw[LX hlt hsm hdg hb.o hl,show decide (((b-k:Nat):Int)<=4)=true from by simp;omega];exact⟨3,_,rfl,fun _=>⟨rfl,rfl⟩⟩
theorem zry(hr:Hid (kU rW s i=k))(hlt:k<s.size)(hsm:mg s[k]=true)(hb:Hid (kU mg s k=b))(hk:tN (s.extract k b).toList=true):JQ s (gY s i) (.tuple #[.agg #[eF 1,.string (s.extract k b),eF (k:Int)],.bool true]):=by unfold gY;rw[hr.o,LQ hlt hsm hb.o hk];exact⟨1,_,rfl,fun _=>⟨rfl,rfl⟩⟩
theorem zrw(hr:Hid (kU rW s i=k))(hlt:k<s.size)(hsm:mg s[k]=true)(hb:Hid (kU mg s k=b))(hk:tN (s.extract k b).toList=false)(_h2:b<=s.size):JQ s (gY s i) (.tuple #[.agg #[eF 2,.string (s.extract k b),eF (k:Int)],.bool (decide (((b-k:Nat):Int)<=8))]):=by
 unfold gY;rw[hr.o];by_cases hl:8<b-k;·rw[LU hlt hsm hb.o hk hl,show decide (((b-k:Nat):Int)<=8)=false from by simp;omega];exact⟨2,_,rfl,fun h=>absurd rfl h⟩
 rw[LV hlt hsm hb.o hk hl,show decide (((b-k:Nat):Int)<=8)=true from by simp;omega];exact⟨2,_,rfl,fun _=>⟨rfl,rfl⟩⟩
theorem MR(s:dX)(i:Nat)(w:dY)(hi:i<=s.size)(hs:s.size<=maxLen):fI 153 #[.string s,eF i] w fun e w'=>(∃v,e=fM v/\JQ s (gY s i) v)/\gU w w':=by
 have hs':=hs;unfold maxLen at hs;go_enter func153,ntmps153;go_wp2_with fail;go_loop [1] (fun x=>∃k:Nat,i<=k/\k<=s.size/\x=eF k/\Hid (∀j(hj:j<s.size),i<=j->j<k->rW s[j]=true)) (fun x=>s.size-(intOf x).toNat)
 case atStart=>exact⟨i,by omega,hi,rfl,by intro j hj h1 h2;omega⟩
 case round=>
  obtain⟨k,hk1,hk2,rfl,hall⟩:=hrel;by_cases hlt:k<s.size
  ·cases hbl:rW s[k]
   ·have hr:Hid (kU rW s i=k):=yX _ _ _ _ hk1 hk2 hall (fun _=>hbl);have heq:((k:Int)==(s.size:Int))=false:=by rw[beq_eq_false_iff_ne];omega
    have r0:(s.extract k s.size)[0]'(by rw[JR];omega)=s[k]:=by rw[Rj];simp
    have hrz:0<(s.extract k s.size).size:=by rw[JR];omega
    go_wp2_with (first|(go_at_call 184;refine(XA _ _).mono ?_;rintro e w' ⟨rfl,rfl⟩))
    cases hsm:mg s[k]
    ·cases hdg:lT s[k]
     ·refine(JN _ _).mono ?_;rintro e w' ⟨rfl,rfl⟩;go_wp2_with (first|(go_at_call 188;refine(Au _ _).mono ?_;rintro e w' ⟨rfl,rfl⟩))
      go_region_with (go_at_call 189;refine(JO _ _ _).mono ?_;rintro e w' ⟨rfl,rfl⟩)
      all_goals
       go_wp2_with fail;refine bodyPost_ret (v:=.tuple #[.agg #[eF 1,.string ((s.extract k s.size).extract 0 1),eF (k:Int)],.bool (decide (0<=firstIdx ⟨#[59,61,40,41,123,125,60,35,43,45,42,47]⟩ s[k]))]) (by simp[results,results153,go_sem]) rfl ⟨⟨_,rfl,zrx hr hlt hsm hdg⟩,?_⟩;first|exact((aF _ _).alloc (ay _) _).drew|exact(aF _ _).alloc (ay _) _|exact((aF _ _).drew.alloc (ay _) _)
     refine(JN _ _).mono ?_;rintro e w' ⟨rfl,rfl⟩;have RL:∀w',fI 187 #[.string (s.extract k s.size),.func (.func 188) #[] #[]] w' fun e w''=>e=fM (.string (s.extract k (kU lT s k)))/\w'=w'':=by intro w';have h:=zck (s.extract k s.size) w' (by rw[JR];omega);rw[Rk s k _ (by rw[NK _ _ _ hk2];exact AX _ _ _ hk2),NK _ _ _ hk2]at h;exact h
     have Rl:Hid _:=RL;generalize hb:kU lT s k=b at *;have HB:Hid _:=hb;have hb1:k<=b:=by rw[<- hb];exact LP _ _ _
     have hb2:b<=s.size:=by rw[<- hb];exact AX _ _ _ hk2
     go_wp2_with (first|(go_at_call 188;refine(Au _ _).mono ?_;rintro e w' ⟨rfl,rfl⟩)|(go_at_call 187;refine(Rl.o _).mono ?_;rintro e w' ⟨rfl,rfl⟩))
     refine bodyPost_ret (v:=.tuple #[.agg #[eF 3,.string (s.extract k b),eF (k:Int)],.bool (decide (((b-k:Nat):Int)<=4))]) (by simp[results,results153,go_sem]) rfl ⟨⟨_,rfl,zwf hr hlt hsm hdg HB hb2⟩,?_⟩;exact(aF _ _).alloc (ay _) _
    refine(JN _ _).mono ?_;rintro e w' ⟨rfl,rfl⟩;have RL:∀w',fI 187 #[.string (s.extract k s.size),.func (.func 185) #[] #[]] w' fun e w''=>e=fM (.string (s.extract k (kU mg s k)))/\w'=w'':=by intro w';have h:=qxi (s.extract k s.size) w' (by rw[JR];omega);rw[Rk s k _ (by rw[NK _ _ _ hk2];exact AX _ _ _ hk2),NK _ _ _ hk2]at h;exact h
    have Rl:Hid _:=RL;generalize hb:kU mg s k=b at *;have HB:Hid _:=hb;have hb1:k<=b:=by rw[<- hb];exact LP _ _ _
    have hb2:b<=s.size:=by rw[<- hb];exact AX _ _ _ hk2
    go_wp2_with (first|(go_at_call 187;refine(Rl.o _).mono ?_;rintro e w' ⟨rfl,rfl⟩))
    cases hkp:tN (s.extract k b).toList;·refine(zbv _ k _ hkp).mono ?_;rintro e w1 ⟨rfl,hbw⟩;obtain⟨q0,q1,q2,qf⟩:=XC hbw;have BW:Hid (gU w w1):=((aF _ _).alloc (ay _) _).trans (hbw.mono (by simp));go_wp2_with fail;refine bodyPost_ret (v:=.tuple #[.agg #[eF 2,.string (s.extract k b),eF (k:Int)],.bool (decide (((b-k:Nat):Int)<=8))]) (by simp[results,results153,go_sem,q0,q1,q2]) rfl ⟨⟨_,rfl,zrw hr hlt hsm HB hkp hb2⟩,?_⟩;exact XD BW.o _ _ _
    refine(zed _ k _ hkp).mono ?_;rintro e w1 ⟨rfl,hbw⟩;obtain⟨q0,q1,q2,qf⟩:=XC hbw;have BW:Hid (gU w w1):=((aF _ _).alloc (ay _) _).trans (hbw.mono (by simp));go_wp2_with fail;refine bodyPost_ret (v:=.tuple #[.agg #[eF 1,.string (s.extract k b),eF (k:Int)],.bool true]) (by simp[results,results153,go_sem,q0,q1,q2]) rfl ⟨⟨_,rfl,zry hr hlt hsm HB hkp⟩,?_⟩;exact XD BW.o _ _ _
   go_wp2_with (first|(go_at_call 184;refine(XA _ _).mono ?_;rintro e w' ⟨rfl,rfl⟩))
   exact⟨⟨k+1,by omega,by omega,by go_num,Ep hall hlt hbl⟩,by simp[intOf];omega⟩
  have hr:Hid (kU rW s i=k):=yX _ _ _ _ hk1 hk2 hall (fun h=>absurd h hlt);obtain rfl:k=s.size:=by omega
  go_wp2_with fail;refine bodyPost_ret (v:=.tuple #[.agg #[eF 0,.string ⟨#[]⟩,eF (s.size:Int)],.bool true]) (by simp[results,results153,go_sem]) rfl ⟨⟨_,rfl,?_⟩,(aF _ _).alloc (ay _) _⟩;have e:gY s i=⟨0,s.size,s.size⟩:=by unfold gY;rw[hr.o];exact PD (by omega)
  rw[e];exact⟨0,⟨#[]⟩,rfl,fun _=>⟨rfl,by simp;rfl⟩⟩
theorem cells3{a b:dZ}(hh:w.heap[k]?=some (.cells #[a,b,c] t)):w.cell? ⟨k,0,none⟩=some a/\w.cell? ⟨k,1,none⟩=some b/\w.cell? ⟨k,2,none⟩=some c/\∀o,w.frozen? ⟨k,o,none⟩=false:=by refine⟨?_,?_,?_,?_⟩<;>simp[World.cell?,World.frozen?,hh]
structure wh(w:dY)(b:Nat)(s:dX)(t:iy)(dep:Int)(td:Option Addr):Prop where
 h:w.heap[b]?=some (.cells #[.string s,eF (kd t.k:Int),.string (s.extract t.a t.b),eF (t.a:Int),eF dep,.pointer td] 190)
def sQ:List dZ:=[.string ⟨#[43]⟩,eF 1,eF 1,eF 1,.string ⟨#[45]⟩,eF 1,eF 1,eF 1,.string ⟨#[42]⟩,eF 2,eF 1,eF 1,.string ⟨#[47]⟩,eF 2,eF 1,eF 1,
 .string ⟨#[60]⟩,eF 0,eF 1,eF 2,.string ⟨#[61]⟩,eF 0,eF 0,eF 2,.string ⟨#[35]⟩,eF 0,eF 0,eF 2]
structure Gl(w:dY)(b:Nat)(eT eN:Addr):Prop where
 t:w.cell? ⟨3,0,none⟩=some (.iface 393 (.pointer (some eT)))
 n:w.cell? ⟨5,0,none⟩=some (.iface 393 (.pointer (some eN)))
 ops:∀j(hj:j<28),w.cell? ⟨18,j,none⟩=some (sQ[j]'hj)
 lo:21<=b
variable{eN eT:Addr}
theorem Gl.keep(g:Gl w b eT eN)(k:Kp b w w'):Gl w' b eT eN:=⟨by rw[k.cell (lt_of_cell g.t) (by have:=g.lo;omega)];exact g.t,by rw[k.cell (lt_of_cell g.n) (by have:=g.lo;omega)];exact g.n,fun j hj=>by rw[k.cell (lt_of_cell (g.ops 0 (by decide))) (by have:=g.lo;omega)];exact g.ops j hj,g.lo⟩
theorem Gl.iD(g:Gl w b eT eN)(hk:21<=k):Gl (w.setCell ⟨k,o,none⟩ v) b eT eN:=⟨by rw[aH (w:=w) (bO _ _ _ _ (by show(_:Nat)≠k;dsimp only;omega))];exact g.t,by rw[aH (w:=w) (bO _ _ _ _ (by show(_:Nat)≠k;dsimp only;omega))];exact g.n,fun j hj=>by rw[aH (w:=w) (bO _ _ _ _ (by show(_:Nat)≠k;dsimp only;omega))];exact g.ops j hj,g.lo⟩
def lC(w':dY)(base:Nat)(eT:Addr)(p:Nat)(e:Ending):Prop :=∃f,base<=f/\e=.panicked [{v:=.iface 114 (fq f),recovered:=false}]/\w'.heap[f]?=some (.cells #[eF (p:Int),.iface 393 (.pointer (some eT))] 119)
variable{e:Ending}
theorem lC.form(h:lC w' base eT p e):∃c,e=.panicked c:=by obtain⟨f,h1,h2,h3⟩:=h;exact⟨_,h2⟩
theorem lC.low{base':Nat}(h:lC w' base eT p e)(hb:base'<=base):lC w' base' eT p e:=by obtain⟨f,h1,h2,h3⟩:=h;exact⟨f,aK hb h1,h2,h3⟩
theorem XF(w:dY)(eT:Addr)(pl:Nat):(lC (w.alloc (.cells #[eF (pl:Int),.iface 393 (.pointer (some eT))] 119)).drew w.heap.size eT pl (.panicked [{v:=.iface 114 (fq w.heap.size),recovered:=false}])/\gU w (w.alloc (.cells #[eF (pl:Int),.iface 393 (.pointer (some eT))] 119)).drew):=by refine⟨⟨w.heap.size,ay _,rfl,?_⟩,((aF _ _).alloc (ay _) _).drew⟩;show(w.heap.push _)[w.heap.size]?=_;rw[aD,aA rfl]
theorem XG(b:Nat)(v0 v1 v2 v4 v5:dZ)(pl:Nat)(eT eN:Addr)(w:dY)(p:w.heap[b]?=some (.cells #[v0,v1,v2,eF (pl:Int),v4,v5] 190))(g:Gl w b eT eN):fI 82 #[fq b] w fun e w'=>lC w' w.heap.size eT pl e/\gU w w':=by
 obtain⟨c0,c1,c2,c3,c4,c5,f⟩:=oD p;have gt:=g.t;go_enter func82,ntmps82;go_wp2_with fail;refine wp_region_any (by kernel_rfl) ?_;change wpAny _ _ _ _ _ _ _ (World.drew _);refine wpAny_take (i:=0) (v:=?_) rfl (by kernel_rfl) (by kernel_rfl) (by kernel_rfl) (fun _ _ _ h=>h) (ak ⟨by rfl,?hy0⟩) ?XH;case hy0=>intro w;go_simp;first|done|with_reducible rfl
 refine wpAny_take (i:=1) (v:=?_) rfl (by kernel_rfl) (by kernel_rfl) (by kernel_rfl) (fun _ _ _ h=>h) (ak ⟨by rfl,?hy1⟩) ?XI;case hy1=>intro w;go_simp;first|done|with_reducible rfl
 refine wpAny_take (i:=2) (v:=?_) rfl (by kernel_rfl) (by kernel_rfl) (by kernel_rfl) (fun _ _ _ h=>h) (ak ⟨by rfl,?hy2⟩) ?XJ;case hy2=>intro w;go_simp;first|done|with_reducible rfl
 refine wpAny_take (i:=3) (v:=?_) rfl (by kernel_rfl) (by kernel_rfl) (by kernel_rfl) (fun _ _ _ h=>h) (ak ⟨by rfl,?hy3⟩) ?XK;case hy3=>intro w;go_simp;first|done|with_reducible rfl
 refine wpAny_ready (rs:=[4,5]) (by kernel_rfl) (by simp) ?_;refine AllReady.cons rfl (fun K hK=>?_) (AllReady.cons rfl (fun K hK=>?_) AllReady.nil)
 ·go_simp
  refine hK _ _ ?_;refine wpAny_ready (rs:=[5]) (by kernel_rfl) (by simp) ?_;refine AllReady.cons rfl (fun K hK=>?_) AllReady.nil;go_simp
  refine hK _ _ ?_;refine wpAny_ready (rs:=[6]) (by kernel_rfl) (by simp) ?_;refine AllReady.cons rfl (fun K hK=>?_) AllReady.nil;go_simp
  refine hK _ _ ?_;refine wpAny_ready (rs:=[7]) (by kernel_rfl) (by simp) ?_;refine AllReady.cons rfl (fun K hK=>?_) AllReady.nil;go_simp
  refine hK _ _ ?_;refine wpAny_ready (rs:=[8]) (by kernel_rfl) (by simp) ?_;refine AllReady.cons rfl (fun K hK=>?_) AllReady.nil;go_simp
  refine hK _ _ ?_;refine wpAny_ready (rs:=[9]) (by kernel_rfl) (by simp) ?_;refine AllReady.cons rfl (fun K hK=>?_) AllReady.nil;go_simp
  exact⟨rfl,XF _ _ _⟩
 go_simp
 refine hK _ _ ?_;refine wpAny_ready (rs:=[4]) (by kernel_rfl) (by simp) ?_;refine AllReady.cons rfl (fun K hK=>?_) AllReady.nil;go_simp
 refine hK _ _ ?_;refine wpAny_ready (rs:=[6]) (by kernel_rfl) (by simp) ?_;refine AllReady.cons rfl (fun K hK=>?_) AllReady.nil;go_simp
 refine hK _ _ ?_;refine wpAny_ready (rs:=[7]) (by kernel_rfl) (by simp) ?_;refine AllReady.cons rfl (fun K hK=>?_) AllReady.nil;go_simp
 refine hK _ _ ?_;refine wpAny_ready (rs:=[8]) (by kernel_rfl) (by simp) ?_;refine AllReady.cons rfl (fun K hK=>?_) AllReady.nil;go_simp
 refine hK _ _ ?_;refine wpAny_ready (rs:=[9]) (by kernel_rfl) (by simp) ?_;refine AllReady.cons rfl (fun K hK=>?_) AllReady.nil;go_simp
 exact⟨rfl,XF _ _ _⟩
theorem XL(b:Nat)(s:dX)(i:Nat)(v1 v2 v3:dZ)(dep:Int)(td:Option Addr)(eT eN:Addr)(w:dY)(p:w.heap[b]?=some (.cells #[.string s,v1,v2,v3,eF dep,.pointer td] 190))(g:Gl w b eT eN)(hi:i<=s.size)(hs:s.size<=maxLen):fI 80 #[fq b,eF (i:Int)] w fun e w'=>Kp b w w' /\
   ((gY s i).k≠63->e=fM (.tuple #[])/\wh w' b s (gY s i) dep td)/\((gY s i).k=63->lC w' w.heap.size eT (gY s i).a e):=by
 obtain⟨c0,c1,c2,c3,c4,c5,f⟩:=oD p;have hb:b<w.heap.size:=lt_of_cell c0;have G:Hid _:=g;have P:Hid _:=p;go_enter func80,ntmps80;go_wp2_with fail;refine(MR s i _ hi hs).mono ?_;rintro e w1 ⟨⟨v,rfl,k,x,rfl,hv⟩,hbw⟩;have K1:Hid (Kp b w w1):=(Kp.refl b w).below hbw;have hz1:w.heap.size<=w1.heap.size:=hbw.size;have p1:w1.heap[b]?=_:=(hbw.block b hb).trans P.o;obtain⟨d0,d1,d2,d3,d4,d5,df⟩:=oD p1;have P1:Hid _:=p1;have HV:Hid _:=hv;have hne:¬w1.heap.size=b:=by omega
 have hb1:b<w1.heap.size:=by omega
 cases hk:((gY s i).k != 63)
 ·have hk':(gY s i).k=63:=by simpa using hk
  have K2:Hid (Kp b w ((((w1.setCell ⟨b,1,none⟩ (eF (k:Int))).setCell ⟨b,2,none⟩ (.string x)).setCell ⟨b,3,none⟩ (eF ((gY s i).a:Int))).alloc (.cells #[eF (k:Int),.string x,eF ((gY s i).a:Int)] 188))):=((((K1.o.kF _).kF _).kF _).alloc _);go_wp2_with fail;refine(XG b (.string s) (eF (k:Int)) (.string x) (eF dep) (.pointer td) (gY s i).a eT eN _ ?_ (G.o.keep K2.o)).mono ?_;·rw[aI _ _ _ (by simpa[World.setCell]using hb1),Ref.heap_set _ (Ref.heap_set _ (Ref.heap_set _ P1.o))];simp
  rintro e w2 ⟨ht,h2⟩;obtain⟨c,rfl⟩:=ht.form;exact⟨rfl,K2.o.below h2,fun h=>absurd hk' h,fun _=>ht.low K2.o.size⟩
 ·have hk':(gY s i).k≠63:=by simpa using hk
  obtain⟨rfl,rfl⟩:=HV.o hk';go_wp2_with fail;go_end0
  refine⟨((((K1.o.kF _).kF _).kF _).alloc _),fun _=>⟨rfl,⟨?_⟩⟩,fun h=>absurd h hk'⟩;rw[aI _ _ _ (by simpa[World.setCell]using hb1),Ref.heap_set _ (Ref.heap_set _ (Ref.heap_set _ P1.o))];simp
def lW(w:dY)(b:Nat)(eN:Addr)(fu:Int)(td:Option Addr):Prop:=(fu<0/\td=none)\/(0<=fu/\∃f,td=some ⟨f,0,none⟩/\f≠b/\w.heap[f]?=some (.cells #[eF fu,.iface 393 (.pointer (some eN))] 119))
variable{td:Option Addr}
theorem lW.keep{fu:Int}(h:lW w b eN fu td)(k:Kp b w w'):lW w' b eN fu td:=by
 obtain h|⟨h1,f,h2,h3,h4⟩:=h;·exact ak h
 exact aj ⟨h1,f,h2,h3,by rw[k.block f (aN.1 h4).1 h3];exact h4⟩
structure Rd(w:dY)(b:Nat)(s:dX)(st:eO)(eT eN:Addr):Prop where
 tk:Tk s st.t
 yC:st.t.k≠63
 gl:Gl w b eT eN
 mem:∃td,wh w b s st.t st.eP td/\lW w b eN st.fu td
variable{st st' st1:eO}
theorem Rd.lt(r:Rd w b s st eT eN):b<w.heap.size:=by obtain⟨td,h,_⟩:=r.mem;exact(aN.1 h.h).1
theorem Rd.keep{w w':dY}{b:Nat}{s:dX}{st:eO}{eT eN:Addr}(r:Rd w b s st eT eN)(k:Kp b w w')(hb:w'.heap[b]?=w.heap[b]?):Rd w' b s st eT eN:=by obtain⟨td,h,d⟩:=r.mem;exact⟨r.tk,r.yC,r.gl.keep k,td,⟨by rw[hb];exact h.h⟩,d.keep k⟩
theorem Rd.alloc{w:dY}{b:Nat}{s:dX}{st:eO}{eT eN:Addr}(r:Rd w b s st eT eN)(o:Obj):Rd (w.alloc o) b s st eT eN:=r.keep ((Kp.refl _ _).alloc _) (aI _ _ _ r.lt)
theorem Rd.drew{w:dY}{b:Nat}{s:dX}{st:eO}{eT eN:Addr}(r:Rd w b s st eT eN):Rd w.drew b s st eT eN:=r.keep (Kp.refl _ _).drew rfl
theorem Rd.zA{c:Array dZ}(r:Rd w b s st eT eN)(h:w.heap[k]?=some (.cells c t))(ht:t≠119)(hk:b<k)(v:dZ):Rd (w.setCell ⟨k,o,none⟩ v) b s st eT eN:=by
 obtain⟨td,a,d⟩:=r.mem;refine⟨r.tk,r.yC,r.gl.iD (by have:=r.gl.lo;omega),td,⟨by rw[bO _ _ _ _ (by show b≠k;omega)];exact a.h⟩,?_⟩;obtain d|⟨d1,f,d2,d3,d4⟩:=d;·exact ak d
 refine aj ⟨d1,f,d2,d3,?_⟩;rw[bO _ _ _ _ (by show f≠k;rintro rfl;rw[h]at d4;simp at d4;exact ht d4.2)];exact d4
def fin{α:Type}(r:Except Nat (α×eO)):Except Nat (α×eO):=
 match r with
 |.ok (x,st)=>if st.t.k=63 then .error st.t.a else .ok (x,st)
 |.error p=>.error p
def Out{α:Type}(b:Nat)(s:dX)(eT eN:Addr)(w:dY)(r:Except Nat (α×eO))(V:dY->α->dZ->Prop)(e:Ending)(w':dY):Prop:=Kp b w w'/\((∃x st v,r=.ok (x,st)/\e=fM v/\V w' x v/\Rd w' b s st eT eN)\/∃p,fin r=.error p/\lC w' w.heap.size eT p e)
theorem NM(b:Nat)(s:dX)(st:eO)(eT eN:Addr)(w:dY)(r:Rd w b s st eT eN)(hs:s.size<=maxLen):fI 234 #[fq b] w
   (Out b s eT eN w (.ok (st.t,eZ s st)) (fun _ t v=>v=.agg #[eF (kd t.k:Int),.string (s.extract t.a t.b),eF (t.a:Int)])):=by
 obtain⟨td,ra,rd⟩:=r.mem;obtain⟨c0,c1,c2,c3,c4,c5,f⟩:=oD ra.h;have hb:=r.lt;have R:Hid _:=r;have RA:Hid (wh w b s st.t st.eP td/\lW w b eN st.fu td):=⟨ra,rd⟩;have hab:=r.tk.ab;have hle:=r.tk.le;have hse:(s.extract st.t.a st.t.b).size=st.t.b-st.t.a:=by simp;omega
 unfold maxLen at hs;go_enter func234,ntmps234;have hi:((st.t.a:Int)+((st.t.b-st.t.a:Nat):Int))=((st.t.b:Nat):Int):=by omega
 go_wp2_with fail;have P1:Hid ((_:dY).heap[b]?=_):=(aI (w.alloc (.cells #[eF 0,.string ⟨#[]⟩,eF 0] 188)) (.cells #[eF (kd st.t.k:Int),.string (s.extract st.t.a st.t.b),eF (st.t.a:Int)] 188) b (by simp;omega)).trans ((aI w (.cells #[eF 0,.string ⟨#[]⟩,eF 0] 188) b hb).trans RA.o.1.h);have K0:Hid (Kp b w ((w.alloc (.cells #[eF 0,.string ⟨#[]⟩,eF 0] 188)).alloc (.cells #[eF (kd st.t.k:Int),.string (s.extract st.t.a st.t.b),eF (st.t.a:Int)] 188))):=((Kp.refl b w).alloc _).alloc _;refine(XL b s st.t.b _ _ _ _ _ eT eN _ P1.o (R.o.gl.keep K0.o) hle (by unfold maxLen;omega)).mono ?_;rintro e w1 ⟨k1,h1,h2⟩;by_cases hk:(gY s st.t.b).k=63;·have ht:=h2 hk;obtain⟨c,rfl⟩:=ht.form;exact⟨rfl,K0.o.trans k1,aj ⟨_,aA hk,ht.low K0.o.size⟩⟩
 ·obtain⟨rfl,a1⟩:=h1 hk;obtain⟨g1,g2,g3⟩:=CX rfl k1 hb;obtain⟨d0,d1,d2,df⟩:=cells3 g2;obtain⟨u0,u1,u2,uf⟩:=cells3 g1;have A1:Hid (Kp b _ w1/\wh w1 b s (gY s st.t.b) st.eP td):=⟨k1,a1⟩;go_wp2_with fail;have KW:∀a1 a2 a3,Kp b w (((w1.setCell ⟨w.heap.size,0,none⟩ a1).setCell ⟨w.heap.size,1,none⟩ a2).setCell ⟨w.heap.size,2,none⟩ a3):=fun a1 a2 a3=>(((K0.o.trans A1.o.1).iD (ay _) _).iD (ay _) _).iD (ay _) _;refine bodyPost_ret (v:=.agg #[eF (kd st.t.k:Int),.string (s.extract st.t.a st.t.b),eF (st.t.a:Int)]) (by simp[results,results234,go_sem, *]) rfl ⟨KW _ _ _,ak ⟨_,_,_,rfl,rfl,rfl,?_⟩⟩;exact⟨yZ R.o.tk,hk,R.o.gl.keep (KW _ _ _),td,⟨by rw[lg _ (by omega),lg _ (by omega),lg _ (by omega)];exact A1.o.2.h⟩,RA.o.2.keep (KW _ _ _)⟩
theorem zko{v:Nat}(hx:x.size<=4)(hd:∀j(hj:j<x.size),lT x[j]=true)(hk:k<x.size)(hv:v=iq (x.data.toList.take k)):v<=1000:=by
 have h1:=Qs (x.data.toList.take k) 0 (by intro c hc;obtain⟨j,hj,rfl⟩:=dQ hc;simp only[bZ,dx]at hj;have h2:=hd j (by show j<x.data.size;omega);unfold lT at h2;simp only[bH,decide_eq_true_eq]at h2;simpa using(show x.data[j].toNat<=57 from h2.2));have h3:(x.data.toList.take k).length<=3:=by simp;omega
 have h4:10^(x.data.toList.take k).length<=10^3:=Nat.pow_le_pow_right (by omega) h3;have h5:v=List.foldl (fun n c=>10*n+(c.toNat-48)) 0 (x.data.toList.take k):=hv;omega
theorem qw6(x:dX)(w:dY)(hx:x.size<=4)(hd:∀j(hj:j<x.size),lT x[j]=true):fI 240 #[.string x] w fun e w'=>e=fM (eF (iq x.toList:Nat))/\w'=w:=by
 have HD:Hid _:=hd;go_enter func240,ntmps240;go_wp2;go_loop [3,7] (fun vv vi=>∃(k v:Nat),k<=x.size/\vi=eF k/\vv=eF v/\Hid (v=iq (x.data.toList.take k))) (fun _ vi=>x.size-(RowKit.intOf vi).toNat)
 case atStart=>exact⟨0,0,aQ _,rfl,rfl,rfl⟩
 case round=>
  obtain⟨k,v,hk,rfl,rfl,hv⟩:=hrel;by_cases hlt:k<x.size
  ·have hdk:=HD.o k hlt;unfold lT at hdk;simp only[bH,decide_eq_true_eq]at hdk;have d1:(48:Int)<=x[k].toNat:=by omega
   have d2:(x[k].toNat:Int)<=57:=by omega
   have hb:v<=1000:=zko hx HD.o hlt hv.o;go_wp2;go_round
   case rel=>
    refine⟨k+1,10*v+(x[k].toNat-48),by omega,by go_num,?_,?_⟩;·congr 1;omega
    show _=_;rw[WK x k hlt,WJ,<- hv.o]
   case measure=>simp[RowKit.intOf];omega
  obtain rfl:k=x.size:=by omega
  go_wp2;go_ret;have:iq x.toList=v:=by rw[hv.o,aP,dG (by simp)]
  exact⟨by rw[this];rfl,rfl⟩
variable{α β:Type}
theorem Dg{x:α}{y:β}(h:fin (.ok (x,st))=.error p):fin (.ok (y,st))=.error p:=by
 unfold fin at h |-;simp only at h |-;split at h;·rename_i h1;rw[aA h1];cases h;rfl
 cases h
theorem tZ{x:α}(h:fin (.ok (x,st))=.error p):st.t.k=63/\p=st.t.a:=by
 unfold fin at h;simp only at h;split at h;·rename_i h1;cases h;exact⟨h1,rfl⟩
 cases h
theorem Rm:((kd k:Int) != 1)=!(k==107):=by
 unfold kd;by_cases h:k=107;·simp[h]
 by_cases h1:k=119;·simp[h1]
 by_cases h2:k=110;·simp[h2]
 simp[h,h1,h2]
theorem XM{k:Nat}:((kd k:Int) != 2)=!(k==119):=by
 unfold kd;by_cases h:k=107;·simp[h]
 by_cases h1:k=119;·simp[h1]
 by_cases h2:k=110;·simp[h2]
 simp[h,h1,h2]
theorem XO{k:Nat}:((kd k:Int) != 3)=!(k==110):=by
 unfold kd;by_cases h:k=107;·simp[h]
 by_cases h1:k=119;·simp[h1]
 by_cases h2:k=110;·simp[h2]
 simp[h,h1,h2]
theorem Rd.cells(r:Rd w b s st eT eN):∃td,
  w.cell? ⟨b,0,none⟩=some (.string s)/\w.cell? ⟨b,1,none⟩=some (eF (kd st.t.k:Int))/\w.cell? ⟨b,2,none⟩=some (.string (s.extract st.t.a st.t.b))/\w.cell? ⟨b,3,none⟩=some (eF (st.t.a:Int)) /\
  w.cell? ⟨b,4,none⟩=some (eF st.eP)/\w.cell? ⟨b,5,none⟩=some (.pointer td)/\∀o,w.frozen? ⟨b,o,none⟩=false:=by
 obtain⟨td,ra,rd⟩:=r.mem;exact⟨td,oD ra.h⟩
theorem Ro(b:Nat)(s:dX)(st:eO)(eT eN:Addr)(w:dY)(r:Rd w b s st eT eN):fI 82 #[fq b] w fun e w'=>lC w' w.heap.size eT st.t.a e/\Kp b w w':=by obtain⟨td,ra,rd⟩:=r.mem;refine(XG b _ _ _ _ _ st.t.a eT eN w ra.h r.gl).mono ?_;rintro e w' ⟨h1,h2⟩;exact⟨h1,(Kp.refl _ _).below h2⟩
theorem yD(b:Nat)(s x:dX)(st:eO)(eT eN:Addr)(w:dY)(r:Rd w b s st eT eN)(hs:s.size<=maxLen)(ho:gN s st.t x=true):fI 190 #[fq b,.string x] w (Out b s eT eN w (.ok ((),eZ s st)) (fun _ _ v=>v=.bool true)):=by
 obtain⟨td,c0,c1,c2,c3,c4,c5,f⟩:=r.cells;have R:Hid _:=r;unfold gN at ho;simp only[bH]at ho;obtain⟨h1,h2⟩:=ho;have k1:((kd st.t.k:Int) != 1)=false:=by rw[Rm,h1];rfl
 go_enter func190,ntmps190;go_wp2_with fail;refine(NM b s st eT eN _ R.o hs).mono ?_;rintro e w1 ⟨k1,⟨t,st1,v,he,rfl,rfl,r1⟩|⟨p,hp,ht⟩⟩;·cases he;have R1:Hid (_/\_):=⟨k1,r1⟩;go_wp2_with fail;go_ret;exact⟨R1.o.1,ak ⟨_,_,_,rfl,rfl,rfl,R1.o.2⟩⟩
 obtain⟨c,rfl⟩:=ht.form;exact⟨rfl,k1,aj ⟨p,Dg hp,ht⟩⟩
theorem pE(b:Nat)(s x:dX)(st:eO)(eT eN:Addr)(w:dY)(r:Rd w b s st eT eN)(ho:gN s st.t x=false):fI 190 #[fq b,.string x] w fun e w'=>e=fM (.bool false)/\w=w':=by
 obtain⟨td,c0,c1,c2,c3,c4,c5,f⟩:=r.cells;unfold gN at ho;cases hk:(st.t.k==107)
 ·have k1:((kd st.t.k:Int) != 1)=true:=by rw[Rm,hk];rfl
  go_enter func190,ntmps190;go_wp2_with fail;go_ret;exact⟨rfl,rfl⟩
 have k1:((kd st.t.k:Int) != 1)=false:=by rw[Rm,hk];rfl
 rw[hk,Bool.true_and]at ho;go_enter func190,ntmps190;go_wp2_with fail;go_ret;exact⟨rfl,rfl⟩
def lS(s:dX)(x:dX)(st:eO):Except Nat (Unit×eO):=if gN s st.t x then .ok ((),eZ s st)else .error st.t.a
theorem Bw(b:Nat)(s x:dX)(st:eO)(eT eN:Addr)(w:dY)(r:Rd w b s st eT eN)(hs:s.size<=maxLen):fI 197 #[fq b,.string x] w (Out b s eT eN w (lS s x st) (fun _ _ v=>v=.tuple #[])):=by
 have R:Hid _:=r;cases ho:gN s st.t x;·go_enter func197,ntmps197;go_wp2_with fail;refine(pE b s x st eT eN _ R.o ho).mono ?_;rintro e w1 ⟨rfl,rfl⟩;go_wp2_with fail;refine(Ro b s st eT eN _ R.o).mono ?_;rintro e w1 ⟨ht,k1⟩;obtain⟨c,rfl⟩:=ht.form;exact⟨rfl,k1,aj ⟨_,by rw[lS,ah (by simp[ho])];rfl,ht⟩⟩
 go_enter func197,ntmps197;go_wp2_with fail;refine(yD b s x st eT eN _ R.o hs ho).mono ?_;rintro e w1 ⟨k1,⟨t,st1,v,he,rfl,rfl,r1⟩|⟨p,hp,ht⟩⟩
 ·cases he;have R1:Hid (_/\_):=⟨k1,r1⟩;go_wp2_with fail;go_end0
  exact⟨R1.o.1,ak ⟨_,_,_,by rw[lS,aA ho],rfl,rfl,R1.o.2⟩⟩
 obtain⟨c,rfl⟩:=ht.form;exact⟨rfl,k1,aj ⟨p,by rw[lS,aA ho];exact hp,ht⟩⟩
def nG(s:dX)(k:Nat)(st:eO):Except Nat (iy×eO):=if st.t.k=k then .ok (st.t,eZ s st)else .error st.t.a
def Bz(s:dX)(t:iy)(v:dZ):Prop:=v=.agg #[eF (kd t.k:Int),.string (s.extract t.a t.b),eF (t.a:Int)]
theorem Rp(b:Nat)(s:dX)(k kk:Nat)(hkk:(k=119/\kk=2)\/(k=110/\kk=3))(st:eO)(eT eN:Addr)(w:dY)(r:Rd w b s st eT eN)(hs:s.size<=maxLen):fI 239 #[fq b,eF (kk:Int)] w (Out b s eT eN w (nG s k st) (fun _ t v=>Bz s t v)):=by
 obtain⟨td,c0,c1,c2,c3,c4,c5,f⟩:=r.cells;have hb:=r.lt;have R:Hid _:=r;have hq:((kd st.t.k:Int) != (kk:Int))=!(st.t.k==k):=by
  obtain⟨rfl,rfl⟩|⟨rfl,rfl⟩:=hkk;·exact XM
  exact XO
 cases ho:(st.t.k==k)
 ·rw[ho]at hq;have ho':¬st.t.k=k:=by simpa using ho
  go_enter func239,ntmps239;go_wp2_with fail;refine(Ro b s st eT eN _ (R.o.alloc _)).mono ?_;rintro e w1 ⟨ht,k1⟩;obtain⟨c,rfl⟩:=ht.form;exact⟨rfl,k1.wZ,aj ⟨_,by rw[nG,ah ho'];rfl,ht.low (by simp)⟩⟩
 rw[ho]at hq;have ho':Hid (st.t.k=k):=(by simpa using ho:st.t.k=k);go_enter func239,ntmps239;go_wp2_with fail;refine(NM b s st eT eN _ (R.o.alloc _) hs).mono ?_;rintro e w1 ⟨k1,⟨t,st1,v,he,rfl,rfl,r1⟩|⟨p,hp,ht⟩⟩;·cases he;have g1:=yY k1 hb;obtain⟨d0,d1,d2,df⟩:=cells3 g1;have R1:Hid (_/\_/\_):=⟨k1,r1,g1⟩;go_wp2_with fail;refine bodyPost_ret (v:=.agg #[eF (kd st.t.k:Int),.string (s.extract st.t.a st.t.b),eF (st.t.a:Int)]) (by simp[results,results239,go_sem, *]) rfl ?_;have g2:=R1.o.2.2;have g3:=Ref.heap_set (o:=0) (eF (kd st.t.k:Int)) g2;have g4:=Ref.heap_set (o:=1) (.string (s.extract st.t.a st.t.b)) g3;exact⟨((R1.o.1.wZ.iD (ay _) _).iD (ay _) _).iD (ay _) _,ak ⟨_,_,_,by rw[nG,aA ho'.o],rfl,rfl,((R1.o.2.1.zA g2 (by decide) hb _).zA g3 (by decide) hb _).zA g4 (by decide) hb _⟩⟩
 obtain⟨c,rfl⟩:=ht.form;exact⟨rfl,k1.wZ,aj ⟨p,by rw[nG,aA ho'.o];exact hp,ht.low (by simp)⟩⟩
def kX(w:dY)(x:dX)(a:Nat)(ok:Nat->Prop)(q:Nat):Prop:=ok q/\w.heap[q]?=some (.cells #[.string x,eF (a:Int)] 289)
def jW(w:dY)(n a:Nat)(ok:Nat->Prop)(q:Nat):Prop:=ok q/\w.heap[q]?=some (.cells #[eF (n:Int),eF (a:Int)] 322)
theorem jX{o:Obj}:(w.alloc o).heap[w.heap.size]?=some o:=by show(w.heap.push o)[w.heap.size]?=_;rw[aD,aA rfl]
theorem XP{o:Obj}(h:w.heap.size=n):(w.alloc o).heap[n]?=some o:=by rw[<- h];exact jX
theorem new2{o p:Obj}:((w.alloc o).alloc p).heap[w.heap.size+1]?=some p:=xJ
theorem EO(b:Nat)(s:dX)(st:eO)(eT eN:Addr)(w:dY)(r:Rd w b s st eT eN)(hs:s.size<=maxLen):fI 237 #[fq b] w (Out b s eT eN w (nG s 119 st) (fun _ t v=>v=.string (s.extract t.a t.b))):=by
 have R:Hid _:=r;clear r;go_enter func237,ntmps237;go_wp2_with fail;refine(Rp b s 119 2 (ak ⟨rfl,rfl⟩) st eT eN _ R.o hs).mono ?_;rintro e w1 ⟨k1,⟨t,st1,v,he,rfl,hv,r1⟩|⟨p,hp,ht⟩⟩
 ·unfold Bz at hv;subst hv;have R1:Hid (_/\_/\_):=⟨k1,r1,he⟩;clear k1 r1 he;have yB:∀W:dY,(Instr.field 188 (.agg #[eF (kd t.k:Int),.string (s.extract t.a t.b),eF (t.a:Int)]) 1).run prog W=.ok (.string (s.extract t.a t.b)) W:=fun _=>by kernel_rfl
  go_wp2_with fail;go_ret;exact⟨R1.o.1,ak ⟨_,_,_,R1.o.2.2,rfl,rfl,R1.o.2.1⟩⟩
 obtain⟨c,rfl⟩:=ht.form;exact⟨rfl,k1,aj ⟨p,hp,ht⟩⟩
theorem Av(b:Nat)(s:dX)(st:eO)(eT eN:Addr)(w:dY)(r:Rd w b s st eT eN)(hs:s.size<=maxLen):fI 235 #[fq b] w (Out b s eT eN w (nG s 119 st) (fun w' t v=>∃q,v=Ref.ptr q/\kX w' (s.extract t.a t.b) t.a (gD w w') q)):=by
 have R:Hid _:=r;clear r;go_enter func235,ntmps235;go_wp2_with fail;refine(Rp b s 119 2 (ak ⟨rfl,rfl⟩) st eT eN _ R.o hs).mono ?_;rintro e w1 ⟨k1,⟨t,st1,v,he,rfl,hv,r1⟩|⟨p,hp,ht⟩⟩;·unfold Bz at hv;subst hv;have R1:Hid (_/\_/\_):=⟨k1,r1,he⟩;clear k1 r1 he;go_wp2_with fail;go_ret;have z:=R1.o.1.size;exact⟨(R1.o.1.alloc _).alloc _,ak ⟨_,_,_,R1.o.2.2,rfl,⟨_,rfl,⟨⟨by omega,by simp⟩,new2⟩⟩,(R1.o.2.1.alloc _).alloc _⟩⟩
 obtain⟨c,rfl⟩:=ht.form;exact⟨rfl,k1,aj ⟨p,hp,ht⟩⟩
theorem G5(b:Nat)(s:dX)(st:eO)(eT eN:Addr)(w:dY)(r:Rd w b s st eT eN)(hs:s.size<=maxLen):fI 195 #[fq b] w (Out b s eT eN w (nG s 110 st) (fun w' t v=>∃q,v=Ref.ptr q/\jW w' (iq (s.extract t.a t.b).toList) t.a (gD w w') q)):=by
 have R:Hid _:=r;clear r;go_enter func195,ntmps195;go_wp2_with fail;refine(Rp b s 110 3 (aj ⟨rfl,rfl⟩) st eT eN _ R.o hs).mono ?_;rintro e w1 ⟨k1,⟨t,st1,v,he,rfl,hv,r1⟩|⟨p,hp,ht⟩⟩
 ·unfold Bz at hv;subst hv;have hT:t=st.t/\st.t.k=110:=by
   unfold nG at he;split at he;·rename_i hk;cases he;exact⟨rfl,hk⟩
   cases he
  obtain⟨rfl,hk⟩:=hT;obtain⟨hn1,hn2⟩:=R.o.tk.num hk;have hlt:=R.o.tk.lt (by omega) (by omega);have hle:=R.o.tk.le;have hx:(s.extract st.t.a st.t.b).size<=4:=by simp;omega
  have HX:Hid (∀j(hj:j<(s.extract st.t.a st.t.b).size),lT (s.extract st.t.a st.t.b)[j]=true):=fun j hj=>by rw[ByteArray.getElem_extract];simp only[dW]at hj;exact hn2 _ (by omega) (by omega) (by omega)
  have R1:Hid (_/\_/\_):=⟨k1,r1,he⟩;clear k1 r1 he hn1 hn2 hlt hle hk;go_wp2_with fail;go_region_with (go_at_call 240;refine(qw6 _ _ hx HX.o).mono ?_;rintro e w2 ⟨rfl,rfl⟩)
  all_goals
   go_wp2_with fail;go_ret;have z:=R1.o.1.size;refine⟨((R1.o.1.alloc _).alloc _).drew,ak ⟨_,_,_,R1.o.2.2,rfl,⟨_,rfl,⟨⟨by omega,by simp⟩,?_⟩⟩,((R1.o.2.1.alloc _).alloc _).drew⟩⟩;exact new2
 obtain⟨c,rfl⟩:=ht.form;exact⟨rfl,k1,aj ⟨p,hp,ht⟩⟩
theorem XQ{x:α}{y:β}(h:fin (.ok (x,st))=.error p)(ht:st'.t=st.t):fin (.ok (y,st'))=.error p:=by obtain⟨h1,h2⟩:=tZ h;unfold fin;simp only;rw[ht,aA h1,h2]
def BA(s:dX)(x:dX)(st:eO):Except Nat (Unit×eO):=if gN s st.t x then .ok ((),eZ s (Px.dn st))else .error st.t.a
def BD(s:dX)(x:dX)(st:eO):Except Nat (Unit×eO):=if gN s st.t x then .ok ((),rC (eZ s st))else .error st.t.a
theorem Rd.with(r:Rd w b s st eT eN)(k:Kp b w w')(ht:st'.t=st.t)(ha:wh w' b s st.t st'.eP td)(hd:lW w' b eN st'.fu td):Rd w' b s st' eT eN:=⟨by rw[ht];exact r.tk,by rw[ht];exact r.yC,r.gl.keep k,td,by rw[ht];exact ha,hd⟩
theorem XR(b:Nat)(s x:dX)(st:eO)(eT eN:Addr)(w:dY)(r:Rd w b s st eT eN)(hs:s.size<=maxLen)(hn0:0<=st.eP)(hn1:st.eP<=1000000):fI 241 #[fq b,.string x] w (Out b s eT eN w (BA s x st) (fun _ _ v=>v=.tuple #[])):=by
 obtain⟨td,c0,c1,c2,c3,c4,c5,f⟩:=r.cells;have R:Hid _:=r;clear r;go_enter func241,ntmps241;go_wp2_with fail;refine(Bw b s x st eT eN _ R.o hs).mono ?_;rintro e w1 ⟨k1,⟨t,st1,v,he,rfl,rfl,r1⟩|⟨p,hp,ht⟩⟩
 ·clear c0 c1 c2 c3 c4 c5 f;obtain⟨EP,ra,rd⟩:=r1.mem;obtain⟨c0,c1,c2,c3,c4,c5,f⟩:=oD ra.h;have ho:gN s st.t x=true/\st1=eZ s st:=by
   unfold lS at he;split at he;·rename_i ho;cases he;exact⟨ho,rfl⟩
   cases he
  obtain⟨ho,rfl⟩:=ho;have e1:BA s x st=.ok ((),eZ s (Px.dn st)):=by rw[BA,aA ho]
  have gn:=r1.gl.n;have hb1:=r1.lt;have rJ:(eZ s st).eP=st.eP:=rfl;have JU:(eZ s st).fu=st.fu:=rfl;rw[rJ]at c4;rw[JU]at rd;have R1:Hid (Kp b w w1/\Rd w1 b s (eZ s st) eT eN/\wh w1 b s (eZ s st).t (eZ s st).eP EP/\BA s x st=.ok ((),eZ s (Px.dn st))):=⟨k1,r1,ra,e1⟩;clear k1 r1 ra he ho e1;by_cases h4:4<=st.eP
  ·obtain⟨d1,rfl⟩|⟨d1,ff,rfl,d3,d4⟩:=rd
   ·go_wp2_with fail;go_end0
    have hz:((w1.setCell ⟨b,4,none⟩ (eF (st.eP+1))).setCell ⟨b,5,none⟩ (fq w1.heap.size)).heap.size=w1.heap.size:=by simp[World.setCell]
    refine⟨((R1.o.1.kF _).kF _).alloc _,ak ⟨_,_,_,R1.o.2.2.2,rfl,rfl,R1.o.2.1.with (td:=some ⟨w1.heap.size,0,none⟩) ((((Kp.refl _ _).kF _).kF _).alloc _) rfl ⟨?_⟩ ?_⟩⟩;·rw[aI _ _ _ (by rw[hz];exact hb1),Ref.heap_set _ (Ref.heap_set _ R1.o.2.2.1.h)];simp;rfl
    refine aj ⟨?_,w1.heap.size,rfl,by omega,?_⟩;·show 0<=um st.eP st.fu st.t.a;unfold um;rw[aA ⟨h4,d1⟩];omega
    show(World.alloc _ _).heap[w1.heap.size]?=some (Obj.cells #[eF (um st.eP st.fu st.t.a),_] _);unfold um;rw[aA ⟨h4,d1⟩];exact XP hz
   have D4:Hid _:=d4;clear d4;go_wp2_with fail;go_end0
   refine⟨R1.o.1.kF _,ak ⟨_,_,_,R1.o.2.2.2,rfl,rfl,R1.o.2.1.with (td:=some ⟨ff,0,none⟩) ((Kp.refl _ _).kF _) rfl ⟨?_⟩ (lW.keep ?_ ((Kp.refl _ _).kF _))⟩⟩;·rw[Ref.heap_set _ R1.o.2.2.1.h];simp;rfl
   refine aj ⟨?_,ff,rfl,d3,?_⟩;·show 0<=um st.eP st.fu st.t.a;unfold um;rw[ah (by omega)];exact d1
   show _=some (Obj.cells #[eF (um st.eP st.fu st.t.a),_] _);unfold um;rw[ah (by omega)];exact D4.o
  have RD:Hid _:=rd;clear rd;go_wp2_with fail;go_end0
  refine⟨R1.o.1.kF _,ak ⟨_,_,_,R1.o.2.2.2,rfl,rfl,R1.o.2.1.with (td:=EP) ((Kp.refl _ _).kF _) rfl ⟨?_⟩ (lW.keep ?_ ((Kp.refl _ _).kF _))⟩⟩;·rw[Ref.heap_set _ R1.o.2.2.1.h];simp;rfl
  show lW w1 b eN (um st.eP st.fu st.t.a) EP;unfold um;rw[ah (by omega)];exact RD.o
 obtain⟨c,rfl⟩:=ht.form;refine⟨rfl,k1,aj ⟨p,?_,ht⟩⟩;unfold lS at hp;unfold BA;split at hp;·rename_i ho;rw[aA ho];exact XQ hp rfl
 rename_i ho;rw[ah ho];exact hp
theorem XT(b:Nat)(s x:dX)(st:eO)(eT eN:Addr)(w:dY)(r:Rd w b s st eT eN)(hs:s.size<=maxLen)(hn0:0<=st.eP)(hn1:st.eP<=2000000):fI 242 #[fq b,.string x] w (Out b s eT eN w (BD s x st) (fun _ _ v=>v=.tuple #[])):=by
 have R:Hid _:=r;clear r;go_enter func242,ntmps242;go_wp2_with fail;refine(Bw b s x st eT eN _ R.o hs).mono ?_;rintro e w1 ⟨k1,⟨t,st1,v,he,rfl,rfl,r1⟩|⟨p,hp,ht⟩⟩
 ·obtain⟨EP,ra,rd⟩:=r1.mem;obtain⟨c0,c1,c2,c3,c4,c5,f⟩:=oD ra.h;have ho:gN s st.t x=true/\st1=eZ s st:=by
   unfold lS at he;split at he;·rename_i ho;cases he;exact⟨ho,rfl⟩
   cases he
  obtain⟨ho,rfl⟩:=ho;have e1:BD s x st=.ok ((),rC (eZ s st)):=by rw[BD,aA ho]
  have rJ:(eZ s st).eP=st.eP:=rfl;rw[rJ]at c4;have R1:Hid (Kp b w w1/\Rd w1 b s (eZ s st) eT eN/\wh w1 b s (eZ s st).t (eZ s st).eP EP/\lW w1 b eN (eZ s st).fu EP/\BD s x st=.ok ((),rC (eZ s st))):=⟨k1,r1,ra,rd,e1⟩;clear k1 r1 ra rd he ho e1;go_wp2_with fail;go_end0
  refine⟨R1.o.1.kF _,ak ⟨_,_,_,R1.o.2.2.2.2,rfl,rfl,R1.o.2.1.with (td:=EP) ((Kp.refl _ _).kF _) rfl ⟨?_⟩ (lW.keep R1.o.2.2.2.1 ((Kp.refl _ _).kF _))⟩⟩;rw[Ref.heap_set _ R1.o.2.2.1.h];simp;rfl
 obtain⟨c,rfl⟩:=ht.form;refine⟨rfl,k1,aj ⟨p,?_,ht⟩⟩;unfold lS at hp;unfold BD;split at hp;·rename_i ho;rw[aA ho];exact XQ hp rfl
 rename_i ho;rw[ah ho];exact hp
def uD:Array dZ:=sQ.toArray
def tx:Nat->dX
 |0=>⟨#[43]⟩|1=>⟨#[45]⟩|2=>⟨#[42]⟩|3=>⟨#[47]⟩|4=>⟨#[60]⟩|5=>⟨#[61]⟩|_=>⟨#[35]⟩
def lv:Nat->Int
 |0=>1|1=>1|2=>2|3=>2|_=>0
def Dh:Nat->Int
 |5=>0|6=>0|_=>1
def Di:Nat->Int
 |0=>1|1=>1|2=>1|3=>1|_=>2
theorem zsu(W:dY):(Instr.index 389 (.agg uD) (eF 0)).run prog W=.ok (.agg #[.string (tx 0),eF (lv 0),eF (Dh 0),eF (Di 0)]) W:=by kernel_rfl
theorem zst(W:dY):(Instr.index 389 (.agg uD) (eF 1)).run prog W=.ok (.agg #[.string (tx 1),eF (lv 1),eF (Dh 1),eF (Di 1)]) W:=by kernel_rfl
theorem zss(W:dY):(Instr.index 389 (.agg uD) (eF 2)).run prog W=.ok (.agg #[.string (tx 2),eF (lv 2),eF (Dh 2),eF (Di 2)]) W:=by kernel_rfl
theorem zsr(W:dY):(Instr.index 389 (.agg uD) (eF 3)).run prog W=.ok (.agg #[.string (tx 3),eF (lv 3),eF (Dh 3),eF (Di 3)]) W:=by kernel_rfl
theorem zsq(W:dY):(Instr.index 389 (.agg uD) (eF 4)).run prog W=.ok (.agg #[.string (tx 4),eF (lv 4),eF (Dh 4),eF (Di 4)]) W:=by kernel_rfl
theorem zsp(W:dY):(Instr.index 389 (.agg uD) (eF 5)).run prog W=.ok (.agg #[.string (tx 5),eF (lv 5),eF (Dh 5),eF (Di 5)]) W:=by kernel_rfl
theorem zso(W:dY):(Instr.index 389 (.agg uD) (eF 6)).run prog W=.ok (.agg #[.string (tx 6),eF (lv 6),eF (Dh 6),eF (Di 6)]) W:=by kernel_rfl
theorem Rq(i:Nat)(hi:i<7)(W:dY):(Instr.index 389 (.agg uD) (eF (i:Int))).run prog W=.ok (.agg #[.string (tx i),eF (lv i),eF (Dh i),eF (Di i)]) W:=by
 have h:i=0\/i=1\/i=2\/i=3\/i=4\/i=5\/i=6:=by omega
 obtain rfl|rfl|rfl|rfl|rfl|rfl|rfl:=h;·exact zsu W
 ·exact zst W
 ·exact zss W
 ·exact zsr W
 ·exact zsq W
 ·exact zsp W
 exact zso W
theorem Gl.range(g:Gl w b eT eN):w.rangeAt 18 0 sQ:=fun j v hv=>by obtain⟨h1,h2⟩:=aT.1 hv;rw[cZ,<- h2];exact g.ops j h1
theorem zkk{Q:Exit->Act->dY->Prop}{ops:Array Oper}{rest:List Oper}{op:Oper}{a:Act}(g:Gl w b eT eN)(hgd:op.guard=none)(x:Operand)(ho:op.op=.load 389 x)(hx:a.eval x=.pointer (some ⟨18,0,none⟩))(h:wpList prog ops Q rest (a.put op.dst (.agg uD)) w):wpList prog ops Q (op::rest) a w:=wpList_load_mid hgd _ x ho _ 0 hx sQ (.array 7 388) g.range (by kernel_rfl) rfl (by kernel_rfl) h
def oF(s:dX)(t:iy)(l:Int):Nat->Nat->Option Nat
 |0,_=>none
 |n+1,i=>if lv i=l/\gN s t (tx i)=true then some i else oF s t l n (i+1)
def qK(s:dX)(l:Int)(st:eO):Except Nat (Option Nat×eO):=
 match oF s st.t l 7 0 with
 |some i=>.ok (some i,eZ s st)
 |none=>.ok (none,st)
theorem Rt(b:Nat)(s:dX)(l:Int)(st:eO)(eT eN:Addr)(w:dY)(r:Rd w b s st eT eN)(hs:s.size<=maxLen):fI 259 #[fq b,eF l] w
   (Out b s eT eN w (qK s l st) (fun _ o v=>v=.tuple #[eF (o.getD 0:Nat),eF (st.t.a:Int),.bool o.isSome])):=by
 obtain⟨td,c0,c1,c2,c3,c4,c5,f⟩:=r.cells;have hb:=r.lt;have R:Hid _:=r;go_enter func259,ntmps259;go_upto_region 2 with fail
 refine wp_region_lit (zkk R.o.gl rfl _ rfl rfl ?_);go_wp2_with fail;go_loopw [16] (fun vi wr=>∃i:Nat,vi=eF i/\i<=7/\Hid (Kp b w wr/\Rd wr b s st eT eN/\oF s st.t l 7 0=oF s st.t l (7-i) i)) (fun vi _=>7-(intOf vi).toNat)
 case atStart=>exact⟨0,rfl,by omega,Kp.refl _ _,R.o,rfl⟩
 case round=>
  obtain⟨i,rfl,hi,HR⟩:=hrel;by_cases hlt:i<7
  ·have hix:=Rq i hlt;by_cases hl:lv i=l
   ·subst hl;cases ho:gN s st.t (tx i);·have hnext:Hid (oF s st.t (lv i) 7 0=oF s st.t (lv i) (7-(i+1)) (i+1)):=HR.o.2.2.trans (by rw[show 7-i=(7-(i+1))+1 by omega,oF,ah (by simp[ho])]);go_wp2_with fail;refine(pE b s (tx i) st eT eN _ (HR.o.2.1.alloc _) ho).mono ?_;rintro e w1 ⟨rfl,rfl⟩;go_wp2_with fail;exact⟨⟨i+1,by go_num,by omega,HR.o.1.alloc _,HR.o.2.1.alloc _,hnext.o⟩,by simp[intOf];omega⟩
    ·have hfound:Hid (qK s (lv i) st=.ok (some i,eZ s st)):=by unfold Hid qK;rw[HR.o.2.2,show 7-i=(7-(i+1))+1 by omega,oF,aA ⟨rfl,ho⟩]
     go_wp2_with fail;refine(yD b s (tx i) st eT eN _ (HR.o.2.1.alloc _) hs ho).mono ?_;rintro e w1 ⟨k1,⟨t,st1,v,he,rfl,rfl,r1⟩|⟨p,hp,ht⟩⟩
     ·cases he;have R1:Hid (_/\_):=⟨k1,r1⟩;go_wp2_with fail;go_ret3
      exact⟨HR.o.1.trans R1.o.1.wZ,ak ⟨_,_,_,hfound.o,rfl,rfl,R1.o.2⟩⟩
     ·obtain⟨c,rfl⟩:=ht.form;exact⟨rfl,HR.o.1.trans k1.wZ,aj ⟨p,by rw[hfound.o];exact Dg hp,ht.low (by have:=HR.o.1.size;simp;omega)⟩⟩
   ·have hl':(lv i==l)=false:=by simpa using hl
    have hnext:Hid (oF s st.t l 7 0=oF s st.t l (7-(i+1)) (i+1)):=HR.o.2.2.trans (by rw[show 7-i=(7-(i+1))+1 by omega,oF,ah (by simp[hl])]);go_wp2_with fail;exact⟨⟨i+1,by go_num,by omega,HR.o.1.alloc _,HR.o.2.1.alloc _,hnext.o⟩,by simp[intOf];omega⟩
  ·obtain rfl:i=7:=by omega
   have hnone:Hid (qK s l st=.ok (none,st)):=by unfold Hid qK;rw[HR.o.2.2];rfl
   go_wp2_with fail;go_ret3
   exact⟨HR.o.1,ak ⟨_,_,_,hnone.o,rfl,rfl,HR.o.2.1⟩⟩
theorem zwo(s:dX)(st:eO):oF s st.t 1 7 0=if gN s st.t ⟨#[43]⟩=true then some 0 else if gN s st.t ⟨#[45]⟩=true then some 1 else none:=by simp[oF,lv,tx]
theorem zsv(s:dX)(st:eO):oF s st.t 2 7 0=if gN s st.t ⟨#[42]⟩=true then some 2 else if gN s st.t ⟨#[47]⟩=true then some 3 else none:=by simp[oF,lv,tx]
theorem XU(s:dX)(st:eO):oF s st.t 0 7 0=if gN s st.t ⟨#[60]⟩=true then some 4 else if gN s st.t ⟨#[61]⟩=true then some 5 else if gN s st.t ⟨#[35]⟩=true then some 6 else none:=by simp[oF,lv,tx]
def jU(o:Nat):Nat:=if o=43 then 0 else if o=45 then 1 else if o=42 then 2 else if o=47 then 3 else if o=60 then 4 else if o=61 then 5 else 6
def ku(w:dY):fG->(Nat->Prop)->dZ->Prop
 |⟨op,n,eH,_,own,none,none⟩,ok,v=>∃q,ok q /\
   ((op=110/\v=.iface 313 (Ref.ptr q)/\w.heap[q]?=some (.cells #[eF (n:Int),eF (own:Int)] 322)) \/
    (op=119/\v=.iface 282 (Ref.ptr q)/\w.heap[q]?=some (.cells #[.string eH,eF (own:Int)] 289)) \/
    (op=116/\v=.iface 323 (Ref.ptr q)/\w.heap[q]?=some (.cells #[.bool (n==1)] 325)))
 |⟨op,_,_,_,own,some l,none⟩,ok,v=>op=33/\∃q tl ql,ok q/\v=.iface 326 (Ref.ptr q)/\w.heap[q]?=some (.cells #[.iface tl (Ref.ptr ql),eF (own:Int)] 328)/\ku w l ok (.iface tl (Ref.ptr ql))
 |⟨op,_,_,_,own,some l,some r⟩,ok,v=>∃q tl ql tr qr,ok q/\v=.iface 329 (Ref.ptr q)/\w.heap[q]?=some (.cells #[eF (jU op:Int),.iface tl (Ref.ptr ql),.iface tr (Ref.ptr qr),eF (own:Int)] 332)/\ku w l ok (.iface tl (Ref.ptr ql))/\ku w r ok (.iface tr (Ref.ptr qr))
 |⟨_,_,_,_,_,none,some _⟩,_,_=>False
variable{ok ok':Nat->Prop}
theorem ku.form{x:fG}(h:ku w x ok v):∃t q,v=.iface t (Ref.ptr q):=by
 match x with
 |⟨op,n,eH,pl,own,none,none⟩=>obtain⟨q,h1,⟨h2,h3,h4⟩|⟨h2,h3,h4⟩|⟨h2,h3,h4⟩⟩:=h<;>exact⟨_,q,h3⟩
 |⟨op,n,eH,pl,own,some l,none⟩=>obtain⟨h0,q,tl,ql,h1,h2,h3⟩:=h;exact⟨_,q,h2⟩
 |⟨op,n,eH,pl,own,some l,some r⟩=>obtain⟨q,tl,ql,tr,qr,h1,h2,h3⟩:=h;exact⟨_,q,h2⟩
 |⟨_,_,_,_,_,none,some _⟩=>exact h.elim
theorem ku.mono{w:dY}{x:fG}{ok ok':Nat->Prop}{v:dZ}(h:ku w x ok v)(hk:∀k,ok k->ok' k):ku w x ok' v:=by
 match x with
 |⟨op,n,eH,pl,own,none,none⟩=>obtain⟨q,h1,h2⟩:=h;exact⟨q,hk _ h1,h2⟩
 |⟨op,n,eH,pl,own,some l,none⟩=>obtain⟨h0,q,tl,ql,h1,h2,h3,h4⟩:=h;exact⟨h0,q,tl,ql,hk _ h1,h2,h3,h4.mono hk⟩
 |⟨op,n,eH,pl,own,some l,some r⟩=>obtain⟨q,tl,ql,tr,qr,h1,h2,h3,h4,h5⟩:=h;exact⟨q,tl,ql,tr,qr,hk _ h1,h2,h3,h4.mono hk,h5.mono hk⟩
 |⟨_,_,_,_,_,none,some _⟩=>exact h.elim
theorem ku.keep{w w':dY}{x:fG}{ok:Nat->Prop}{v:dZ}(h:ku w x ok v)(hk:∀k,ok k->w'.heap[k]?=w.heap[k]?):ku w' x ok v:=by
 match x with
 |⟨op,n,eH,pl,own,none,none⟩=>obtain⟨q,h1,h2⟩:=h;exact⟨q,h1,by rw[hk _ h1];exact h2⟩
 |⟨op,n,eH,pl,own,some l,none⟩=>obtain⟨h0,q,tl,ql,h1,h2,h3,h4⟩:=h;exact⟨h0,q,tl,ql,h1,h2,by rw[hk _ h1];exact h3,h4.keep hk⟩
 |⟨op,n,eH,pl,own,some l,some r⟩=>obtain⟨q,tl,ql,tr,qr,h1,h2,h3,h4,h5⟩:=h;exact⟨q,tl,ql,tr,qr,h1,h2,by rw[hk _ h1];exact h3,h4.keep hk,h5.keep hk⟩
 |⟨_,_,_,_,_,none,some _⟩=>exact h.elim
theorem ku.eD{x:fG}(h:ku w x ok v)(a:Nat):ku w {x with pl:=a} ok v:=by match x with| ⟨op,n,eH,pl,own,none,none⟩=>exact h| ⟨op,n,eH,pl,own,some l,none⟩=>exact h| ⟨op,n,eH,pl,own,some l,some r⟩=>exact h| ⟨_,_,_,_,_,none,some _⟩=>exact h.elim
theorem ku.kp{x:fG}(h:ku w1 x (gD w w1) v)(hb:b<w.heap.size)(k:Kp b w1 w2):ku w2 x (gD w w2) v:=(h.keep fun i hi=>k.block i hi.2 (by have:=hi.1;omega)).mono fun i hi=>⟨hi.1,aJ hi.2 k.size⟩
variable{y:fG}
theorem ku.pair{x:fG}{own:Nat}(hb:b<w.heap.size)(hx:ku wr x (gD w wr) (.iface tl (Ref.ptr ql)))(k:Kp b wr w3)(h1:Kp b w wr)(hy:ku w3 y (gD wr w3) (.iface tr (Ref.ptr qr))):ku (w3.alloc (.cells #[eF (jU o:Int),.iface tl (Ref.ptr ql),.iface tr (Ref.ptr qr),eF (own:Int)] 332)) ⟨o,0,iF,pl,own,some x,some y⟩ (gD w (w3.alloc (.cells #[eF (jU o:Int),.iface tl (Ref.ptr ql),.iface tr (Ref.ptr qr),eF (own:Int)] 332))) (.iface 329 (Ref.ptr w3.heap.size)):=by
 have s1:=h1.size;have s2:=k.size;refine⟨w3.heap.size,tl,ql,tr,qr,⟨by omega,by simp⟩,rfl,jX,?_,?_⟩;·exact(hx.kp hb k).kp hb ((Kp.refl b w3).alloc _)
 exact((hy.keep fun i hi=>aI _ _ _ hi.2).mono fun i hi=>⟨by have:=hi.1;omega,by have:=hi.2;simp;omega⟩)
def ES(s:dX)(b:Nat)(w:dY):Nat:=
 match w.heap[b]? with
 |some (Obj.cells c _ _)=>(match c[3]? with
  |some (Value.int _ a)=>s.size+1-a.toNat
  |_=>0)
 |_=>0
theorem JV(r:Rd w b s st eT eN):ES s b w=s.size+1-st.t.a:=by obtain⟨td,ra,_⟩:=r.mem;simp[ES,ra.h]
theorem sS{t:iy}(h:t.k=63)(x:dX):gN s t x=false:=by unfold gN;rw[h];rfl
theorem yG{r:Except Nat (α×eO)}(h:fin r=.error p):r=.error p\/∃x st,r=.ok (x,st)/\st.t.k=63/\p=st.t.a:=by
 cases r with| error q=>left;exact h| ok y=>
 obtain⟨x,st⟩:=y;obtain⟨h1,h2⟩:=tZ h;exact aj ⟨x,st,rfl,h1,h2⟩
theorem nR(x:α)(h:st.t.k=63):fin (.ok (x,st))=.error st.t.a:=by unfold fin;simp only;rw[aA h]
def Late{α:Type}(g:eO->Except Nat (α×eO)):Prop:=∀st,st.t.k=63->fin (g st)=.error st.t.a
theorem zds(s:dX)(g:eO->Except Nat (fG×eO))(a b:UInt8)(m pl:Nat)(e:fG)(st:eO)(h:st.t.k=63):fin (gQ s g a b m pl e st)=.error st.t.a:=by cases m with| zero=>rfl| succ m=>rw[gQ,ah (by simp[sS h]),ah (by simp[sS h])];exact nR _ h
variable{g:eO->Except Nat (fG×eO)}{r:Except Nat (fG×eO)}
theorem ET{a b:UInt8}{f:fG->fG}(h:fin r=.error p):fin (match r with
   |.error p=>.error p
   |.ok (k,st')=>gQ s g a b m pl (f k) st')=.error p:=by
 obtain rfl|⟨x,st,rfl,h1,rfl⟩:=yG h;·rfl
 ·exact zds s g a b m pl _ st h1
theorem Ru(s:dX)(hg:Late g)(a b:UInt8):Late (Px.row s g a b):=by intro st h;have:=hg st h;unfold Px.row;exact ET (f:=id) this
theorem XW(s:dX)(hg:Late g):Late (Px.sum s g):=Ru s (Ru s hg _ _) _ _
theorem XY{t:iy}(h:t.k=63):qU s t=none:=by unfold qU;rw[sS h,sS h,sS h];rfl
theorem XZ(s:dX)(hg:Late g):Late (Px.expr s g):=by
 intro st h;have:=XW s hg st h;unfold Px.expr;obtain h1|⟨x,st1,h1,h2,h3⟩:=yG this;·rw[h1];rfl
 rw[h1];simp only;rw[XY h2];simp only;rw[h3];exact nR _ h2
theorem JW(s:dX)(n:Nat):Late (fH s n):=by
 intro st h;cases n with| zero=>rfl| succ n=>
 rw[fH,ah (by omega),ah (by omega),ah (by simp[sS h]),ah (by simp[sS h]),ah (by simp[sS h]),ah (by simp[sS h])];rfl
theorem Rv(s:dX):Late (lG s):=XZ s (JW s _)
def XV(w:dY):dY->fG->dZ->Prop:=fun w' x v=>ku w' x (gD w w') v
def yH(b:Nat)(s:dX)(n:Nat)(eT eN:Addr)(F:Nat)(g:eO->Except Nat (fG×eO)):Prop :=∀(st:eO)(w:dY),iH s n st->Rd w b s st eT eN->Calls prog F #[fq b] w (Out b s eT eN w (g st) (XV w))
def JX(b:Nat)(s:dX)(n:Nat)(eT eN:Addr)(g:eO->Except Nat (fG×eO))(oa ob:UInt8)(pl:Nat)(R:Except Nat (fG×eO))(w wr:dY)(v:dZ):Prop:=Kp b w wr/\∃x st m,ku wr x (gD w wr) v/\Rd wr b s st eT eN/\iH s n st/\gQ s g oa ob m pl x st=R/\s.size-st.t.a<m
variable{oa ob:UInt8}{l:Int}
theorem NP(hop:∀st:eO,oF s st.t l 7 0=if gN s st.t ⟨#[oa]⟩=true then some (jU oa.toNat)else if gN s st.t ⟨#[ob]⟩=true then some (jU ob.toNat)else none){x:fG}(h:oF s st.t l 7 0=some i):st.t.k=107/\∃o:Nat,i=jU o/\gQ s g oa ob (m+1) pl x st=(match g (eZ s st)with
   |.error p=>.error p
   |.ok (k,st')=>gQ s g oa ob m pl ⟨o,0,iF,pl,st.t.a,some x,some k⟩ st'):=by
 rw[hop]at h;split at h;·rename_i h1;cases h;refine⟨uT h1,oa.toNat,rfl,?_⟩;rw[gQ,aA h1];cases g (eZ s st)<;>rfl
 ·split at h;·rename_i h1 h2;cases h;refine⟨uT h2,ob.toNat,rfl,?_⟩;rw[gQ,ah h1,aA h2];cases g (eZ s st)<;>rfl
  ·cases h
theorem X0(hop:∀st:eO,oF s st.t l 7 0=if gN s st.t ⟨#[oa]⟩=true then some (jU oa.toNat)else if gN s st.t ⟨#[ob]⟩=true then some (jU ob.toNat)else none){x:fG}(h:oF s st.t l 7 0=none):gQ s g oa ob (m+1) pl x st=.ok (x,st):=by
 rw[hop]at h;split at h;·cases h
 split at h;·cases h
 rename_i h1 h2;rw[gQ,ah h1,ah h2]
theorem X4{R:Except Nat (fG×eO)}{x:fG}(hb:b<w.heap.size)(hg:fP s g)(KR:Kp b w wr)(X:ku wr x (gD w wr) (.iface tl (Ref.ptr ql)))(D1:iH s n st1)(hk:st1.t.k=107)(K2:Kp b wr w2)(K3:Kp b w2 w3)(hm:s.size-st1.t.a<m+1)(CH:(match g (eZ s st1)with
   |.error p=>.error p
   |.ok (k,st')=>gQ s g oa ob m pl ⟨o,0,iF,pl,st1.t.a,some x,some k⟩ st')=R)(hr:g (eZ s st1)=.ok (y,st'))(Y:ku w3 y (gD w2 w3) (.iface tr (Ref.ptr qr)))(R3:Rd w3 b s st' eT eN):
  JX b s n eT eN g oa ob pl R w (w3.alloc (.cells #[eF (jU o:Int),.iface tl (Ref.ptr ql),.iface tr (Ref.ptr qr),eF (st1.t.a:Int)] 332)) (.iface 329 (Ref.ptr w3.heap.size)) /\
   ES s b (w3.alloc (.cells #[eF (jU o:Int),.iface tl (Ref.ptr ql),.iface tr (Ref.ptr qr),eF (st1.t.a:Int)] 332))<s.size+1-st1.t.a:=by
 have g0:iV s st1 (eZ s st1):=wJ D1.tk (by omega) (by omega);have g1:=g0.trans (hg _ _ _ g0.tk hr);have g2:=g1.lt;have g3:=g1.tk.ab;have g4:=g1.tk.le;have z2:=K2.size;have Y':ku w3 y (gD wr w3) (.iface tr (Ref.ptr qr)):=Y.mono fun i hi=>⟨by have:=hi.1;omega,hi.2⟩;rw[hr]at CH;refine⟨⟨((KR.trans K2).trans K3).alloc _,_,st',m,ku.pair hb X (K2.trans K3) KR Y',R3.alloc _,D1.good g1,CH,by omega⟩,?_⟩;rw[JV (R3.alloc _)];omega
theorem zdr(b:Nat)(s:dX)(n:Nat)(eT eN:Addr)(g:eO->Except Nat (fG×eO))(hp:yH b s n eT eN 274 g)(hg:fP s g)(hl:Late g)(hs:s.size<=maxLen)(st:eO)(w:dY)(hD:iH s n st)(r:Rd w b s st eT eN):fI 269 #[fq b,eF 2,.func (.func 274) #[fq b] #[]] w (Out b s eT eN w (Px.row s g 42 47 st) (XV w)):=by
 have hb:=r.lt;have R:Hid (Rd w b s st eT eN/\iH s n st):=⟨r,hD⟩;have HP:Hid _:=hp;have HG:Hid (fP s g/\Late g):=⟨hg,hl⟩;have EU:Hid (∀st:eO,oF s st.t 2 7 0=if gN s st.t ⟨#[42]⟩=true then some (jU (42:UInt8).toNat)else if gN s st.t ⟨#[47]⟩=true then some (jU (47:UInt8).toNat)else none):=fun st=>zsv s st;go_enter func269,ntmps269;go_wp2_with fail;refine(HP.o st _ R.o.2 R.o.1).mono ?_;rintro e w1 ⟨k1,⟨x,st1,v,he,rfl,hv,r1⟩|⟨p,hp,ht⟩⟩
 ·have hrow:Px.row s g 42 47 st=gQ s g 42 47 (s.size+1) st.t.a x st1:=by unfold Px.row;rw[he]
  generalize hRR:Px.row s g 42 47 st=RR at *;have D1:=R.o.2.good (HG.o.1 _ _ _ R.o.1.tk he);have HS:Hid (JX b s n eT eN g 42 47 st.t.a RR w w1 v):=⟨k1,x,st1,s.size+1,hv,r1,D1,hrow.symm,by omega⟩;go_wp2_with fail;go_loopw [7] (fun v wr=>Hid (JX b s n eT eN g 42 47 st.t.a RR w wr v)) (fun _ wr=>ES s b wr)
  case atStart=>exact HS.o
  case round=>
   obtain⟨kr,x,st1,m,hx,r1,D1,CH,hm⟩:=hrel.o;obtain⟨tl,ql,rfl⟩:=hx.form;unfold Ref.ptr at hx |-;obtain⟨m,rfl⟩:∃m',m=m'+1:=⟨m-1,by omega⟩;have KR:Hid (Kp b w wr/\ku wr x (gD w wr) (.iface tl (fq ql))/\Rd wr b s st1 eT eN/\iH s n st1/\gQ s g 42 47 (m+1) st.t.a x st1=RR):=⟨kr,hx,r1,D1,CH⟩;go_wp2_with fail;refine(Rt b s 2 st1 eT eN _ KR.o.2.2.1 hs).mono ?_;rintro e w2 ⟨k2,⟨o,st2,v,he,rfl,rfl,r2⟩|⟨p,hp,ht⟩⟩
   ·cases hf:oF s st1.t 2 7 0 with
    |none=>
     have he':qK s 2 st1=.ok (none,st1):=by unfold qK;rw[hf]
     rw[he']at he;cases he;have hR:Hid (RR=.ok (x,st1)):=KR.o.2.2.2.2.symm.trans (X0 EU.o hf);have R2:Hid (Kp b wr w2/\Rd w2 b s st1 eT eN):=⟨k2,r2⟩;go_wp2_with fail;go_ret;refine⟨KR.o.1.trans R2.o.1,ak ⟨x,st1,_,hR.o,rfl,?_,R2.o.2⟩⟩;exact ku.kp KR.o.2.1 hb R2.o.1
    |some i=>
    have he':qK s 2 st1=.ok (some i,eZ s st1):=by unfold qK;rw[hf]
    rw[he']at he;cases he;obtain⟨hk,o,rfl,hch⟩:=NP (g:=g) (m:=m) (pl:=st.t.a) (x:=x) EU.o hf;have HC:Hid (_/\_):=⟨hk,hch.symm.trans KR.o.2.2.2.2⟩;have R2:Hid (Kp b wr w2/\Rd w2 b s (eZ s st1) eT eN):=⟨k2,r2⟩;have D2:Hid (iH s n (eZ s st1)):=KR.o.2.2.2.1.good (wJ KR.o.2.2.1.tk (by omega) (by omega));go_wp2_with fail;refine(HP.o (eZ s st1) _ D2.o R2.o.2).mono ?_;rintro e w3 ⟨k3,⟨y,jg,v,hy,rfl,hv,r3⟩|⟨p,hp,ht⟩⟩;·obtain⟨tr,qr,rfl⟩:=ku.form hv;have M:=JV KR.o.2.2.1;have ST:Hid (_/\_):=X4 hb HG.o.1 KR.o.1 KR.o.2.1 KR.o.2.2.2.1 HC.o.1 R2.o.1 k3 hm HC.o.2 hy hv r3;rw[<- M]at ST;unfold Ref.ptr at ST |-;go_wp2_with fail;exact ST.o
    obtain⟨c,rfl⟩:=ht.form;exact⟨rfl,(KR.o.1.trans R2.o.1).trans k3,aj ⟨p,by rw[<- HC.o.2];exact ET hp,ht.low (KR.o.1.trans R2.o.1).size⟩⟩
   obtain⟨c,rfl⟩:=ht.form;have hfin:fin RR=.error p:=by
    cases hf:oF s st1.t 2 7 0 with
    |none=>
     have he':qK s 2 st1=.ok (none,st1):=by unfold qK;rw[hf]
     rw[he']at hp;exact absurd (tZ hp).1 KR.o.2.2.1.yC
    |some i=>
    have he':qK s 2 st1=.ok (some i,eZ s st1):=by unfold qK;rw[hf]
    rw[he']at hp;obtain⟨h1,rfl⟩:=tZ hp;obtain⟨hk,o,rfl,hch⟩:=NP (g:=g) (m:=m) (pl:=st.t.a) (x:=x) EU.o hf;rw[<- KR.o.2.2.2.2,hch];exact ET (HG.o.2 _ h1)
   exact⟨rfl,KR.o.1.trans k2,aj ⟨p,hfin,ht.low KR.o.1.size⟩⟩
 obtain⟨c,rfl⟩:=ht.form;exact⟨rfl,k1,aj ⟨p,by unfold Px.row;exact ET (f:=id) hp,ht⟩⟩
theorem zjc(b:Nat)(s:dX)(n:Nat)(eT eN:Addr)(g:eO->Except Nat (fG×eO))(hp:yH b s n eT eN 270 g)(hg:fP s g)(hl:Late g)(hs:s.size<=maxLen)(st:eO)(w:dY)(hD:iH s n st)(r:Rd w b s st eT eN):fI 269 #[fq b,eF 1,.func (.func 270) #[fq b] #[]] w (Out b s eT eN w (Px.row s g 43 45 st) (XV w)):=by
 have hb:=r.lt;have R:Hid (Rd w b s st eT eN/\iH s n st):=⟨r,hD⟩;have HP:Hid _:=hp;have HG:Hid (fP s g/\Late g):=⟨hg,hl⟩;have EU:Hid (∀st:eO,oF s st.t 1 7 0=if gN s st.t ⟨#[43]⟩=true then some (jU (43:UInt8).toNat)else if gN s st.t ⟨#[45]⟩=true then some (jU (45:UInt8).toNat)else none):=fun st=>zwo s st;go_enter func269,ntmps269;go_wp2_with fail;refine(HP.o st _ R.o.2 R.o.1).mono ?_;rintro e w1 ⟨k1,⟨x,st1,v,he,rfl,hv,r1⟩|⟨p,hp,ht⟩⟩
 ·have hrow:Px.row s g 43 45 st=gQ s g 43 45 (s.size+1) st.t.a x st1:=by unfold Px.row;rw[he]
  generalize hRR:Px.row s g 43 45 st=RR at *;have D1:=R.o.2.good (HG.o.1 _ _ _ R.o.1.tk he);have HS:Hid (JX b s n eT eN g 43 45 st.t.a RR w w1 v):=⟨k1,x,st1,s.size+1,hv,r1,D1,hrow.symm,by omega⟩;go_wp2_with fail;go_loopw [7] (fun v wr=>Hid (JX b s n eT eN g 43 45 st.t.a RR w wr v)) (fun _ wr=>ES s b wr)
  case atStart=>exact HS.o
  case round=>
   obtain⟨kr,x,st1,m,hx,r1,D1,CH,hm⟩:=hrel.o;obtain⟨tl,ql,rfl⟩:=hx.form;unfold Ref.ptr at hx |-;obtain⟨m,rfl⟩:∃m',m=m'+1:=⟨m-1,by omega⟩;have KR:Hid (Kp b w wr/\ku wr x (gD w wr) (.iface tl (fq ql))/\Rd wr b s st1 eT eN/\iH s n st1/\gQ s g 43 45 (m+1) st.t.a x st1=RR):=⟨kr,hx,r1,D1,CH⟩;go_wp2_with fail;refine(Rt b s 1 st1 eT eN _ KR.o.2.2.1 hs).mono ?_;rintro e w2 ⟨k2,⟨o,st2,v,he,rfl,rfl,r2⟩|⟨p,hp,ht⟩⟩
   ·cases hf:oF s st1.t 1 7 0 with
    |none=>
     have he':qK s 1 st1=.ok (none,st1):=by unfold qK;rw[hf]
     rw[he']at he;cases he;have hR:Hid (RR=.ok (x,st1)):=KR.o.2.2.2.2.symm.trans (X0 EU.o hf);have R2:Hid (Kp b wr w2/\Rd w2 b s st1 eT eN):=⟨k2,r2⟩;go_wp2_with fail;go_ret;refine⟨KR.o.1.trans R2.o.1,ak ⟨x,st1,_,hR.o,rfl,?_,R2.o.2⟩⟩;exact ku.kp KR.o.2.1 hb R2.o.1
    |some i=>
    have he':qK s 1 st1=.ok (some i,eZ s st1):=by unfold qK;rw[hf]
    rw[he']at he;cases he;obtain⟨hk,o,rfl,hch⟩:=NP (g:=g) (m:=m) (pl:=st.t.a) (x:=x) EU.o hf;have HC:Hid (_/\_):=⟨hk,hch.symm.trans KR.o.2.2.2.2⟩;have R2:Hid (Kp b wr w2/\Rd w2 b s (eZ s st1) eT eN):=⟨k2,r2⟩;have D2:Hid (iH s n (eZ s st1)):=KR.o.2.2.2.1.good (wJ KR.o.2.2.1.tk (by omega) (by omega));go_wp2_with fail;refine(HP.o (eZ s st1) _ D2.o R2.o.2).mono ?_;rintro e w3 ⟨k3,⟨y,jg,v,hy,rfl,hv,r3⟩|⟨p,hp,ht⟩⟩;·obtain⟨tr,qr,rfl⟩:=ku.form hv;have M:=JV KR.o.2.2.1;have ST:Hid (_/\_):=X4 hb HG.o.1 KR.o.1 KR.o.2.1 KR.o.2.2.2.1 HC.o.1 R2.o.1 k3 hm HC.o.2 hy hv r3;rw[<- M]at ST;unfold Ref.ptr at ST |-;go_wp2_with fail;exact ST.o
    obtain⟨c,rfl⟩:=ht.form;exact⟨rfl,(KR.o.1.trans R2.o.1).trans k3,aj ⟨p,by rw[<- HC.o.2];exact ET hp,ht.low (KR.o.1.trans R2.o.1).size⟩⟩
   obtain⟨c,rfl⟩:=ht.form;have hfin:fin RR=.error p:=by
    cases hf:oF s st1.t 1 7 0 with
    |none=>
     have he':qK s 1 st1=.ok (none,st1):=by unfold qK;rw[hf]
     rw[he']at hp;exact absurd (tZ hp).1 KR.o.2.2.1.yC
    |some i=>
    have he':qK s 1 st1=.ok (some i,eZ s st1):=by unfold qK;rw[hf]
    rw[he']at hp;obtain⟨h1,rfl⟩:=tZ hp;obtain⟨hk,o,rfl,hch⟩:=NP (g:=g) (m:=m) (pl:=st.t.a) (x:=x) EU.o hf;rw[<- KR.o.2.2.2.2,hch];exact ET (HG.o.2 _ h1)
   exact⟨rfl,KR.o.1.trans k2,aj ⟨p,hfin,ht.low KR.o.1.size⟩⟩
 obtain⟨c,rfl⟩:=ht.form;exact⟨rfl,k1,aj ⟨p,by unfold Px.row;exact ET (f:=id) hp,ht⟩⟩
theorem zk9(b:Nat)(s:dX)(n:Nat)(eT eN:Addr)(g:eO->Except Nat (fG×eO))(hp:yH b s n eT eN 274 g)(hg:fP s g)(hl:Late g)(hs:s.size<=maxLen):yH b s n eT eN 270 (qm s g):=by
 intro st w hD r;have H:Hid (_/\_/\_):=⟨hp,hD,r⟩;go_enter func270,ntmps270;go_wp2_with fail;refine(zdr b s n eT eN g H.o.1 hg hl hs st _ H.o.2.1 H.o.2.2).mono ?_;rintro e w1 ⟨k1,⟨x,st1,v,he,rfl,hv,r1⟩|⟨p,hp,ht⟩⟩;·have H1:Hid (_/\_/\_/\_):=⟨k1,he,hv,r1⟩;go_wp2_with fail;go_ret;exact⟨H1.o.1,ak ⟨x,st1,_,H1.o.2.1,rfl,H1.o.2.2.1,H1.o.2.2.2⟩⟩
 obtain⟨c,rfl⟩:=ht.form;exact⟨rfl,k1,aj ⟨p,hp,ht⟩⟩
theorem zro(b:Nat)(s:dX)(n:Nat)(eT eN:Addr)(g:eO->Except Nat (fG×eO))(hp:yH b s n eT eN 274 g)(hg:fP s g)(hl:Late g)(hs:s.size<=maxLen):yH b s n eT eN 258 (Px.sum s g):=by
 intro st w hD r;have H:Hid (_/\_/\_):=⟨zk9 b s n eT eN g hp hg hl hs,hD,r⟩;go_enter func258,ntmps258;go_wp2_with fail;refine(zjc b s n eT eN (qm s g) H.o.1 (D7 hg) (Ru s hl _ _) hs st _ H.o.2.1 H.o.2.2).mono ?_;rintro e w1 ⟨k1,⟨x,st1,v,he,rfl,hv,r1⟩|⟨p,hp,ht⟩⟩;·have H1:Hid (_/\_/\_/\_):=⟨k1,he,hv,r1⟩;go_wp2_with fail;go_ret;exact⟨H1.o.1,ak ⟨x,st1,_,H1.o.2.1,rfl,H1.o.2.2.1,H1.o.2.2.2⟩⟩
 obtain⟨c,rfl⟩:=ht.form;exact⟨rfl,k1,aj ⟨p,hp,ht⟩⟩
theorem X5(h:oF s st.t 0 7 0=some i):st.t.k=107/\∃o,i=jU o/\qU s st.t=some o:=by
 rw[XU]at h;unfold qU;split at h;·rename_i h1;cases h;exact⟨uT h1,60,rfl,by rw[aA h1]⟩
 split at h;·rename_i h1 h2;cases h;exact⟨uT h2,61,rfl,by rw[ah h1,aA h2]⟩
 split at h;·rename_i h1 h2 h3;cases h;exact⟨uT h3,35,rfl,by rw[ah h1,ah h2,aA h3]⟩
 cases h
theorem Qw(h:oF s st.t 0 7 0=none):qU s st.t=none:=by
 rw[XU]at h;unfold qU;split at h;·cases h
 split at h;·cases h
 split at h;·cases h
 rename_i h1 h2 h3;rw[ah h1,ah h2,ah h3]
theorem X6(h:oF s st.t l 7 0=some i):qK s l st=.ok (some i,eZ s st):=by unfold qK;rw[h]
theorem X7(h:oF s st.t l 7 0=none):qK s l st=.ok (none,st):=by unfold qK;rw[h]
theorem EW(b:Nat)(s:dX)(n:Nat)(eT eN:Addr)(g:eO->Except Nat (fG×eO))(hp:yH b s n eT eN 274 g)(hg:fP s g)(hl:Late g)(hs:s.size<=maxLen):yH b s n eT eN 236 (Px.expr s g):=by
 intro st w hD r;have hb:=r.lt;have HS:Hid (yH b s n eT eN 258 (Px.sum s g)):=zro b s n eT eN g hp hg hl hs;have H:Hid (iH s n st/\Rd w b s st eT eN/\fP s (Px.sum s g)/\Late (Px.sum s g)):=⟨hD,r,AY hg,XW s hl⟩;go_enter func236,ntmps236;go_wp2_with fail;refine(HS.o st _ H.o.1 H.o.2.1).mono ?_;rintro e w1 ⟨k1,⟨x,st1,v,he,rfl,hv,r1⟩|⟨p,hp,ht⟩⟩
 ·obtain⟨tl,ql,rfl⟩:=ku.form hv;unfold Ref.ptr at hv |-;have H1:Hid (Kp b w w1/\Px.sum s g st=.ok (x,st1)/\ku w1 x (gD w w1) (.iface tl (fq ql))/\Rd w1 b s st1 eT eN):=⟨k1,he,hv,r1⟩;have G1:Hid (iV s st st1):=H.o.2.2.1 _ _ _ H.o.2.1.tk he;go_wp2_with fail;refine(Rt b s 0 st1 eT eN _ H1.o.2.2.2 hs).mono ?_;rintro e w2 ⟨k2,⟨o,st2,v,he,rfl,rfl,r2⟩|⟨p,hp,ht⟩⟩
  ·cases hf:oF s st1.t 0 7 0 with
   |none=>
    rw[X7 hf]at he;cases he;have E:Hid (Px.expr s g st=.ok (x,st1)):=by unfold Hid Px.expr;rw[H1.o.2.1];simp only;rw[Qw hf]
    have R2:Hid (Kp b w1 w2/\Rd w2 b s st1 eT eN):=⟨k2,r2⟩;go_wp2_with fail;go_ret;exact⟨H1.o.1.trans R2.o.1,ak ⟨x,st1,_,E.o,rfl,ku.kp H1.o.2.2.1 hb R2.o.1,R2.o.2⟩⟩
   |some i=>
   rw[X6 hf]at he;cases he;obtain⟨hk,o,rfl,hc⟩:=X5 hf;have HC:Hid (st1.t.k=107/\qU s st1.t=some o):=⟨hk,hc⟩;have R2:Hid (Kp b w1 w2/\Rd w2 b s (eZ s st1) eT eN):=⟨k2,r2⟩;have D2:Hid (iH s n (eZ s st1)):=H.o.1.good (G1.o.trans (wJ H1.o.2.2.2.tk (by omega) (by omega)));go_wp2_with fail;refine(HS.o (eZ s st1) _ D2.o R2.o.2).mono ?_;rintro e w3 ⟨k3,⟨y,jg,v,hy,rfl,hv,r3⟩|⟨p,hp,ht⟩⟩
   ·obtain⟨tr,qr,rfl⟩:=ku.form hv;have E:Hid (Px.expr s g st=.ok (⟨o,0,iF,st.t.a,st1.t.a,some x,some y⟩,jg)):=by unfold Hid Px.expr;rw[H1.o.2.1];simp only;rw[HC.o.2];simp only;rw[hy]
    have z2:=R2.o.1.size;have X3:Hid _:=ku.pair (pl:=st.t.a) (o:=o) (own:=st1.t.a) hb H1.o.2.2.1 (R2.o.1.trans k3) H1.o.1 (ku.mono hv fun i hi=>⟨by have:=hi.1;omega,hi.2⟩);have K3:Hid (Kp b w w3/\Rd w3 b s jg eT eN):=⟨(H1.o.1.trans R2.o.1).trans k3,r3⟩;unfold Ref.ptr at X3 |-;go_wp2_with fail;go_ret;exact⟨K3.o.1.alloc _,ak ⟨_,_,_,E.o,rfl,X3.o,K3.o.2.alloc _⟩⟩
   obtain⟨c,rfl⟩:=ht.form;refine⟨rfl,(H1.o.1.trans R2.o.1).trans k3,aj ⟨p,?_,ht.low (H1.o.1.trans R2.o.1).size⟩⟩;unfold Px.expr;rw[H1.o.2.1];simp only;rw[HC.o.2];simp only;obtain h1|⟨y,jg,h1,h2,rfl⟩:=yG hp;·rw[h1];rfl
   rw[h1];exact nR _ h2
  obtain⟨c,rfl⟩:=ht.form;refine⟨rfl,H1.o.1.trans k2,aj ⟨p,?_,ht.low H1.o.1.size⟩⟩;cases hf:oF s st1.t 0 7 0 with| none=>rw[X7 hf]at hp;exact absurd (tZ hp).1 H1.o.2.2.2.yC| some i=>
  rw[X6 hf]at hp;obtain⟨h1,rfl⟩:=tZ hp;obtain⟨hk,o,rfl,hc⟩:=X5 hf;unfold Px.expr;rw[H1.o.2.1];simp only;rw[hc];simp only;obtain h2|⟨y,jg,h2,h3,h4⟩:=yG (H.o.2.2.2 _ h1);·rw[h2];rfl
  rw[h2,h4];exact nR _ h3
 obtain⟨c,rfl⟩:=ht.form;refine⟨rfl,k1,aj ⟨p,?_,ht⟩⟩;unfold Px.expr;obtain h1|⟨y,jg,h1,h2,rfl⟩:=yG hp;·rw[h1];rfl
 rw[h1];simp only;rw[XY h2];exact nR _ h2
theorem NQ(h:fin (.error q:Except Nat (α×eO))=.error p):fin (.error q:Except Nat (β×eO))=.error p:=by cases h;rfl
theorem G6:((kd k:Int)==3)=(k==110):=by have:=@XO k;cases h:(k==110)<;>rw[h]at this<;>simpa using this
theorem JY:((kd k:Int)==2)=(k==119):=by have:=@XM k;cases h:(k==119)<;>rw[h]at this<;>simpa using this
theorem X8(h:iH s (n+1) st)(tk:Tk s st'.t)(lt:st.t.a<st'.t.a)(hn:st'.eP=st.eP\/st'.eP=st.eP+1):iH s n st':=by have h1:=h.room;have h2:=h.n0;have h3:=h.n1;have h4:=tk.ab;have h5:=tk.le;exact⟨tk,by omega,by omega,by omega⟩
abbrev Rw(b:Nat)(s:dX)(eT eN:Addr)(n:Nat):Prop:=yH b s n eT eN 274 (fH s n)
theorem Qy(b:Nat)(s:dX)(eT eN:Addr)(n:Nat)(hs:s.size<=maxLen)(st:eO)(w:dY)(r:Rd w b s st eT eN)(hk:st.t.k=110):fI 274 #[fq b] w (Out b s eT eN w (fH s (n+1) st) (XV w)):=by
 obtain⟨td,c0,c1,c2,c3,c4,c5,f⟩:=r.cells;have R:Hid _:=r;have t1:((kd st.t.k:Int)==3)=true:=by rw[G6,hk];rfl
 have E:Hid (fH s (n+1) st=.ok (jo 110 (iq (s.extract st.t.a st.t.b).toList) iF st.t.a,eZ s st)/\nG s 110 st=.ok (st.t,eZ s st)):=⟨by rw[fH,aA hk];rfl,by rw[nG,aA hk]⟩;go_enter func274,ntmps274;go_wp2_with fail;refine(G5 b s st eT eN _ R.o hs).mono ?_;rintro e w1 ⟨k1,⟨x,st1,v,he,rfl,⟨q,rfl,hv⟩,r1⟩|⟨p,hp,ht⟩⟩;·rw[E.o.2]at he;cases he;have H1:Hid (_/\_/\_):=⟨k1,hv,r1⟩;unfold Ref.ptr;go_wp2_with fail;go_ret;exact⟨H1.o.1,ak ⟨_,_,_,E.o.1,rfl,⟨q,H1.o.2.1.1,ak ⟨rfl,rfl,H1.o.2.1.2⟩⟩,H1.o.2.2⟩⟩
 obtain⟨c,rfl⟩:=ht.form;exact⟨rfl,k1,aj ⟨p,by rw[E.o.1];rw[E.o.2]at hp;exact Dg hp,ht⟩⟩
theorem Qz(b:Nat)(s:dX)(eT eN:Addr)(n:Nat)(hs:s.size<=maxLen)(st:eO)(w:dY)(r:Rd w b s st eT eN)(hk:st.t.k=119):fI 274 #[fq b] w (Out b s eT eN w (fH s (n+1) st) (XV w)):=by
 obtain⟨td,c0,c1,c2,c3,c4,c5,f⟩:=r.cells;have R:Hid _:=r;have t1:((kd st.t.k:Int)==3)=false:=by rw[G6,hk];rfl
 have t2:((kd st.t.k:Int)==2)=true:=by rw[JY,hk];rfl
 have E:Hid (fH s (n+1) st=.ok (jo 119 0 (s.extract st.t.a st.t.b) st.t.a,eZ s st)/\nG s 119 st=.ok (st.t,eZ s st)):=⟨by rw[fH,ah (by omega),aA hk];rfl,by rw[nG,aA hk]⟩;go_enter func274,ntmps274;go_wp2_with fail;refine(Av b s st eT eN _ R.o hs).mono ?_;rintro e w1 ⟨k1,⟨x,st1,v,he,rfl,⟨q,rfl,hv⟩,r1⟩|⟨p,hp,ht⟩⟩;·rw[E.o.2]at he;cases he;have H1:Hid (_/\_/\_):=⟨k1,hv,r1⟩;unfold Ref.ptr;go_wp2_with fail;go_ret;exact⟨H1.o.1,ak ⟨_,_,_,E.o.1,rfl,⟨q,H1.o.2.1.1,aj (ak ⟨rfl,rfl,H1.o.2.1.2⟩)⟩,H1.o.2.2⟩⟩
 obtain⟨c,rfl⟩:=ht.form;exact⟨rfl,k1,aj ⟨p,by rw[E.o.1];rw[E.o.2]at hp;exact Dg hp,ht⟩⟩
theorem QA(b:Nat)(s:dX)(eT eN:Addr)(n:Nat)(hs:s.size<=maxLen)(st:eO)(w:dY)(r:Rd w b s st eT eN)(h1:gN s st.t ⟨#[116,114,117,101]⟩=true):fI 274 #[fq b] w (Out b s eT eN w (fH s (n+1) st) (XV w)):=by
 obtain⟨td,c0,c1,c2,c3,c4,c5,f⟩:=r.cells;have R:Hid _:=r;have hk:=uT h1;have t1:((kd st.t.k:Int)==3)=false:=by rw[G6,hk];rfl
 have t2:((kd st.t.k:Int)==2)=false:=by rw[JY,hk];rfl
 have E:Hid (fH s (n+1) st=.ok (jo 116 1 iF st.t.a,eZ s st)):=by unfold Hid;rw[fH,ah (by omega),ah (by omega),aA h1]
 go_enter func274,ntmps274;go_wp2_with fail;refine(yD b s _ st eT eN _ R.o hs h1).mono ?_;rintro e w1 ⟨k1,⟨x,st1,v,he,rfl,rfl,r1⟩|⟨p,hp,ht⟩⟩;·cases he;have H1:Hid (_/\_):=⟨k1,r1⟩;have z:=k1.size;go_wp2_with fail;go_ret;exact⟨H1.o.1.alloc _,ak ⟨_,_,_,E.o,rfl,⟨w1.heap.size,⟨z,by simp⟩,aj (aj ⟨rfl,rfl,jX⟩)⟩,H1.o.2.alloc _⟩⟩
 obtain⟨c,rfl⟩:=ht.form;exact⟨rfl,k1,aj ⟨p,by rw[E.o];exact Dg hp,ht⟩⟩
theorem QB(b:Nat)(s:dX)(eT eN:Addr)(n:Nat)(hs:s.size<=maxLen)(st:eO)(w:dY)(r:Rd w b s st eT eN)(h1:gN s st.t ⟨#[116,114,117,101]⟩=false)(h2:gN s st.t ⟨#[102,97,108,115,101]⟩=true):fI 274 #[fq b] w (Out b s eT eN w (fH s (n+1) st) (XV w)):=by
 obtain⟨td,c0,c1,c2,c3,c4,c5,f⟩:=r.cells;have R:Hid _:=r;have hk:=uT h2;have t1:((kd st.t.k:Int)==3)=false:=by rw[G6,hk];rfl
 have t2:((kd st.t.k:Int)==2)=false:=by rw[JY,hk];rfl
 have E:Hid (fH s (n+1) st=.ok (jo 116 0 iF st.t.a,eZ s st)):=by unfold Hid;rw[fH,ah (by omega),ah (by omega),ah (by simp[h1]),aA h2]
 go_enter func274,ntmps274;go_wp2_with fail;refine(pE b s _ st eT eN _ R.o h1).mono ?_;rintro e w1 ⟨rfl,rfl⟩;go_wp2_with fail;refine(yD b s _ st eT eN _ R.o hs h2).mono ?_;rintro e w1 ⟨k1,⟨x,st1,v,he,rfl,rfl,r1⟩|⟨p,hp,ht⟩⟩;·cases he;have H1:Hid (_/\_):=⟨k1,r1⟩;have z:=k1.size;go_wp2_with fail;go_ret;exact⟨H1.o.1.alloc _,ak ⟨_,_,_,E.o,rfl,⟨w1.heap.size,⟨z,by simp⟩,aj (aj ⟨rfl,rfl,jX⟩)⟩,H1.o.2.alloc _⟩⟩
 obtain⟨c,rfl⟩:=ht.form;exact⟨rfl,k1,aj ⟨p,by rw[E.o];exact Dg hp,ht⟩⟩
theorem QC(b:Nat)(s:dX)(eT eN:Addr)(n:Nat)(ih:Rw b s eT eN n)(hs:s.size<=maxLen)(st:eO)(w:dY)(hD:iH s (n+1) st)(r:Rd w b s st eT eN)(h1:gN s st.t ⟨#[116,114,117,101]⟩=false)(h2:gN s st.t ⟨#[102,97,108,115,101]⟩=false)(h3:gN s st.t ⟨#[110,111,116]⟩=true):fI 274 #[fq b] w (Out b s eT eN w (fH s (n+1) st) (XV w)):=by
 obtain⟨td,c0,c1,c2,c3,c4,c5,f⟩:=r.cells;have hb:=r.lt;have R:Hid (Rd w b s st eT eN/\Rw b s eT eN n):=⟨r,ih⟩;have hk:=uT h3;have t1:((kd st.t.k:Int)==3)=false:=by rw[G6,hk];rfl
 have t2:((kd st.t.k:Int)==2)=false:=by rw[JY,hk];rfl
 have E:Hid (fH s (n+1) st=match fH s n (eZ s st)with
   |.error p=>.error p
   |.ok (k,st')=>.ok (⟨33,0,iF,st.t.a,st.t.a,some k,none⟩,st')):=by unfold Hid;rw[fH,ah (by omega),ah (by omega),ah (by simp[h1]),ah (by simp[h2]),aA h3];cases fH s n (eZ s st)<;>rfl
 have D1:Hid (iH s n (eZ s st)):=X8 hD (jh hD.tk h3).tk (jh hD.tk h3).lt (ak rfl);go_enter func274,ntmps274;go_wp2_with fail;refine(pE b s _ st eT eN _ R.o.1 h1).mono ?_;rintro e w1 ⟨rfl,rfl⟩;go_wp2_with fail;refine(pE b s _ st eT eN _ R.o.1 h2).mono ?_;rintro e w1 ⟨rfl,rfl⟩;go_wp2_with fail;refine(yD b s _ st eT eN _ R.o.1 hs h3).mono ?_;rintro e w1 ⟨k1,⟨x,st1,v,he,rfl,rfl,r1⟩|⟨p,hp,ht⟩⟩
 ·cases he;have H1:Hid (_/\_):=⟨k1,r1⟩;go_wp2_with fail;refine(R.o.2 (eZ s st) _ D1.o H1.o.2).mono ?_;rintro e w2 ⟨k2,⟨x,st2,v,he,rfl,hv,r2⟩|⟨p,hp,ht⟩⟩
  ·obtain⟨tl,ql,rfl⟩:=ku.form hv;have E2:Hid (fH s (n+1) st=.ok (⟨33,0,iF,st.t.a,st.t.a,some x,none⟩,st2)):=by unfold Hid;rw[E.o,he]
   have z1:=H1.o.1.size;have z2:=k2.size;have X2:Hid (ku w2 x (gD w1 w2) (.iface tl (Ref.ptr ql))/\Kp b w1 w2/\Rd w2 b s st2 eT eN):=⟨hv,k2,r2⟩;unfold Ref.ptr at X2 |-;go_wp2_with fail;go_ret;refine⟨(H1.o.1.trans X2.o.2.1).alloc _,ak ⟨_,_,_,E2.o,rfl,?_,X2.o.2.2.alloc _⟩⟩;refine⟨rfl,w2.heap.size,tl,ql,⟨by omega,by simp⟩,rfl,jX,?_⟩;exact(X2.o.1.keep fun i hi=>aI _ _ _ hi.2).mono fun i hi=>⟨by have:=hi.1;omega,by have:=hi.2;simp;omega⟩
  obtain⟨c,rfl⟩:=ht.form;refine⟨rfl,H1.o.1.trans k2,aj ⟨p,?_,ht.low H1.o.1.size⟩⟩;rw[E.o];obtain h4|⟨y,jg,h4,h5,rfl⟩:=yG hp;·rw[h4];rfl
  rw[h4];exact nR _ h5
 obtain⟨c,rfl⟩:=ht.form;refine⟨rfl,k1,aj ⟨p,?_,ht⟩⟩;obtain⟨h4,rfl⟩:=tZ hp;rw[E.o];obtain h5|⟨y,jg,h5,h6,h7⟩:=yG (JW s n _ h4);·rw[h5];rfl
 rw[h5,h7];exact nR _ h6
def wm(s:dX)(a:Nat)(r:Except Nat (fG×eO)):Except Nat (fG×eO):=
 match r with
 |.error p=>.error p
 |.ok (e,st')=>if gN s st'.t ⟨#[41]⟩then .ok ({e with pl:=a},rC (eZ s st'))else .error st'.t.a
theorem X9(h:fin r=.error p):fin (wm s a r)=.error p:=by
 obtain rfl|⟨x,st,rfl,h1,rfl⟩:=yG h;·rfl
 unfold wm;simp only;rw[ah (by simp[sS h1])];rfl
theorem QD(b:Nat)(s:dX)(eT eN:Addr)(n:Nat)(ih:yH b s n eT eN 236 (Px.expr s (fH s n)))(hs:s.size<=maxLen)(st:eO)(w:dY)(hD:iH s (n+1) st)(r:Rd w b s st eT eN)(h0:¬st.t.k=110)(h0':¬st.t.k=119)(h1:gN s st.t ⟨#[116,114,117,101]⟩=false)(h2:gN s st.t ⟨#[102,97,108,115,101]⟩=false)(h3:gN s st.t ⟨#[110,111,116]⟩=false):fI 274 #[fq b] w (Out b s eT eN w (fH s (n+1) st) (XV w)):=by
 obtain⟨td,c0,c1,c2,c3,c4,c5,f⟩:=r.cells;have hb:=r.lt;have R:Hid (Rd w b s st eT eN/\yH b s n eT eN 236 (Px.expr s (fH s n))):=⟨r,ih⟩;have t1:((kd st.t.k:Int)==3)=false:=by rw[G6];simpa using h0
 have t2:((kd st.t.k:Int)==2)=false:=by rw[JY];simpa using h0'
 have E:Hid (fH s (n+1) st=if gN s st.t ⟨#[40]⟩=true then wm s st.t.a (Px.expr s (fH s n) (eZ s (Px.dn st)))else .error st.t.a):=by
  unfold Hid;rw[fH,ah h0,ah h0',ah (by simp[h1]),ah (by simp[h2]),ah (by simp[h3])];split;·unfold wm;cases Px.expr s (fH s n) (eZ s (Px.dn st))<;>rfl
  rfl
 have HD:Hid _:=hD;have hn0:=hD.n0;have hn1:st.eP<=1000000:=by have:=hD.n1;omega
 go_enter func274,ntmps274;go_wp2_with fail;refine(pE b s _ st eT eN _ R.o.1 h1).mono ?_;rintro e w1 ⟨rfl,rfl⟩;go_wp2_with fail;refine(pE b s _ st eT eN _ R.o.1 h2).mono ?_;rintro e w1 ⟨rfl,rfl⟩;go_wp2_with fail;refine(pE b s _ st eT eN _ R.o.1 h3).mono ?_;rintro e w1 ⟨rfl,rfl⟩;go_wp2_with fail;refine(XR b s _ st eT eN _ R.o.1 hs hn0 hn1).mono ?_;rintro e w1 ⟨k1,⟨x,st1,v,he,rfl,rfl,r1⟩|⟨p,hp,ht⟩⟩
 ·have ho:gN s st.t ⟨#[40]⟩=true/\st1=eZ s (Px.dn st):=by
   unfold BA at he;split at he;·rename_i ho;cases he;exact⟨ho,rfl⟩
   cases he
  obtain⟨ho,rfl⟩:=ho;have E1:Hid (fH s (n+1) st=wm s st.t.a (Px.expr s (fH s n) (eZ s (Px.dn st)))):=by unfold Hid;rw[E.o,aA ho]
  have D1:Hid (iH s n (eZ s (Px.dn st))):=X8 HD.o (jh HD.o.tk ho).tk (jh HD.o.tk ho).lt (aj rfl);have H1:Hid (_/\_):=⟨k1,r1⟩;go_wp2_with fail;refine(R.o.2 _ _ D1.o H1.o.2).mono ?_;rintro e w2 ⟨k2,⟨x,st2,v,he,rfl,hv,r2⟩|⟨p,hp,ht⟩⟩
  ·obtain⟨tl,ql,rfl⟩:=ku.form hv;have gd:=CJ (rE s n) _ _ _ D1.o.tk he;have gn:st2.eP=st.eP+1:=gd.eP;have X2:Hid (ku w2 x (gD w1 w2) (.iface tl (Ref.ptr ql))/\Kp b w1 w2/\Rd w2 b s st2 eT eN/\Px.expr s (fH s n) (eZ s (Px.dn st))=.ok (x,st2)):=⟨hv,k2,r2,he⟩;unfold Ref.ptr at X2 |-;go_wp2_with fail;refine(XT b s _ st2 eT eN _ X2.o.2.2.1 hs (by omega) (by omega)).mono ?_;rintro e w3 ⟨k3,⟨u,jg,v,he,rfl,rfl,r3⟩|⟨p,hp,ht⟩⟩
   ·have ho:gN s st2.t ⟨#[41]⟩=true/\jg=rC (eZ s st2):=by
     unfold BD at he;split at he;·rename_i ho;cases he;exact⟨ho,rfl⟩
     cases he
    obtain⟨ho,rfl⟩:=ho;have E3:Hid (fH s (n+1) st=.ok ({x with pl:=st.t.a},rC (eZ s st2))):=by unfold Hid;rw[E1.o,X2.o.2.2.2];unfold wm;simp only;rw[aA ho]
    have H3:Hid (_/\_):=⟨k3,r3⟩;have z1:=H1.o.1.size;go_wp2_with fail;go_ret;have k12:=X2.o.2.1.trans H3.o.1;refine⟨H1.o.1.trans k12,ak ⟨_,_,_,E3.o,rfl,?_,H3.o.2⟩⟩;exact ku.eD ((ku.kp X2.o.1 (by omega) H3.o.1).mono fun i hi=>⟨by have:=hi.1;omega,hi.2⟩) _
   obtain⟨c,rfl⟩:=ht.form;refine⟨rfl,(H1.o.1.trans X2.o.2.1).trans k3,aj ⟨p,?_,ht.low (H1.o.1.trans X2.o.2.1).size⟩⟩;rw[E1.o,X2.o.2.2.2];unfold BD at hp;unfold wm;simp only;split at hp;·rename_i ho;rw[aA ho];exact Dg hp
   rename_i ho;rw[ah ho];exact NQ hp
  obtain⟨c,rfl⟩:=ht.form;exact⟨rfl,H1.o.1.trans k2,aj ⟨p,by rw[E1.o];exact X9 hp,ht.low H1.o.1.size⟩⟩
 obtain⟨c,rfl⟩:=ht.form;refine⟨rfl,k1,aj ⟨p,?_,ht⟩⟩;rw[E.o];unfold BA at hp;split at hp;·rename_i ho;rw[aA ho];obtain⟨h4,rfl⟩:=tZ hp;exact X9 (XZ s (JW s n) _ h4)
 rename_i ho;rw[ah ho];exact NQ hp
theorem zpc(b:Nat)(s:dX)(eT eN:Addr)(hs:s.size<=maxLen)(n:Nat):Rw b s eT eN n:=by
 induction n with| zero=>intro st w hD r;have:=hD.room;omega| succ n ih=>
 intro st w hD r;by_cases h0:st.t.k=110;·exact Qy b s eT eN n hs st w r h0
 by_cases h0':st.t.k=119;·exact Qz b s eT eN n hs st w r h0'
 cases h1:gN s st.t ⟨#[116,114,117,101]⟩
 ·cases h2:gN s st.t ⟨#[102,97,108,115,101]⟩
  ·cases h3:gN s st.t ⟨#[110,111,116]⟩;·exact QD b s eT eN n (EW b s n eT eN _ ih (rE s n) (JW s n) hs) hs st w hD r h0 h0' h1 h2 h3
   exact QC b s eT eN n ih hs st w hD r h1 h2 h3
  exact QB b s eT eN n hs st w r h1 h2
 exact QA b s eT eN n hs st w r h1
theorem Ya(b:Nat)(s:dX)(eT eN:Addr)(hs:s.size<=maxLen)(st:eO)(w:dY)(r:Rd w b s st eT eN)(hn0:0<=st.eP)(hn1:st.eP+(s.size+1:Nat)<=1000000):fI 236 #[fq b] w (Out b s eT eN w (lG s st) (XV w)):=EW b s (s.size+1) eT eN _ (zpc b s eT eN hs (s.size+1)) (rE s _) (JW s _) hs st w ⟨r.tk,by omega,hn0,hn1⟩ r
def lJ(w:dY)(v:dZ)(vs:List dZ)(ok:Nat->Prop):Prop:=
 (v=iE/\vs=[]) \/
 ∃g cap cur,v=.slice (some ⟨g,0,none⟩) vs.length cap/\ok g/\w.heap[g]?=some (.cells cur 234)/\vs.length<=cap/\cap<=maxLen/\cur.size=cap/\cur.toList.take vs.length=vs
def kR(w:dY)(e:fG)(ok:Nat->Prop)(q:Nat):Prop:=ok q/\∃tl ql,w.heap[q]?=some (.cells #[.iface tl (Ref.ptr ql),eF (e.pl:Int)] 340)/\ku w e ok (.iface tl (Ref.ptr ql))
def nH(w:dY)(x:Option fG)(ok:Nat->Prop)(v:dZ):Prop:=
 match x with
 |none=>v=.pointer none
 |some e=>∃q,v=Ref.ptr q/\kR w e ok q
def qL(w:dY)(x:dX)(a:Nat)(ok:Nat->Prop)(v:dZ):Prop:=(x.size=0/\v=.pointer none)\/(0<x.size/\∃q,v=Ref.ptr q/\kX w x a ok q)
def Nd(w:dY)(x:Sm)(ok:Nat->Prop)(v v1 v2:dZ):Prop:=
 ∃q,ok q /\
 ((x.op=108/\v=.iface 280 (Ref.ptr q)/\∃qv tl ql e,w.heap[q]?=some (.cells #[Ref.ptr qv,.iface tl (Ref.ptr ql)] 286)/\kX w x.eH x.pl ok qv/\x.ex=some e/\ku w e ok (.iface tl (Ref.ptr ql))) \/
  (x.op=99/\v=.iface 290 (Ref.ptr q)/\∃pa ps qn,w.heap[q]?=some (.cells #[.string x.eH,.pointer pa,.pointer ps,.string x.undo,Ref.ptr qn] 338)/\nH w x.ex ok (.pointer pa)/\qL w x.gH x.gG ok (.pointer ps)/\jW w x.n x.gZ ok qn) \/
  (x.op=105/\v=.iface 292 (Ref.ptr q)/\∃qr e,w.heap[q]?=some (.cells #[Ref.ptr qr,v1,v2] 342)/\x.ex=some e/\kR w e ok qr) \/
  (x.op=116/\v=.iface 294 (Ref.ptr q)/\w.heap[q]?=some (.cells #[v1,v2] 345)) \/
  (x.op=114/\v=.iface 296 (Ref.ptr q)/\∃qn,w.heap[q]?=some (.cells #[Ref.ptr qn,v1] 316)/\jW w x.n x.gZ ok qn) \/
  (x.op=102/\v=.iface 298 (Ref.ptr q)))
def gX(w:dY):List Sm->(Nat->Prop)->List dZ->Prop
 |[],_,vs=>vs=[]
 |⟨op,eH,pl,ex,av,gG,undo,n,gZ,one,two⟩::rest,ok,vs=>∃v vs',vs=v::vs'/\gX w rest ok vs'/\∃v1 v2 u1 u2,Nd w ⟨op,eH,pl,ex,av,gG,undo,n,gZ,[],[]⟩ ok v v1 v2/\lJ w v1 u1 ok/\gX w one ok u1/\lJ w v2 u2 ok/\gX w two ok u2
variable{vs:List dZ}
theorem gX.oV:gX w [] ok vs↔vs=[]:=by rw[gX]
def oZ(w:dY)(x:Sm)(ok:Nat->Prop)(v:dZ):Prop :=∃v1 v2 u1 u2,Nd w x ok v v1 v2/\lJ w v1 u1 ok/\gX w x.one ok u1/\lJ w v2 u2 ok/\gX w x.two ok u2
variable{rest:List Sm}
theorem gX.uY{x:Sm}:gX w (x::rest) ok vs↔∃v vs',vs=v::vs'/\gX w rest ok vs'/\oZ w x ok v:=by obtain⟨op,eH,pl,ex,av,gG,undo,n,gZ,one,two⟩:=x;rw[gX];rfl
theorem gX.cons{x:Sm}(h:oZ w x ok v)(hr:gX w rest ok vs):gX w (x::rest) ok (v::vs):=gX.uY.2 ⟨v,vs,rfl,hr,h⟩
theorem gX.snoc{l:List Sm}{x:Sm}(h:gX w l ok vs)(hx:oZ w x ok v):gX w (l++[x]) ok (vs++[v]):=by
 induction l generalizing vs with
 |nil=>cases gX.oV.1 h;exact gX.cons hx (gX.oV.2 rfl)
 |cons y l ih=>
 obtain⟨v',vs',rfl,h1,h2⟩:=gX.uY.1 h;exact gX.cons h2 (ih h1)
theorem kX.mono(h:kX w x a ok q)(hk:∀k,ok k->ok' k):kX w x a ok' q:=⟨hk _ h.1,h.2⟩
theorem kX.keep(h:kX w x a ok q)(hk:∀k,ok k->w'.heap[k]?=w.heap[k]?):kX w' x a ok q:=⟨h.1,by rw[hk _ h.1];exact h.2⟩
theorem jW.mono(h:jW w n a ok q)(hk:∀k,ok k->ok' k):jW w n a ok' q:=⟨hk _ h.1,h.2⟩
theorem jW.keep(h:jW w n a ok q)(hk:∀k,ok k->w'.heap[k]?=w.heap[k]?):jW w' n a ok q:=⟨h.1,by rw[hk _ h.1];exact h.2⟩
theorem kR.mono{w:dY}{e:fG}{q:Nat}{ok ok':Nat->Prop}(h:kR w e ok q)(hk:∀k,ok k->ok' k):kR w e ok' q:=by obtain⟨h1,tl,ql,h2,h3⟩:=h;exact⟨hk _ h1,tl,ql,h2,h3.mono hk⟩
theorem kR.keep{w w':dY}{e:fG}{q:Nat}{ok:Nat->Prop}(h:kR w e ok q)(hk:∀k,ok k->w'.heap[k]?=w.heap[k]?):kR w' e ok q:=by obtain⟨h1,tl,ql,h2,h3⟩:=h;exact⟨h1,tl,ql,by rw[hk _ h1];exact h2,h3.keep hk⟩
theorem nH.mono{w:dY}{x:Option fG}{v:dZ}{ok ok':Nat->Prop}(h:nH w x ok v)(hk:∀k,ok k->ok' k):nH w x ok' v:=by cases x with| none=>exact h| some e=>obtain⟨q,h1,h2⟩:=h;exact⟨q,h1,h2.mono hk⟩
theorem nH.keep{w w':dY}{x:Option fG}{v:dZ}{ok:Nat->Prop}(h:nH w x ok v)(hk:∀k,ok k->w'.heap[k]?=w.heap[k]?):nH w' x ok v:=by cases x with| none=>exact h| some e=>obtain⟨q,h1,h2⟩:=h;exact⟨q,h1,h2.keep hk⟩
theorem qL.mono{w:dY}{x:dX}{a:Nat}{v:dZ}{ok ok':Nat->Prop}(h:qL w x a ok v)(hk:∀k,ok k->ok' k):qL w x a ok' v:=by
 obtain h|⟨h0,q,h1,h2⟩:=h;·exact ak h
 exact aj ⟨h0,q,h1,h2.mono hk⟩
theorem qL.keep{w w':dY}{x:dX}{a:Nat}{v:dZ}{ok:Nat->Prop}(h:qL w x a ok v)(hk:∀k,ok k->w'.heap[k]?=w.heap[k]?):qL w' x a ok v:=by
 obtain h|⟨h0,q,h1,h2⟩:=h;·exact ak h
 exact aj ⟨h0,q,h1,h2.keep hk⟩
theorem Nd.mono{w:dY}{x:Sm}{v v1 v2:dZ}{ok ok':Nat->Prop}(h:Nd w x ok v v1 v2)(hk:∀k,ok k->ok' k):Nd w x ok' v v1 v2:=by
 obtain⟨q,hq,⟨h0,h1,qv,tl,ql,e,h2,h3,h4,h5⟩|⟨h0,h1,pa,ps,qn,h2,h3,h4,h5⟩|⟨h0,h1,qr,e,h2,h3,h4⟩|⟨h0,h1,h2⟩|⟨h0,h1,qn,h2,h3⟩|⟨h0,h1⟩⟩:=h;·exact⟨q,hk _ hq,ak ⟨h0,h1,qv,tl,ql,e,h2,h3.mono hk,h4,h5.mono hk⟩⟩
 ·exact⟨q,hk _ hq,aj (ak ⟨h0,h1,pa,ps,qn,h2,h3.mono hk,h4.mono hk,h5.mono hk⟩)⟩
 ·exact⟨q,hk _ hq,aj (aj (ak ⟨h0,h1,qr,e,h2,h3,h4.mono hk⟩))⟩
 ·exact⟨q,hk _ hq,aj (aj (aj (ak ⟨h0,h1,h2⟩)))⟩
 ·exact⟨q,hk _ hq,aj (aj (aj (aj (ak ⟨h0,h1,qn,h2,h3.mono hk⟩))))⟩
 exact⟨q,hk _ hq,aj (aj (aj (aj (aj ⟨h0,h1⟩))))⟩
theorem Nd.keep{w w':dY}{x:Sm}{v v1 v2:dZ}{ok:Nat->Prop}(h:Nd w x ok v v1 v2)(hk:∀k,ok k->w'.heap[k]?=w.heap[k]?):Nd w' x ok v v1 v2:=by
 obtain⟨q,hq,⟨h0,h1,qv,tl,ql,e,h2,h3,h4,h5⟩|⟨h0,h1,pa,ps,qn,h2,h3,h4,h5⟩|⟨h0,h1,qr,e,h2,h3,h4⟩|⟨h0,h1,h2⟩|⟨h0,h1,qn,h2,h3⟩|⟨h0,h1⟩⟩:=h;·exact⟨q,hq,ak ⟨h0,h1,qv,tl,ql,e,by rw[hk _ hq];exact h2,h3.keep hk,h4,h5.keep hk⟩⟩
 ·exact⟨q,hq,aj (ak ⟨h0,h1,pa,ps,qn,by rw[hk _ hq];exact h2,h3.keep hk,h4.keep hk,h5.keep hk⟩)⟩
 ·exact⟨q,hq,aj (aj (ak ⟨h0,h1,qr,e,by rw[hk _ hq];exact h2,h3,h4.keep hk⟩))⟩
 ·exact⟨q,hq,aj (aj (aj (ak ⟨h0,h1,by rw[hk _ hq];exact h2⟩)))⟩
 ·exact⟨q,hq,aj (aj (aj (aj (ak ⟨h0,h1,qn,by rw[hk _ hq];exact h2,h3.keep hk⟩))))⟩
 exact⟨q,hq,aj (aj (aj (aj (aj ⟨h0,h1⟩))))⟩
theorem lJ.mono(h:lJ w v vs ok)(hk:∀k,ok k->ok' k):lJ w v vs ok':=by
 obtain h|⟨g,cap,cur,h1,h2,h3⟩:=h;·exact ak h
 exact aj ⟨g,cap,cur,h1,hk _ h2,h3⟩
theorem lJ.keep(h:lJ w v vs ok)(hk:∀k,ok k->w'.heap[k]?=w.heap[k]?):lJ w' v vs ok:=by
 obtain h|⟨g,cap,cur,h1,h2,h3,h4⟩:=h;·exact ak h
 exact aj ⟨g,cap,cur,h1,h2,by rw[hk _ h2];exact h3,h4⟩
theorem gX.mono{w:dY}{l:List Sm}{ok ok':Nat->Prop}{vs:List dZ}(h:gX w l ok vs)(hk:∀k,ok k->ok' k):gX w l ok' vs:=by
 match l with
 |[]=>exact gX.oV.2 (gX.oV.1 h)
 |⟨op,eH,pl,ex,av,gG,undo,n,gZ,one,two⟩::rest=>
 obtain⟨v,vs',h1,h2,v1,v2,u1,u2,h3,h4,h5,h6,h7⟩:=gX.uY.1 h;exact gX.uY.2 ⟨v,vs',h1,h2.mono hk,v1,v2,u1,u2,h3.mono hk,h4.mono hk,h5.mono hk,h6.mono hk,h7.mono hk⟩
theorem gX.keep{w w':dY}{l:List Sm}{ok:Nat->Prop}{vs:List dZ}(h:gX w l ok vs)(hk:∀k,ok k->w'.heap[k]?=w.heap[k]?):gX w' l ok vs:=by
 match l with
 |[]=>exact gX.oV.2 (gX.oV.1 h)
 |⟨op,eH,pl,ex,av,gG,undo,n,gZ,one,two⟩::rest=>
 obtain⟨v,vs',h1,h2,v1,v2,u1,u2,h3,h4,h5,h6,h7⟩:=gX.uY.1 h;exact gX.uY.2 ⟨v,vs',h1,h2.keep hk,v1,v2,u1,u2,h3.keep hk,h4.keep hk,h5.keep hk,h6.keep hk,h7.keep hk⟩
theorem oZ.mono{w:dY}{x:Sm}{ok ok':Nat->Prop}{v:dZ}(h:oZ w x ok v)(hk:∀k,ok k->ok' k):oZ w x ok' v:=by obtain⟨v1,v2,u1,u2,h3,h4,h5,h6,h7⟩:=h;exact⟨v1,v2,u1,u2,h3.mono hk,h4.mono hk,h5.mono hk,h6.mono hk,h7.mono hk⟩
theorem oZ.keep{w w':dY}{x:Sm}{ok:Nat->Prop}{v:dZ}(h:oZ w x ok v)(hk:∀k,ok k->w'.heap[k]?=w.heap[k]?):oZ w' x ok v:=by obtain⟨v1,v2,u1,u2,h3,h4,h5,h6,h7⟩:=h;exact⟨v1,v2,u1,u2,h3.keep hk,h4.keep hk,h5.keep hk,h6.keep hk,h7.keep hk⟩
theorem oZ.form{x:Sm}(h:oZ w x ok v):∃t q,v=.iface t (Ref.ptr q):=by obtain⟨v1,v2,u1,u2,⟨q,hq,⟨h0,h1,_⟩|⟨h0,h1,_⟩|⟨h0,h1,_⟩|⟨h0,h1,_⟩|⟨h0,h1,_⟩|⟨h0,h1⟩⟩,_⟩:=h<;>exact⟨_,q,h1⟩
def BV(w:dY):dY->List Sm->dZ->Prop:=fun w' l v=>∃vs,lJ w' v vs (gD w w')/\gX w' l (gD w w') vs
theorem lJ.form(h:lJ w v vs ok):∃a n c,v=.slice a n c:=by
 obtain⟨h,_⟩|⟨g,cap,cur,h1,_⟩:=h;·exact⟨_,_,_,h⟩
 exact⟨_,_,_,h1⟩
def starts(s:dX)(st:eO):Bool:=gN s st.t ⟨#[108,101,116]⟩||gN s st.t ⟨#[99,97,108,108]⟩||gN s st.t ⟨#[105,102]⟩||gN s st.t ⟨#[116,114,121]⟩||gN s st.t ⟨#[114,101,112,101,97,116]⟩||gN s st.t ⟨#[102,97,105,108]⟩
def qM(s:dX)(g:eO->Except Nat (Sm×eO))(st:eO):Except Nat (Option Sm×eO):=
 if starts s st then(match g st with
  |.ok (x,st')=>.ok (some x,st')
  |.error p=>.error p)else .ok (none,st)
def Dj(w:dY):dY->Option Sm->dZ->Prop:=fun w' o v=>
 match o with
 |none=>v=.tuple #[.nilIface,.bool false]
 |some x=>∃u,v=.tuple #[u,.bool true]/\oZ w' x (gD w w') u
def JZ(b:Nat)(s:dX)(n:Nat)(eT eN:Addr)(g:eO->Except Nat (Sm×eO)):Prop :=∀(st:eO)(w:dY),iN s n st->Rd w b s st eT eN->fI 154 #[fq b] w (Out b s eT eN w (qM s g st) (Dj w))
theorem Rx(h:st.t.k=63):starts s st=false:=by unfold starts;simp[sS h]
theorem Ry(h:starts s st=false):fJ s n st=.error st.t.a:=by
 unfold starts at h;simp only[dK]at h;obtain⟨⟨⟨⟨⟨h1,h2⟩,h3⟩,h4⟩,h5⟩,h6⟩:=h;cases n with| zero=>rfl| succ n=>
 rw[fJ,ah (by simp[h1]),ah (by simp[h2]),ah (by simp[h3]),ah (by simp[h4]),ah (by simp[h5])];unfold vR Px.need;rw[ah (by simp[h6])]
structure Stp(s:dX)(stop:eO->Bool):Prop where
 off:∀st,stop st=true->starts s st=false
 yC:∀st:eO,st.t.k=63->stop st=false
theorem zxd:(prog.info? 234).map (fun i=>(i.zero,i.size,i.bytes))=some (some .nilIface,1,16):=by kernel_rfl
def zvn(b:Nat)(s:dX)(eT eN:Addr)(w:dY)(g:eO->Except Nat (Sm×eO))(st:eO)(e:Ending)(w':dY):Prop:=
 Kp b w w'/\((∃l st' v,e=fM v/\BV w w' l v/\Rd w' b s st' eT eN/\starts s st'=false/\jP s st st'/\∀stop,Stp s stop->∀m,s.size-st.t.a<m->gy s g stop m [] st=if stop st' then .ok (l,st')else .error st'.t.a) \/
  ∃p,(∀stop,Stp s stop->∀m,s.size-st.t.a<m->fin (gy s g stop m [] st)=.error p)/\lC w' w.heap.size eT p e)
def Yb(b:Nat)(s:dX)(n:Nat)(eT eN:Addr)(g:eO->Except Nat (Sm×eO))(st:eO)(w wr:dY)(v:dZ):Prop:=
 Kp b w wr/\∃vs,wr.ownsRow w.heap.size 234 1 v vs.length vs/\∃l st1,gX wr l (fun k=>gD w wr k/\some k≠v.ownBlock) vs/\vs.length<=st1.t.a/\Rd wr b s st1 eT eN/\iN s n st1/\jP s st st1 /\
  ∀stop,Stp s stop->∀m,s.size-st.t.a<m->∃m',s.size-st1.t.a<m'/\gy s g stop m [] st=gy s g stop m' l st1
theorem zsj(h:w.ownsRow base 234 1 v vs.length vs)(hk:∀k,v.ownBlock=some k->ok k):lJ w v vs ok:=by
 obtain⟨h1,h2⟩|⟨g,cap,cur,h1,h2,h3,h4,h5,h6,h7⟩:=h.2;·exact ak ⟨h1,bA.1 h2⟩
 refine aj ⟨g,cap,cur,h1,hk g (by rw[h1];rfl),h3,h4,h5,by omega,?_⟩;rw[Nat.mul_one]at h7;exact h7
theorem zb8{g:eO->Except Nat (Sm×eO)}{x:Sm}(h:qM s g st=.ok (some x,st')):starts s st=true/\g st=.ok (x,st'):=by
 unfold qM at h;split at h
 ·rename_i hs;cases hg:g st with
  |error p=>rw[hg]at h;cases h
  |ok r=>obtain⟨y,st1⟩:=r;rw[hg]at h;cases h;exact⟨hs,rfl⟩
 cases h
theorem zb9{g:eO->Except Nat (Sm×eO)}(h:qM s g st=.ok (none,st')):starts s st=false/\st'=st:=by
 unfold qM at h;split at h
 ·cases hg:g st with
  |error p=>rw[hg]at h;cases h
  |ok r=>obtain⟨y,st1⟩:=r;rw[hg]at h;cases h
 rename_i hs;cases h;exact⟨by simpa using hs,rfl⟩
theorem qvc{g:eO->Except Nat (Sm×eO)}(hk:st.t.k≠63)(h:fin (qM s g st)=.error p):starts s st=true/\(g st=.error p\/∃x st',g st=.ok (x,st')/\st'.t.k=63/\p=st'.t.a):=by
 unfold qM at h;split at h
 ·rename_i hs;refine⟨hs,?_⟩;cases hg:g st with
  |error q=>rw[hg]at h;cases h;exact ak rfl
  |ok r=>obtain⟨y,st1⟩:=r;rw[hg]at h;obtain⟨h1,h2⟩:=tZ h;exact aj ⟨y,st1,rfl,h1,h2⟩
 exact absurd (tZ h).1 hk
theorem zto{g:eO->Except Nat (Sm×eO)}{v' u:dZ}{l:List Sm}{st2:eO}{x:Sm}(hb:b<w.heap.size)(hg:fP s g)(KR:Kp b w wr)(hown:wr.ownsRow w.heap.size 234 1 v vs.length vs)(L:gX wr l (fun k=>gD w wr k/\some k≠v.ownBlock) vs)(hq:vs.length<=st1.t.a)(hD:iN s n st1)(G0:jP s st st1)(CH:∀stop,Stp s stop->∀m,s.size-st.t.a<m->∃m',s.size-st1.t.a<m'/\gy s g stop m [] st=gy s g stop m' l st1)(hs:starts s st1=true)(hr:g st1=.ok (x,st2))(k1:Kp b wr w1)(hx:oZ w1 x (gD wr w1) u)(r1:Rd w1 b s st2 eT eN)(hown':w2.ownsRow w.heap.size 234 1 v' (vs.length+1) (vs++[u]))(hgrow:(w1.alloc (.cells #[u] 234)).grownBy w2 v.ownBlock)(hloc:v'.ownBlock=v.ownBlock\/v'.ownBlock=some (w1.heap.size+1)):Yb b s n eT eN g st w w2 v'/\ES s b w2<s.size+1-st1.t.a:=by
 have rH:∀k,v.ownBlock=some k->w.heap.size<=k/\k<wr.heap.size:=hown.lt;have QI:Kp b w w1:=KR.trans k1;have M9:Kp b w w2:=WU (QI.alloc _) hgrow (fun k hk=>(rH k hk).1);have s1:=KR.size;have s2:=k1.size;have s3:w1.heap.size+1<=w2.heap.size:=by have:=hgrow.size;simpa using this
 have hkeep:∀k,k<w1.heap.size->some k≠v.ownBlock->w2.heap[k]?=w1.heap[k]?:=fun k hk hne=>by rw[hgrow.block k (by simp;omega) hne,aI _ _ _ hk]
 have r2:Rd w2 b s st2 eT eN:=by
  obtain⟨td,ra,rd⟩:=r1.mem;have hlb:b<w1.heap.size:=r1.lt;have hlo:=r1.gl.lo;have gk:∀k,k<w.heap.size->w2.heap[k]?=w1.heap[k]?:=fun k hk=>hkeep k (by omega) (fun e=>by have:=(rH k e.symm).1;omega);refine⟨r1.tk,r1.yC,⟨?_,?_,?_,hlo⟩,td,⟨by rw[gk b hb];exact ra.h⟩,?_⟩;·rw[aH (w:=w1) (gk _ (by show(_:Nat)<_;dsimp only;omega))];exact r1.gl.t
  ·rw[aH (w:=w1) (gk _ (by show(_:Nat)<_;dsimp only;omega))];exact r1.gl.n
  ·intro j hj;rw[aH (w:=w1) (gk _ (by show(_:Nat)<_;dsimp only;omega))];exact r1.gl.ops j hj
  obtain d|⟨d1,f,d2,d3,d4⟩:=rd;·exact ak d
  refine aj ⟨d1,f,d2,d3,?_⟩;have hfl:f<w1.heap.size:=(aN.1 d4).1;rw[hkeep f hfl ?_];·exact d4
  intro e;obtain⟨h1,_⟩|⟨gb,cap,cur,h1,h2,h3,_⟩:=hown.2;·rw[h1]at e;cases e
  have e':f=gb:=by rw[h1]at e;exact Option.some.inj e
  subst e';have:w1.heap[f]?=some (.cells cur 234):=by rw[k1.block f (rH f (by rw[h1];rfl)).2 d3];exact h3
  rw[this]at d4;simp at d4
 have hd1:=hD.tk.le;have hd2:=hD.tk.ab;have hdr:=hD.room;have g1:=hg _ _ _ hD.tk hr;have g2:=g1.lt;have g3:=g1.tk.ab;have g4:=g1.tk.le;have hnew:∀k,k<w1.heap.size->some k≠v.ownBlock->some k≠v'.ownBlock:=by
  intro k hk hne;obtain h|h:=hloc;·rw[h];exact hne
  rw[h];simp;omega
 have hlen:(vs++[u]).length=vs.length+1:=by simp
 refine⟨⟨M9,vs++[u],by rw[hlen];exact hown',l++[x],st2,?_,by rw[hlen];omega,r2,hD.good g1,G0.trans g1.zero,?_⟩,?_⟩
 ·refine gX.snoc ?_ ?_;·have e1:gX w1 l (fun k=>gD w wr k/\some k≠v.ownBlock) vs:=L.keep fun k hk=>k1.block k hk.1.2 (by have:=hk.1.1;omega);have e2:gX w2 l (fun k=>gD w wr k/\some k≠v.ownBlock) vs:=e1.keep fun k hk=>hkeep k (by have:=hk.1.2;omega) hk.2;exact e2.mono fun k hk=>⟨⟨hk.1.1,by have:=hk.1.2;omega⟩,hnew k (by have:=hk.1.2;omega) hk.2⟩
  have hne:∀k,gD wr w1 k->some k≠v.ownBlock:=fun k hk e=>by have:=(rH k e.symm).2;have:=hk.1;omega
  have e2:oZ w2 x (gD wr w1) u:=hx.keep fun k hk=>hkeep k hk.2 (hne k hk);exact e2.mono fun k hk=>⟨⟨by have:=hk.1;omega,by have:=hk.2;omega⟩,hnew k hk.2 (hne k hk)⟩
 ·intro stop hstop m hm;obtain⟨m',h1,h2⟩:=CH stop hstop m hm;obtain⟨m',rfl⟩:∃k,m'=k+1:=⟨m'-1,by omega⟩;refine⟨m',by omega,h2.trans ?_⟩;have hst:stop st1=false:=by
   cases h:stop st1;·rfl
   have:=hstop.off st1 h;rw[hs]at this;cases this
  rw[gy,ah (by simp[hst]),hr]
 rw[JV r2];omega
theorem Yc(b:Nat)(s:dX)(n:Nat)(eT eN:Addr)(g:eO->Except Nat (Sm×eO))(hst:JZ b s n eT eN g)(hg:fP s g)(hoff:∀st,starts s st=false->g st=.error st.t.a)(hs3:s.size<=300)(st:eO)(w:dY)(hD:iN s n st)(r:Rd w b s st eT eN):fI 81 #[fq b] w (zvn b s eT eN w g st):=by
 obtain⟨i0,hi,hz0,hz1,hz2⟩:=info_parts zxd;have hs:s.size<=maxLen:=by unfold maxLen;omega
 have hb:=r.lt;have HG:Hid (fP s g/\∀st,starts s st=false->g st=.error st.t.a):=⟨hg,hoff⟩;have HR:Hid (iN s n st/\Rd w b s st eT eN/\JZ b s n eT eN g):=⟨hD,r,hst⟩;go_enter func81,ntmps81;go_wp2_with fail;go_loopw [3] (fun v wr=>Hid (Yb b s n eT eN g st w wr v)) (fun _ wr=>ES s b wr)
 case atStart=>
  exact⟨Kp.refl _ _,[],aX _ _ _ _,[],st,gX.oV.2 rfl,by simp,HR.o.2.1,HR.o.1,jP.refl HR.o.1.tk,fun stop _ m hm=>⟨m,hm,rfl⟩⟩
 case round=>
  obtain⟨kr,vs,hown,l,st1,hl,hq,r1,hD1,G0,CH⟩:=hrel.o;obtain⟨va,vn,vc,rfl⟩:=QJ hown;have KR:Hid (Kp b w wr/\wr.ownsRow w.heap.size 234 1 (.slice va vn vc) vs.length vs/\gX wr l (fun k=>gD w wr k/\some k≠(Value.slice va vn vc).ownBlock) vs/\Rd wr b s st1 eT eN/\iN s n st1/\jP s st st1 /\
   ∀stop,Stp s stop->∀m,s.size-st.t.a<m->∃m',s.size-st1.t.a<m'/\gy s g stop m [] st=gy s g stop m' l st1):=⟨kr,hown,hl,r1,hD1,G0,CH⟩
  go_wp2_with fail;refine(HR.o.2.2 st1 _ KR.o.2.2.2.2.1 KR.o.2.2.2.1).mono ?_;rintro e w3 ⟨k3,⟨o,st2,v,he,rfl,hv,r3⟩|⟨p,hp,ht⟩⟩
  ·cases o with
   |none=>
    obtain⟨h1,rfl⟩:=zb9 he;have hv':v=.tuple #[.nilIface,.bool false]:=hv;subst hv';have H3:Hid (Kp b wr w3/\Rd w3 b s st2 eT eN/\starts s st2=false):=⟨k3,r3,h1⟩;go_wp2_with fail;go_ret;have hown3:w3.ownsRow w.heap.size 234 1 (.slice va vn vc) vs.length vs:=Jd KR.o.2.1 fun k hk=>H3.o.1.block k (KR.o.2.1.lt k hk).2 (by have:=(KR.o.2.1.lt k hk).1;omega);have z3:=H3.o.1.size;refine⟨KR.o.1.trans H3.o.1,ak ⟨l,st2,_,rfl,⟨vs,zsj hown3 fun k hk=>⟨(hown3.lt k hk).1,(hown3.lt k hk).2⟩,?_⟩,H3.o.2.1,H3.o.2.2,KR.o.2.2.2.2.2.1,?_⟩⟩;·exact(KR.o.2.2.1.keep fun k hk=>H3.o.1.block k hk.1.2 (by have:=hk.1.1;omega)).mono fun k hk=>⟨hk.1.1,by have:=hk.1.2;omega⟩
    intro stop hstop m hm;obtain⟨m',h1,h2⟩:=KR.o.2.2.2.2.2.2 stop hstop m hm;obtain⟨m',rfl⟩:∃k,m'=k+1:=⟨m'-1,by omega⟩;rw[h2,gy,HG.o.2 st2 H3.o.2.2]
   |some x=>
   obtain⟨u,rfl,hu⟩:=hv;obtain⟨h1,h2⟩:=zb8 he;obtain⟨tu,qu,rfl⟩:=hu.form;have hown3:w3.ownsRow w.heap.size 234 1 (.slice va vn vc) vs.length vs:=Jd KR.o.2.1 fun k hk=>k3.block k (KR.o.2.1.lt k hk).2 (by have:=(KR.o.2.1.lt k hk).1;omega);have Jf:w.heap.size<=w3.heap.size:=by have:=k3.size;have:=KR.o.1.size;omega
   have QK:vs.length<=300:=by have:=KR.o.2.2.2.2.1.tk.ab;have:=KR.o.2.2.2.2.1.tk.le;omega
   have H3:Hid (Kp b wr w3/\oZ w3 x (gD wr w3) (.iface tu (Ref.ptr qu))/\Rd w3 b s st2 eT eN/\starts s st1=true/\g st1=.ok (x,st2)):=⟨k3,hu,r3,h1,h2⟩;unfold Ref.ptr at H3 |-;go_wp2_with (first
    |(at_builtin;refine wpList_append_own_at _ rfl _ _ 61 rfl w.heap.size 234 i0 .nilIface 1 16 underlying61 hi hz0 hz1 hz2 rfl (by decide) _ _ _ rfl (hown3.alloc _) ⟨w3.heap.size,0,none⟩ 1 1 [.iface tu (fq qu)] rfl rfl ?c1 ?c2 ?c3 ?c4 ?c5 ?_)
    |fail)
   case c1=>
    intro j u hj;match j,hj with| 0,hj=>simp at hj;subst hj;simp[Addr.add]
   case c2=>intro u hu;simp at hu;subst hu;rfl
   case c3=>unfold maxLen;omega
   case c4=>omega
   case c5=>simp;omega
   intro v' w4 hown' hgrow _ hloc;have M:=JV KR.o.2.2.2.1;obtain⟨r1,r2⟩:=zto hb HG.o.1 KR.o.1 KR.o.2.1 KR.o.2.2.1 hq KR.o.2.2.2.2.1 KR.o.2.2.2.2.2.1 KR.o.2.2.2.2.2.2 H3.o.2.2.2.1 H3.o.2.2.2.2 H3.o.1 H3.o.2.1 H3.o.2.2.1 hown' hgrow hloc;rw[<- M]at r2;have RR:Hid (_/\_):=⟨r1,r2⟩;go_wp2;exact⟨RR.o.1,RR.o.2⟩
  obtain⟨c,rfl⟩:=ht.form;obtain⟨h1,h2⟩:=qvc KR.o.2.2.2.1.yC hp;refine⟨rfl,KR.o.1.trans k3,aj ⟨p,?_,ht.low KR.o.1.size⟩⟩;intro stop hstop m hm;obtain⟨m',h3,h4⟩:=KR.o.2.2.2.2.2.2 stop hstop m hm;obtain⟨m',rfl⟩:∃k,m'=k+1:=⟨m'-1,by omega⟩;have hst:stop st1=false:=by
   cases h:stop st1;·rfl
   have:=hstop.off st1 h;rw[h1]at this;cases this
  rw[h4,gy,ah (by simp[hst])];obtain h2|⟨x,st2,h2,h5,rfl⟩:=h2;·rw[h2];rfl
  rw[h2];simp only;cases m' with| zero=>rfl| succ m'=>rw[gy,ah (by simp[hstop.yC st2 h5]),HG.o.2 st2 (Rx h5)];rfl
def andThen{α β:Type}(r:Except Nat (α×eO))(c:α->eO->Except Nat (β×eO)):Except Nat (β×eO):=
 match r with
 |.error p=>.error p
 |.ok (x,st)=>c x st
theorem then_ok{r:Except Nat (α×eO)}{c:α->eO->Except Nat (β×eO)}{x:α}(h:r=.ok (x,st)):andThen r c=c x st:=by rw[h];rfl
theorem kE{r:Except Nat (α×eO)}{c:α->eO->Except Nat (β×eO)}(h:fin r=.error p)(hc:∀x st,st.t.k=63->fin (c x st)=.error st.t.a):fin (andThen r c)=.error p:=by
 obtain rfl|⟨x,st,rfl,h1,rfl⟩:=yG h;·rfl
 exact hc x st h1
theorem Aw(s x:dX):Late (lS s x):=by intro st h;unfold lS;rw[ah (by simp[sS h])];rfl
theorem G7(s:dX)(hk:k≠63):Late (nG s k):=by intro st h;unfold nG;rw[ah (by omega)];rfl
theorem G8{t:iy}{y:dX}(h:gN s t x=true)(hne:(x.toList==y.toList)=false):gN s t y=false:=by unfold gN at h |-;simp only[bH,beq_iff_eq]at h;rw[h.2,hne,Bool.and_false]
theorem Yd(s:dX):Stp s (fun st=>st.t.k==0):=by
 refine⟨fun st h=>?_,fun st h=>by simp[h]⟩;have hk:st.t.k=0:=by simpa using h
 unfold starts gN;rw[hk];rfl
theorem Ye(s:dX):Stp s (fun st=>gN s st.t ⟨#[125]⟩):=by refine⟨fun st h=>?_,fun st h=>sS h _⟩;unfold starts;rw[G8 h (by decide +kernel),G8 h (by decide +kernel),G8 h (by decide +kernel),G8 h (by decide +kernel),G8 h (by decide +kernel),G8 h (by decide +kernel)];rfl
theorem zi3(hD:iN s (n+1) st)(ho:gN s st.t x=true):iN s n (eZ s (Px.dn st)):=by
 have g1:=jh hD.tk ho;have h1:=hD.room;have h2:=g1.lt;have h3:=g1.tk.ab;have h4:=g1.tk.le;have h5:=hD.n1;have h6:st.t.a<(eZ s (Px.dn st)).t.a:=h2;have h8:=hD.n0;have h7:(eZ s (Px.dn st)).t.a<=s.size:=by have:(eZ s (Px.dn st)).t=(eZ s st).t:=rfl;rw[this];omega
 refine⟨g1.tk,by omega,?_,?_⟩;·show 0<=st.eP+1;omega
 show st.eP+1+n+(s.size+1:Nat)<=1000000;push_cast at h5 |-;omega
theorem Rz(b:Nat)(s:dX)(n:Nat)(eT eN:Addr)(g:eO->Except Nat (Sm×eO))(hst:JZ b s n eT eN g)(hg:fP s g)(hoff:∀st,starts s st=false->g st=.error st.t.a)(hs3:s.size<=300)(st:eO)(w:dY)(hD:iN s (n+1) st)(r:Rd w b s st eT eN):fI 196 #[fq b] w (Out b s eT eN w (Px.block s g st) (BV w)):=by
 have hs:s.size<=maxLen:=by unfold maxLen;omega
 have hb:=r.lt;have HG:Hid (fP s g/\(∀st,starts s st=false->g st=.error st.t.a)/\JZ b s n eT eN g):=⟨hg,hoff,hst⟩;have HR:Hid (iN s (n+1) st/\Rd w b s st eT eN):=⟨hD,r⟩;have hn0:=hD.n0;have hn1:st.eP<=1000000:=by have:=hD.n1;omega
 go_enter func196,ntmps196;go_wp2_with fail;refine(XR b s _ st eT eN _ HR.o.2 hs hn0 hn1).mono ?_;rintro e w1 ⟨k1,⟨x,st1,v,he,rfl,rfl,r1⟩|⟨p,hp,ht⟩⟩
 ·have ho:gN s st.t ⟨#[123]⟩=true/\st1=eZ s (Px.dn st):=by
   unfold BA at he;split at he;·rename_i ho;cases he;exact⟨ho,rfl⟩
   cases he
  obtain⟨ho,rfl⟩:=ho;have D1:Hid (iN s n (eZ s (Px.dn st))):=zi3 HR.o.1 ho;have E1:Hid (Px.block s g st=match gy s g (fun st=>gN s st.t ⟨#[125]⟩) (s.size+1) [] (eZ s (Px.dn st))with
   |.error p=>.error p
   |.ok (l,st')=>.ok (l,rC (eZ s st'))):=by
   unfold Hid;rw[Px.block,aA ho];cases gy s g (fun st=>gN s st.t ⟨#[125]⟩) (s.size+1) [] (eZ s (Px.dn st))<;>rfl
  have H1:Hid (Kp b w w1/\Rd w1 b s (eZ s (Px.dn st)) eT eN):=⟨k1,r1⟩;go_wp2_with fail;refine(Yc b s n eT eN g HG.o.2.2 HG.o.1 HG.o.2.1 hs3 _ _ D1.o H1.o.2).mono ?_;rintro e w2 ⟨k2,⟨l,st2,v,rfl,⟨vs,hv1,hv2⟩,r2,xP,G2,CH⟩|⟨p,hp,ht⟩⟩
  ·obtain⟨va,vn,vc,rfl⟩:=hv1.form;have ch:=CH _ (Ye s) (s.size+1) (by omega);have gn:st2.eP=st.eP+1:=G2.eP;have H2:Hid (Kp b w1 w2/\lJ w2 (.slice va vn vc) vs (gD w1 w2)/\gX w2 l (gD w1 w2) vs/\Rd w2 b s st2 eT eN/\gy s g (fun st=>gN s st.t ⟨#[125]⟩) (s.size+1) [] (eZ s (Px.dn st))=if gN s st2.t ⟨#[125]⟩=true then .ok (l,st2)else .error st2.t.a):=⟨k2,hv1,hv2,r2,ch⟩;go_wp2_with fail;refine(XT b s _ st2 eT eN _ H2.o.2.2.2.1 hs (by omega) (by omega)).mono ?_;rintro e w3 ⟨k3,⟨u,jg,v,he,rfl,rfl,r3⟩|⟨p,hp,ht⟩⟩
   ·have ho:gN s st2.t ⟨#[125]⟩=true/\jg=rC (eZ s st2):=by
     unfold BD at he;split at he;·rename_i ho;cases he;exact⟨ho,rfl⟩
     cases he
    obtain⟨ho,rfl⟩:=ho;have E3:Hid (Px.block s g st=.ok (l,rC (eZ s st2))):=by unfold Hid;rw[E1.o,H2.o.2.2.2.2,aA ho]
    have H3:Hid (_/\_):=⟨k3,r3⟩;have z1:=H1.o.1.size;have z3:=k3.size;go_wp2_with fail;go_ret;have hk:∀i,gD w1 w2 i->w3.heap[i]?=w2.heap[i]?:=fun i hi=>H3.o.1.block i hi.2 (by have:=hi.1;omega);have hm:∀i,gD w1 w2 i->gD w w3 i:=fun i hi=>⟨by have:=hi.1;omega,by have:=hi.2;omega⟩;exact⟨(H1.o.1.trans H2.o.1).trans H3.o.1,ak ⟨l,_,_,E3.o,rfl,⟨vs,(H2.o.2.1.keep hk).mono hm,(H2.o.2.2.1.keep hk).mono hm⟩,H3.o.2⟩⟩
   obtain⟨c,rfl⟩:=ht.form;refine⟨rfl,(H1.o.1.trans H2.o.1).trans k3,aj ⟨p,?_,ht.low (H1.o.1.trans H2.o.1).size⟩⟩;rw[E1.o,H2.o.2.2.2.2];unfold BD at hp;split at hp;·rename_i ho;rw[aA ho];exact Dg hp
   rename_i ho;rw[ah ho];exact NQ hp
  obtain⟨c,rfl⟩:=ht.form;refine⟨rfl,H1.o.1.trans k2,aj ⟨p,?_,ht.low H1.o.1.size⟩⟩;rw[E1.o];obtain h1|⟨l,st2,h1,h2,rfl⟩:=yG (hp _ (Ye s) (s.size+1) (by omega));·rw[h1];rfl
  have h3:=(yt HG.o.1 _ _ _ _ _ _ D1.o.tk h1).2;have h4:=sS (s:=s) h2 ⟨#[125]⟩;rw[h4]at h3;cases h3
 obtain⟨c,rfl⟩:=ht.form;refine⟨rfl,k1,aj ⟨p,?_,ht⟩⟩;unfold BA at hp;unfold Px.block;split at hp;·rename_i ho;rw[aA ho];obtain⟨h4,rfl⟩:=tZ hp;rw[gy,ah (by simp[sS h4]),HG.o.2.1 _ (Rx h4)];rfl
 rename_i ho;rw[ah ho];exact NQ hp
def RV(w:dY):dY->fG->dZ->Prop:=fun w' e v=>∃q,v=Ref.ptr q/\kR w' e (gD w w') q
theorem Yf(b:Nat)(s:dX)(eT eN:Addr)(hs:s.size<=maxLen)(st:eO)(w:dY)(r:Rd w b s st eT eN)(hn0:0<=st.eP)(hn1:st.eP+(s.size+1:Nat)<=1000000):fI 238 #[fq b] w (Out b s eT eN w (lG s st) (RV w)):=by
 obtain⟨td,c0,c1,c2,c3,c4,c5,f⟩:=r.cells;have R:Hid _:=r;go_enter func238,ntmps238;go_wp2_with fail;refine(Ya b s eT eN hs st _ R.o hn0 hn1).mono ?_;rintro e w1 ⟨k1,⟨x,st1,v,he,rfl,hv,r1⟩|⟨p,hp,ht⟩⟩
 ·obtain⟨tl,ql,rfl⟩:=ku.form hv;have hpl:=PI s _ _ _ he;have z:=k1.size;have H1:Hid (Kp b w w1/\lG s st=.ok (x,st1)/\ku w1 x (gD w w1) (.iface tl (Ref.ptr ql))/\Rd w1 b s st1 eT eN/\x.pl=st.t.a):=⟨k1,he,hv,r1,hpl⟩;unfold Ref.ptr at H1 |-;go_wp2_with fail;go_ret;refine⟨H1.o.1.alloc _,ak ⟨x,st1,_,H1.o.2.1,rfl,⟨w1.heap.size,rfl,⟨z,by simp⟩,tl,ql,?_,?_⟩,H1.o.2.2.2.1.alloc _⟩⟩;·rw[H1.o.2.2.2.2];exact jX
  exact(H1.o.2.2.1.keep fun i hi=>aI _ _ _ hi.2).mono fun i hi=>⟨hi.1,by have:=hi.2;simp;omega⟩
 obtain⟨c,rfl⟩:=ht.form;exact⟨rfl,k1,aj ⟨p,hp,ht⟩⟩
