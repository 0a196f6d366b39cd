import Derived.Test.YtokkhhekekeokaaGreatDoorC34
set_option maxRecDepth 100000
set_option maxHeartbeats 4000000
namespace Go.Proofs.YtokkhhekekeokaaGreatDoor
open Go.RowKit Tryz
namespace Rn
open Lg Mk Px Ref
theorem J4 (a b:Int)(w:fu):Calls prog 56 #[.int .i64 a,.int .i64 b] w fun e w'=>e=.returned (.int .i64 (wrap64 (a+b)))/\w'=w:=by
 have hwr:IntKind.i64.wrap (a+b)=wrap64 (a+b):=by rw[IntKind.wrap_i64];unfold wrap64;rfl
 go_enter func56,ntmps56
 go_wp2_with fail;go_ret;exact ⟨by first | rfl | (congr 2),rfl⟩
theorem J5 (a b:Int)(w:fu):Calls prog 57 #[.int .i64 a,.int .i64 b] w fun e w'=>e=.returned (.int .i64 (wrap64 (a - b)))/\w'=w:=by
 have hwr:IntKind.i64.wrap (a - b)=wrap64 (a - b):=by rw[IntKind.wrap_i64];unfold wrap64;rfl
 go_enter func57,ntmps57
 go_wp2_with fail;go_ret;exact ⟨by first | rfl | (congr 2),rfl⟩
theorem J6 (a b:Int)(w:fu):Calls prog 58 #[.int .i64 a,.int .i64 b] w fun e w'=>e=.returned (.int .i64 (wrap64 (a * b)))/\w'=w:=by
 have hwr:IntKind.i64.wrap (a * b)=wrap64 (a * b):=by rw[IntKind.wrap_i64];unfold wrap64;rfl
 go_enter func58,ntmps58
 go_wp2_with fail;go_ret;exact ⟨by first | rfl | (congr 2),rfl⟩
theorem J7 (a b:Int)(w:fu):Calls prog 61 #[.int .i64 a,.int .i64 b] w fun e w'=>e=.returned (.int .i64 (Px.truth (decide (a < b))))/\w'=w:=by
 have hd:(decide (a < b))=(decide (a < b)):=rfl;rw[hd];go_enter func61,ntmps61
 go_wp2_with fail;refine (Bu _ _).mono ?_;rintro e w1 ⟨rfl,rfl⟩;go_wp2_with fail;go_ret;exact ⟨rfl,rfl⟩
theorem J8 (a b:Int)(w:fu):Calls prog 63 #[.int .i64 a,.int .i64 b] w fun e w'=>e=.returned (.int .i64 (Px.truth (decide (a=b))))/\w'=w:=by
 have hd:(decide (a=b))=(a == b):=by rw[bA];simp
 rw[hd];go_enter func63,ntmps63
 go_wp2_with fail;refine (Bu _ _).mono ?_;rintro e w1 ⟨rfl,rfl⟩;go_wp2_with fail;go_ret;exact ⟨rfl,rfl⟩
theorem zw9 (a b:Int)(w:fu):Calls prog 64 #[.int .i64 a,.int .i64 b] w fun e w'=>e=.returned (.int .i64 (Px.truth (decide (a≠b))))/\w'=w:=by
 have hd:(decide (a≠b))=(a != b):=by rw[bA];simp
 rw[hd];go_enter func64,ntmps64
 go_wp2_with fail;refine (Bu _ _).mono ?_;rintro e w1 ⟨rfl,rfl⟩;go_wp2_with fail;go_ret;exact ⟨rfl,rfl⟩
variable {x:Cx}
theorem do4 (hj:iT x)(m:Ms)(w:fu)(f:Nat->fC)(va:fC)(h:MK x m w f va)(i:Px.Ins)(hb:Bd x.P m)(hc:jX x.P i m)(hk:i.k=4) :
  Calls prog 101 #[.pointer (some ⟨x.g,0,none⟩),iF i,.pointer (some ⟨x.J 4,0,none⟩)] w (gB x i m w f va):=by
 have HB:=h.boxed hj (gL i);have hst:=hc.st;rw[show iX i.k=2 by rw[hk];rfl] at hst
 obtain ⟨b,a,r,hst⟩:=Eo hst;have hs:=hb.s;rw[hst,aC,aC] at hs;have HD:Hid (jh x.P i m=(0,{ m with st:=wrap64 (a+b)::r })):=by unfold Hid jh;rw[if_neg (by omega),if_neg (by omega),if_neg (by omega),if_neg (by omega),if_neg (by omega),if_pos (by omega)];simp only[hst,hk];rfl
 have HP:Hid (∀ W,(W=w.alloc (gL i)\/W=(w.alloc (gL i)).drew)->Calls prog 53 #[.pointer (some ⟨x.g,0,none⟩)] W fun e w1=>e=.returned (.int .i64 b)/\w1.cell? ⟨x.J 4,0,none⟩=some (.func (.func 56) #[] #[])/\Hid (∃ f1,MK x { m with st:=a::r } w1 f1 va/\Fr x w f va w1 f1 va)):=fun W hW=>by
  obtain ⟨j1,j2⟩:=HB.o W hW;refine (qP hj m W f va j1 b (a::r) hst (by simp;omega)).mono ?_
  rintro e w1 ⟨rfl,v1,k1,k2⟩;exact ⟨rfl,(k1.a.jn 4 rfl).1,_,k1,j2.trans k2⟩
 have wL:Hid (∀ w1 W,(∃ f1,MK x { m with st:=a::r } w1 f1 va/\Fr x w f va w1 f1 va)->fO (fun _=>False) w1 W->Calls prog 53 #[.pointer (some ⟨x.g,0,none⟩)] W fun e w2=>e=.returned (.int .i64 a)/\w2.cell? ⟨x.J 4,0,none⟩=some (.func (.func 56) #[] #[])/\Hid (∃ f1,MK x { m with st:=r } w2 f1 va/\Fr x w f va w2 f1 va)):=fun w1 W ⟨f1,h1,h2⟩ hT=>by
  obtain ⟨j1,j2⟩:=h1.same hj hT;refine (qP hj { m with st:=a::r } W f1 va j1 a r rfl (by omega)).mono ?_
  rintro e w2 ⟨rfl,v1,k1,k2⟩;exact ⟨rfl,(k1.a.jn 4 rfl).1,_,k1,h2.trans (j2.trans k2)⟩
 have HU:Hid (∀ w1,(∃ f1,MK x { m with st:=r } w1 f1 va/\Fr x w f va w1 f1 va)->Calls prog 50 #[.pointer (some ⟨x.g,0,none⟩),.int .i64 (wrap64 (a+b))] w1 fun e w2=>e=.returned (.tuple #[])/\w2.cell? ⟨x.J 4,0,none⟩=some (.func (.func 56) #[] #[])/\Hid (PM x { m with st:=wrap64 (a+b)::r } w f va w2)):=fun w1 ⟨f1,h1,h2⟩=>by
  refine (xI hj { m with st:=r } w1 f1 va h1 (wrap64 (a+b)) (by show r.length<=_;omega)).mono ?_
  rintro e w2 ⟨rfl,v2,k1,k2⟩;exact ⟨rfl,(k1.a.jn 4 rfl).1,PM.mk' k1 (h2.trans k2)⟩
 have HJ:Hid (∀ W:fu,Calls prog 56 #[.int .i64 a,.int .i64 b] W fun e w'=>e=.returned (.int .i64 (wrap64 (a+b)))/\w'=W):=fun W=>J4 a b W
 unfold iF;unfold gL at HB HP;clear h hb hc hk hst hs;generalize wrap64 (a+b)=EE at *;go_enter func101,ntmps101
 go_wp2_with fail;refine aA (HP.o _ (by first | exact ak rfl | exact ah rfl)) ?_
 rintro e w1 ⟨rfl,d1,H1⟩;go_wp2_with fail;go_region_held (fun w'=>w'.cell? ⟨x.J 4,0,none⟩=some (.func (.func 56) #[] #[])) (go_keep)
  (first | (go_at_call 53;refine aA (wL.o _ _ H1.o (by first | exact fO.refl _ _ | exact (fO.refl _ _).drew)) ?_;rintro e w2 ⟨rfl,d2,H2⟩) | (go_at_call 56;refine aA (HJ.o _) ?_;rintro e w3 ⟨rfl,rfl⟩) | (go_at_call 50;refine aA (HU.o _ H2.o) ?_;rintro e w4 ⟨rfl,d4,H4⟩))
 all_goals
  go_wp2_with fail;go_ret;exact gB.ok HD.o H4.o
theorem do5 (hj:iT x)(m:Ms)(w:fu)(f:Nat->fC)(va:fC)(h:MK x m w f va)(i:Px.Ins)(hb:Bd x.P m)(hc:jX x.P i m)(hk:i.k=5) :
  Calls prog 101 #[.pointer (some ⟨x.g,0,none⟩),iF i,.pointer (some ⟨x.J 5,0,none⟩)] w (gB x i m w f va):=by
 have HB:=h.boxed hj (gL i);have hst:=hc.st;rw[show iX i.k=2 by rw[hk];rfl] at hst
 obtain ⟨b,a,r,hst⟩:=Eo hst;have hs:=hb.s;rw[hst,aC,aC] at hs;have HD:Hid (jh x.P i m=(0,{ m with st:=wrap64 (a - b)::r })):=by unfold Hid jh;rw[if_neg (by omega),if_neg (by omega),if_neg (by omega),if_neg (by omega),if_neg (by omega),if_pos (by omega)];simp only[hst,hk];rfl
 have HP:Hid (∀ W,(W=w.alloc (gL i)\/W=(w.alloc (gL i)).drew)->Calls prog 53 #[.pointer (some ⟨x.g,0,none⟩)] W fun e w1=>e=.returned (.int .i64 b)/\w1.cell? ⟨x.J 5,0,none⟩=some (.func (.func 57) #[] #[])/\Hid (∃ f1,MK x { m with st:=a::r } w1 f1 va/\Fr x w f va w1 f1 va)):=fun W hW=>by
  obtain ⟨j1,j2⟩:=HB.o W hW;refine (qP hj m W f va j1 b (a::r) hst (by simp;omega)).mono ?_
  rintro e w1 ⟨rfl,v1,k1,k2⟩;exact ⟨rfl,(k1.a.jn 5 rfl).1,_,k1,j2.trans k2⟩
 have wL:Hid (∀ w1 W,(∃ f1,MK x { m with st:=a::r } w1 f1 va/\Fr x w f va w1 f1 va)->fO (fun _=>False) w1 W->Calls prog 53 #[.pointer (some ⟨x.g,0,none⟩)] W fun e w2=>e=.returned (.int .i64 a)/\w2.cell? ⟨x.J 5,0,none⟩=some (.func (.func 57) #[] #[])/\Hid (∃ f1,MK x { m with st:=r } w2 f1 va/\Fr x w f va w2 f1 va)):=fun w1 W ⟨f1,h1,h2⟩ hT=>by
  obtain ⟨j1,j2⟩:=h1.same hj hT;refine (qP hj { m with st:=a::r } W f1 va j1 a r rfl (by omega)).mono ?_
  rintro e w2 ⟨rfl,v1,k1,k2⟩;exact ⟨rfl,(k1.a.jn 5 rfl).1,_,k1,h2.trans (j2.trans k2)⟩
 have HU:Hid (∀ w1,(∃ f1,MK x { m with st:=r } w1 f1 va/\Fr x w f va w1 f1 va)->Calls prog 50 #[.pointer (some ⟨x.g,0,none⟩),.int .i64 (wrap64 (a - b))] w1 fun e w2=>e=.returned (.tuple #[])/\w2.cell? ⟨x.J 5,0,none⟩=some (.func (.func 57) #[] #[])/\Hid (PM x { m with st:=wrap64 (a - b)::r } w f va w2)):=fun w1 ⟨f1,h1,h2⟩=>by
  refine (xI hj { m with st:=r } w1 f1 va h1 (wrap64 (a - b)) (by show r.length<=_;omega)).mono ?_
  rintro e w2 ⟨rfl,v2,k1,k2⟩;exact ⟨rfl,(k1.a.jn 5 rfl).1,PM.mk' k1 (h2.trans k2)⟩
 have HJ:Hid (∀ W:fu,Calls prog 57 #[.int .i64 a,.int .i64 b] W fun e w'=>e=.returned (.int .i64 (wrap64 (a - b)))/\w'=W):=fun W=>J5 a b W
 unfold iF;unfold gL at HB HP;clear h hb hc hk hst hs;generalize wrap64 (a - b)=EE at *;go_enter func101,ntmps101
 go_wp2_with fail;refine aA (HP.o _ (by first | exact ak rfl | exact ah rfl)) ?_
 rintro e w1 ⟨rfl,d1,H1⟩;go_wp2_with fail;go_region_held (fun w'=>w'.cell? ⟨x.J 5,0,none⟩=some (.func (.func 57) #[] #[])) (go_keep)
  (first | (go_at_call 53;refine aA (wL.o _ _ H1.o (by first | exact fO.refl _ _ | exact (fO.refl _ _).drew)) ?_;rintro e w2 ⟨rfl,d2,H2⟩) | (go_at_call 57;refine aA (HJ.o _) ?_;rintro e w3 ⟨rfl,rfl⟩) | (go_at_call 50;refine aA (HU.o _ H2.o) ?_;rintro e w4 ⟨rfl,d4,H4⟩))
 all_goals
  go_wp2_with fail;go_ret;exact gB.ok HD.o H4.o
theorem do6 (hj:iT x)(m:Ms)(w:fu)(f:Nat->fC)(va:fC)(h:MK x m w f va)(i:Px.Ins)(hb:Bd x.P m)(hc:jX x.P i m)(hk:i.k=6) :
  Calls prog 101 #[.pointer (some ⟨x.g,0,none⟩),iF i,.pointer (some ⟨x.J 6,0,none⟩)] w (gB x i m w f va):=by
 have HB:=h.boxed hj (gL i);have hst:=hc.st;rw[show iX i.k=2 by rw[hk];rfl] at hst
 obtain ⟨b,a,r,hst⟩:=Eo hst;have hs:=hb.s;rw[hst,aC,aC] at hs;have HD:Hid (jh x.P i m=(0,{ m with st:=wrap64 (a * b)::r })):=by unfold Hid jh;rw[if_neg (by omega),if_neg (by omega),if_neg (by omega),if_neg (by omega),if_neg (by omega),if_pos (by omega)];simp only[hst,hk];rfl
 have HP:Hid (∀ W,(W=w.alloc (gL i)\/W=(w.alloc (gL i)).drew)->Calls prog 53 #[.pointer (some ⟨x.g,0,none⟩)] W fun e w1=>e=.returned (.int .i64 b)/\w1.cell? ⟨x.J 6,0,none⟩=some (.func (.func 58) #[] #[])/\Hid (∃ f1,MK x { m with st:=a::r } w1 f1 va/\Fr x w f va w1 f1 va)):=fun W hW=>by
  obtain ⟨j1,j2⟩:=HB.o W hW;refine (qP hj m W f va j1 b (a::r) hst (by simp;omega)).mono ?_
  rintro e w1 ⟨rfl,v1,k1,k2⟩;exact ⟨rfl,(k1.a.jn 6 rfl).1,_,k1,j2.trans k2⟩
 have wL:Hid (∀ w1 W,(∃ f1,MK x { m with st:=a::r } w1 f1 va/\Fr x w f va w1 f1 va)->fO (fun _=>False) w1 W->Calls prog 53 #[.pointer (some ⟨x.g,0,none⟩)] W fun e w2=>e=.returned (.int .i64 a)/\w2.cell? ⟨x.J 6,0,none⟩=some (.func (.func 58) #[] #[])/\Hid (∃ f1,MK x { m with st:=r } w2 f1 va/\Fr x w f va w2 f1 va)):=fun w1 W ⟨f1,h1,h2⟩ hT=>by
  obtain ⟨j1,j2⟩:=h1.same hj hT;refine (qP hj { m with st:=a::r } W f1 va j1 a r rfl (by omega)).mono ?_
  rintro e w2 ⟨rfl,v1,k1,k2⟩;exact ⟨rfl,(k1.a.jn 6 rfl).1,_,k1,h2.trans (j2.trans k2)⟩
 have HU:Hid (∀ w1,(∃ f1,MK x { m with st:=r } w1 f1 va/\Fr x w f va w1 f1 va)->Calls prog 50 #[.pointer (some ⟨x.g,0,none⟩),.int .i64 (wrap64 (a * b))] w1 fun e w2=>e=.returned (.tuple #[])/\w2.cell? ⟨x.J 6,0,none⟩=some (.func (.func 58) #[] #[])/\Hid (PM x { m with st:=wrap64 (a * b)::r } w f va w2)):=fun w1 ⟨f1,h1,h2⟩=>by
  refine (xI hj { m with st:=r } w1 f1 va h1 (wrap64 (a * b)) (by show r.length<=_;omega)).mono ?_
  rintro e w2 ⟨rfl,v2,k1,k2⟩;exact ⟨rfl,(k1.a.jn 6 rfl).1,PM.mk' k1 (h2.trans k2)⟩
 have HJ:Hid (∀ W:fu,Calls prog 58 #[.int .i64 a,.int .i64 b] W fun e w'=>e=.returned (.int .i64 (wrap64 (a * b)))/\w'=W):=fun W=>J6 a b W
 unfold iF;unfold gL at HB HP;clear h hb hc hk hst hs;generalize wrap64 (a * b)=EE at *;go_enter func101,ntmps101
 go_wp2_with fail;refine aA (HP.o _ (by first | exact ak rfl | exact ah rfl)) ?_
 rintro e w1 ⟨rfl,d1,H1⟩;go_wp2_with fail;go_region_held (fun w'=>w'.cell? ⟨x.J 6,0,none⟩=some (.func (.func 58) #[] #[])) (go_keep)
  (first | (go_at_call 53;refine aA (wL.o _ _ H1.o (by first | exact fO.refl _ _ | exact (fO.refl _ _).drew)) ?_;rintro e w2 ⟨rfl,d2,H2⟩) | (go_at_call 58;refine aA (HJ.o _) ?_;rintro e w3 ⟨rfl,rfl⟩) | (go_at_call 50;refine aA (HU.o _ H2.o) ?_;rintro e w4 ⟨rfl,d4,H4⟩))
 all_goals
  go_wp2_with fail;go_ret;exact gB.ok HD.o H4.o
theorem do8 (hj:iT x)(m:Ms)(w:fu)(f:Nat->fC)(va:fC)(h:MK x m w f va)(i:Px.Ins)(hb:Bd x.P m)(hc:jX x.P i m)(hk:i.k=8) :
  Calls prog 101 #[.pointer (some ⟨x.g,0,none⟩),iF i,.pointer (some ⟨x.J 8,0,none⟩)] w (gB x i m w f va):=by
 have HB:=h.boxed hj (gL i);have hst:=hc.st;rw[show iX i.k=2 by rw[hk];rfl] at hst
 obtain ⟨b,a,r,hst⟩:=Eo hst;have hs:=hb.s;rw[hst,aC,aC] at hs;have HD:Hid (jh x.P i m=(0,{ m with st:=Px.truth (decide (a < b))::r })):=by unfold Hid jh;rw[if_neg (by omega),if_neg (by omega),if_neg (by omega),if_neg (by omega),if_neg (by omega),if_pos (by omega)];simp only[hst,hk];rfl
 have HP:Hid (∀ W,(W=w.alloc (gL i)\/W=(w.alloc (gL i)).drew)->Calls prog 53 #[.pointer (some ⟨x.g,0,none⟩)] W fun e w1=>e=.returned (.int .i64 b)/\w1.cell? ⟨x.J 8,0,none⟩=some (.func (.func 61) #[] #[])/\Hid (∃ f1,MK x { m with st:=a::r } w1 f1 va/\Fr x w f va w1 f1 va)):=fun W hW=>by
  obtain ⟨j1,j2⟩:=HB.o W hW;refine (qP hj m W f va j1 b (a::r) hst (by simp;omega)).mono ?_
  rintro e w1 ⟨rfl,v1,k1,k2⟩;exact ⟨rfl,(k1.a.jn 8 rfl).1,_,k1,j2.trans k2⟩
 have wL:Hid (∀ w1 W,(∃ f1,MK x { m with st:=a::r } w1 f1 va/\Fr x w f va w1 f1 va)->fO (fun _=>False) w1 W->Calls prog 53 #[.pointer (some ⟨x.g,0,none⟩)] W fun e w2=>e=.returned (.int .i64 a)/\w2.cell? ⟨x.J 8,0,none⟩=some (.func (.func 61) #[] #[])/\Hid (∃ f1,MK x { m with st:=r } w2 f1 va/\Fr x w f va w2 f1 va)):=fun w1 W ⟨f1,h1,h2⟩ hT=>by
  obtain ⟨j1,j2⟩:=h1.same hj hT;refine (qP hj { m with st:=a::r } W f1 va j1 a r rfl (by omega)).mono ?_
  rintro e w2 ⟨rfl,v1,k1,k2⟩;exact ⟨rfl,(k1.a.jn 8 rfl).1,_,k1,h2.trans (j2.trans k2)⟩
 have HU:Hid (∀ w1,(∃ f1,MK x { m with st:=r } w1 f1 va/\Fr x w f va w1 f1 va)->Calls prog 50 #[.pointer (some ⟨x.g,0,none⟩),.int .i64 (Px.truth (decide (a < b)))] w1 fun e w2=>e=.returned (.tuple #[])/\w2.cell? ⟨x.J 8,0,none⟩=some (.func (.func 61) #[] #[])/\Hid (PM x { m with st:=Px.truth (decide (a < b))::r } w f va w2)):=fun w1 ⟨f1,h1,h2⟩=>by
  refine (xI hj { m with st:=r } w1 f1 va h1 (Px.truth (decide (a < b))) (by show r.length<=_;omega)).mono ?_
  rintro e w2 ⟨rfl,v2,k1,k2⟩;exact ⟨rfl,(k1.a.jn 8 rfl).1,PM.mk' k1 (h2.trans k2)⟩
 have HJ:Hid (∀ W:fu,Calls prog 61 #[.int .i64 a,.int .i64 b] W fun e w'=>e=.returned (.int .i64 (Px.truth (decide (a < b))))/\w'=W):=fun W=>J7 a b W
 unfold iF;unfold gL at HB HP;clear h hb hc hk hst hs;generalize Px.truth (decide (a < b))=EE at *;go_enter func101,ntmps101
 go_wp2_with fail;refine aA (HP.o _ (by first | exact ak rfl | exact ah rfl)) ?_
 rintro e w1 ⟨rfl,d1,H1⟩;go_wp2_with fail;go_region_held (fun w'=>w'.cell? ⟨x.J 8,0,none⟩=some (.func (.func 61) #[] #[])) (go_keep)
  (first | (go_at_call 53;refine aA (wL.o _ _ H1.o (by first | exact fO.refl _ _ | exact (fO.refl _ _).drew)) ?_;rintro e w2 ⟨rfl,d2,H2⟩) | (go_at_call 61;refine aA (HJ.o _) ?_;rintro e w3 ⟨rfl,rfl⟩) | (go_at_call 50;refine aA (HU.o _ H2.o) ?_;rintro e w4 ⟨rfl,d4,H4⟩))
 all_goals
  go_wp2_with fail;go_ret;exact gB.ok HD.o H4.o
theorem do9 (hj:iT x)(m:Ms)(w:fu)(f:Nat->fC)(va:fC)(h:MK x m w f va)(i:Px.Ins)(hb:Bd x.P m)(hc:jX x.P i m)(hk:i.k=9) :
  Calls prog 101 #[.pointer (some ⟨x.g,0,none⟩),iF i,.pointer (some ⟨x.J 9,0,none⟩)] w (gB x i m w f va):=by
 have HB:=h.boxed hj (gL i);have hst:=hc.st;rw[show iX i.k=2 by rw[hk];rfl] at hst
 obtain ⟨b,a,r,hst⟩:=Eo hst;have hs:=hb.s;rw[hst,aC,aC] at hs;have HD:Hid (jh x.P i m=(0,{ m with st:=Px.truth (decide (a=b))::r })):=by unfold Hid jh;rw[if_neg (by omega),if_neg (by omega),if_neg (by omega),if_neg (by omega),if_neg (by omega),if_pos (by omega)];simp only[hst,hk];rfl
 have HP:Hid (∀ W,(W=w.alloc (gL i)\/W=(w.alloc (gL i)).drew)->Calls prog 53 #[.pointer (some ⟨x.g,0,none⟩)] W fun e w1=>e=.returned (.int .i64 b)/\w1.cell? ⟨x.J 9,0,none⟩=some (.func (.func 63) #[] #[])/\Hid (∃ f1,MK x { m with st:=a::r } w1 f1 va/\Fr x w f va w1 f1 va)):=fun W hW=>by
  obtain ⟨j1,j2⟩:=HB.o W hW;refine (qP hj m W f va j1 b (a::r) hst (by simp;omega)).mono ?_
  rintro e w1 ⟨rfl,v1,k1,k2⟩;exact ⟨rfl,(k1.a.jn 9 rfl).1,_,k1,j2.trans k2⟩
 have wL:Hid (∀ w1 W,(∃ f1,MK x { m with st:=a::r } w1 f1 va/\Fr x w f va w1 f1 va)->fO (fun _=>False) w1 W->Calls prog 53 #[.pointer (some ⟨x.g,0,none⟩)] W fun e w2=>e=.returned (.int .i64 a)/\w2.cell? ⟨x.J 9,0,none⟩=some (.func (.func 63) #[] #[])/\Hid (∃ f1,MK x { m with st:=r } w2 f1 va/\Fr x w f va w2 f1 va)):=fun w1 W ⟨f1,h1,h2⟩ hT=>by
  obtain ⟨j1,j2⟩:=h1.same hj hT;refine (qP hj { m with st:=a::r } W f1 va j1 a r rfl (by omega)).mono ?_
  rintro e w2 ⟨rfl,v1,k1,k2⟩;exact ⟨rfl,(k1.a.jn 9 rfl).1,_,k1,h2.trans (j2.trans k2)⟩
 have HU:Hid (∀ w1,(∃ f1,MK x { m with st:=r } w1 f1 va/\Fr x w f va w1 f1 va)->Calls prog 50 #[.pointer (some ⟨x.g,0,none⟩),.int .i64 (Px.truth (decide (a=b)))] w1 fun e w2=>e=.returned (.tuple #[])/\w2.cell? ⟨x.J 9,0,none⟩=some (.func (.func 63) #[] #[])/\Hid (PM x { m with st:=Px.truth (decide (a=b))::r } w f va w2)):=fun w1 ⟨f1,h1,h2⟩=>by
  refine (xI hj { m with st:=r } w1 f1 va h1 (Px.truth (decide (a=b))) (by show r.length<=_;omega)).mono ?_
  rintro e w2 ⟨rfl,v2,k1,k2⟩;exact ⟨rfl,(k1.a.jn 9 rfl).1,PM.mk' k1 (h2.trans k2)⟩
 have HJ:Hid (∀ W:fu,Calls prog 63 #[.int .i64 a,.int .i64 b] W fun e w'=>e=.returned (.int .i64 (Px.truth (decide (a=b))))/\w'=W):=fun W=>J8 a b W
 unfold iF;unfold gL at HB HP;clear h hb hc hk hst hs;generalize Px.truth (decide (a=b))=EE at *;go_enter func101,ntmps101
 go_wp2_with fail;refine aA (HP.o _ (by first | exact ak rfl | exact ah rfl)) ?_
 rintro e w1 ⟨rfl,d1,H1⟩;go_wp2_with fail;go_region_held (fun w'=>w'.cell? ⟨x.J 9,0,none⟩=some (.func (.func 63) #[] #[])) (go_keep)
  (first | (go_at_call 53;refine aA (wL.o _ _ H1.o (by first | exact fO.refl _ _ | exact (fO.refl _ _).drew)) ?_;rintro e w2 ⟨rfl,d2,H2⟩) | (go_at_call 63;refine aA (HJ.o _) ?_;rintro e w3 ⟨rfl,rfl⟩) | (go_at_call 50;refine aA (HU.o _ H2.o) ?_;rintro e w4 ⟨rfl,d4,H4⟩))
 all_goals
  go_wp2_with fail;go_ret;exact gB.ok HD.o H4.o
theorem Tj (hj:iT x)(m:Ms)(w:fu)(f:Nat->fC)(va:fC)(h:MK x m w f va)(i:Px.Ins)(hb:Bd x.P m)(hc:jX x.P i m)(hk:i.k=10) :
  Calls prog 101 #[.pointer (some ⟨x.g,0,none⟩),iF i,.pointer (some ⟨x.J 10,0,none⟩)] w (gB x i m w f va):=by
 have HB:=h.boxed hj (gL i);have hst:=hc.st;rw[show iX i.k=2 by rw[hk];rfl] at hst
 obtain ⟨b,a,r,hst⟩:=Eo hst;have hs:=hb.s;rw[hst,aC,aC] at hs;have HD:Hid (jh x.P i m=(0,{ m with st:=Px.truth (decide (a≠b))::r })):=by unfold Hid jh;rw[if_neg (by omega),if_neg (by omega),if_neg (by omega),if_neg (by omega),if_neg (by omega),if_pos (by omega)];simp only[hst,hk];rfl
 have HP:Hid (∀ W,(W=w.alloc (gL i)\/W=(w.alloc (gL i)).drew)->Calls prog 53 #[.pointer (some ⟨x.g,0,none⟩)] W fun e w1=>e=.returned (.int .i64 b)/\w1.cell? ⟨x.J 10,0,none⟩=some (.func (.func 64) #[] #[])/\Hid (∃ f1,MK x { m with st:=a::r } w1 f1 va/\Fr x w f va w1 f1 va)):=fun W hW=>by
  obtain ⟨j1,j2⟩:=HB.o W hW;refine (qP hj m W f va j1 b (a::r) hst (by simp;omega)).mono ?_
  rintro e w1 ⟨rfl,v1,k1,k2⟩;exact ⟨rfl,(k1.a.jn 10 rfl).1,_,k1,j2.trans k2⟩
 have wL:Hid (∀ w1 W,(∃ f1,MK x { m with st:=a::r } w1 f1 va/\Fr x w f va w1 f1 va)->fO (fun _=>False) w1 W->Calls prog 53 #[.pointer (some ⟨x.g,0,none⟩)] W fun e w2=>e=.returned (.int .i64 a)/\w2.cell? ⟨x.J 10,0,none⟩=some (.func (.func 64) #[] #[])/\Hid (∃ f1,MK x { m with st:=r } w2 f1 va/\Fr x w f va w2 f1 va)):=fun w1 W ⟨f1,h1,h2⟩ hT=>by
  obtain ⟨j1,j2⟩:=h1.same hj hT;refine (qP hj { m with st:=a::r } W f1 va j1 a r rfl (by omega)).mono ?_
  rintro e w2 ⟨rfl,v1,k1,k2⟩;exact ⟨rfl,(k1.a.jn 10 rfl).1,_,k1,h2.trans (j2.trans k2)⟩
 have HU:Hid (∀ w1,(∃ f1,MK x { m with st:=r } w1 f1 va/\Fr x w f va w1 f1 va)->Calls prog 50 #[.pointer (some ⟨x.g,0,none⟩),.int .i64 (Px.truth (decide (a≠b)))] w1 fun e w2=>e=.returned (.tuple #[])/\w2.cell? ⟨x.J 10,0,none⟩=some (.func (.func 64) #[] #[])/\Hid (PM x { m with st:=Px.truth (decide (a≠b))::r } w f va w2)):=fun w1 ⟨f1,h1,h2⟩=>by
  refine (xI hj { m with st:=r } w1 f1 va h1 (Px.truth (decide (a≠b))) (by show r.length<=_;omega)).mono ?_
  rintro e w2 ⟨rfl,v2,k1,k2⟩;exact ⟨rfl,(k1.a.jn 10 rfl).1,PM.mk' k1 (h2.trans k2)⟩
 have HJ:Hid (∀ W:fu,Calls prog 64 #[.int .i64 a,.int .i64 b] W fun e w'=>e=.returned (.int .i64 (Px.truth (decide (a≠b))))/\w'=W):=fun W=>zw9 a b W
 unfold iF;unfold gL at HB HP;clear h hb hc hk hst hs;generalize Px.truth (decide (a≠b))=EE at *;go_enter func101,ntmps101
 go_wp2_with fail;refine aA (HP.o _ (by first | exact ak rfl | exact ah rfl)) ?_
 rintro e w1 ⟨rfl,d1,H1⟩;go_wp2_with fail;go_region_held (fun w'=>w'.cell? ⟨x.J 10,0,none⟩=some (.func (.func 64) #[] #[])) (go_keep)
  (first | (go_at_call 53;refine aA (wL.o _ _ H1.o (by first | exact fO.refl _ _ | exact (fO.refl _ _).drew)) ?_;rintro e w2 ⟨rfl,d2,H2⟩) | (go_at_call 64;refine aA (HJ.o _) ?_;rintro e w3 ⟨rfl,rfl⟩) | (go_at_call 50;refine aA (HU.o _ H2.o) ?_;rintro e w4 ⟨rfl,d4,H4⟩))
 all_goals
  go_wp2_with fail;go_ret;exact gB.ok HD.o H4.o
theorem zwv (b:Addr)(w:fu):(binOp BinOp.eql 43 .nilIface (.iface 337 (.pointer (some b)))).run prog w=.ok (.bool false) w:=by kernel_rfl
theorem zt1 (b:Addr)(w:fu) :
  Calls prog 48 #[.nilIface,.iface 337 (.pointer (some b))] w fun e w'=>e=.returned (.bool false)/\w'=w:=by
 have hn:=zwv b;go_enter func48,ntmps48
 go_wp2;go_ret;exact ⟨rfl,rfl⟩
variable {w:fu}
theorem pW (h:Ge x w)(e i:Nat)(he:e<=4)(hi:1<=i/\i<=4) :
  Calls prog 48 #[gU x e,.iface 337 (.pointer (some (x.E i)))] w fun r w'=>r=.returned (.bool (decide (e=i)))/\w'=w:=by
 unfold gU;by_cases hz:e=0
 ·rw[if_pos hz,show decide (e=i)=false from decide_eq_false (by omega)]
  exact zt1 _ w
 ·rw[if_neg hz];by_cases Tm:e=i
  ·subst Tm;rw[show decide (e=e)=true from decide_eq_true rfl];exact XR _ w
  ·rw[show decide (e=i)=false from decide_eq_false Tm];obtain ⟨_,_,c1,t1,b1⟩:=h.b e (by omega) he
   obtain ⟨_,_,c2,t2,b2⟩:=h.b i hi.1 hi.2;exact zn1 _ _ c1 c2 t1 t2 w (h.ne e i (by omega) he hi.1 hi.2 Tm) b1 b2
def tZ (e:Nat)(m:Ms):Ms:=if e=4 then { m with fin:=3 } else if e=1 then { m with iZ:=true } else m
theorem zda (hj:iT x)(m:Ms)(w:fu)(f:Nat->fC)(va:fC)(h:MK x m w f va)(e:Nat)(he:1<=e/\e<=4) :
  Calls prog 137 #[.pointer (some ⟨x.g,0,none⟩),gU x e] w fun r w'=>r=.returned (.bool (decide (e≠2)))/\PM x (tZ e m) w f va w':=by
 have v1:=h.e.v1;have v2:=h.e.v2;have v4:=h.e.v4;have H:Hid (MK x m w f va):=h;have hG:17<=x.g:=aP h.e.lo h.a.hB;clear h;have hc:e=1\/e=2\/e=3\/e=4:=by omega
 rcases hc with rfl | rfl | rfl | rfl
 ·have Gb:=H.o.a.blk.cell 88 (by decide)
  have cf:=H.o.a.blk.fr 88;have HK:Hid (MK x { m with iZ:=true } (w.setCell ⟨x.g,88,none⟩ (.bool true)) (upd f 88 (.bool true)) va/\Fr x w f va (w.setCell ⟨x.g,88,none⟩ (.bool true)) (upd f 88 (.bool true)) va):=H.o.Y5 hj true
  have w2:=HK.o.1.e.v2;go_enter func137,ntmps137
  go_wp2_with fail;refine (pW H.o.e 1 4 (by omega) (by omega)).mono ?_
  rintro r w' ⟨rfl,rfl⟩;go_wp2_with fail;refine (pW H.o.e 1 1 (by omega) (by omega)).mono ?_
  rintro r w' ⟨rfl,rfl⟩;go_wp2_with fail;refine (pW HK.o.1.e 1 2 (by omega) (by omega)).mono ?_
  rintro r w' ⟨rfl,rfl⟩;go_wp2_with fail;go_ret;exact ⟨rfl,PM.mk' HK.o.1 HK.o.2⟩
 ·go_enter func137,ntmps137
  go_wp2_with fail;refine (pW H.o.e 2 4 (by omega) (by omega)).mono ?_
  rintro r w' ⟨rfl,rfl⟩;go_wp2_with fail;refine (pW H.o.e 2 1 (by omega) (by omega)).mono ?_
  rintro r w' ⟨rfl,rfl⟩;go_wp2_with fail;refine (pW H.o.e 2 2 (by omega) (by omega)).mono ?_
  rintro r w' ⟨rfl,rfl⟩;go_wp2_with fail;go_ret;exact ⟨rfl,PM.mk' H.o (Fr.refl _ _ _ _)⟩
 ·go_enter func137,ntmps137
  go_wp2_with fail;refine (pW H.o.e 3 4 (by omega) (by omega)).mono ?_
  rintro r w' ⟨rfl,rfl⟩;go_wp2_with fail;refine (pW H.o.e 3 1 (by omega) (by omega)).mono ?_
  rintro r w' ⟨rfl,rfl⟩;go_wp2_with fail;refine (pW H.o.e 3 2 (by omega) (by omega)).mono ?_
  rintro r w' ⟨rfl,rfl⟩;go_wp2_with fail;go_ret;exact ⟨rfl,PM.mk' H.o (Fr.refl _ _ _ _)⟩
 ·have Em:=H.o.a.blk.cell 89 (by decide)
  have cf:=H.o.a.blk.fr 89;have HK:Hid (MK x { m with fin:=3 } (w.setCell ⟨x.g,89,none⟩ (.int .i64 3)) (upd f 89 (.int .i64 3)) va/\Fr x w f va (w.setCell ⟨x.g,89,none⟩ (.int .i64 3)) (upd f 89 (.int .i64 3)) va):=H.o.SE hj 3
  have w2:=HK.o.1.e.v2;go_enter func137,ntmps137
  go_wp2_with fail;refine (pW H.o.e 4 4 (by omega) (by omega)).mono ?_
  rintro r w' ⟨rfl,rfl⟩;go_wp2_with fail;refine (pW HK.o.1.e 4 2 (by omega) (by omega)).mono ?_
  rintro r w' ⟨rfl,rfl⟩;go_wp2_with fail;go_ret;exact ⟨rfl,PM.mk' HK.o.1 HK.o.2⟩
variable {m:Ms}
theorem Tn {P:Pg}(h:sK m=(.agg #[.int .i64 0,.int .i64 0],false)):kU P m=kU.behind m:=by
 unfold kU;unfold sK at h;cases hu:m.fU with
 | nil=>rfl
 | cons u r =>
  rw[hu] at h;simp only at h |-;split at h
  ·rename_i he;rw[if_pos he]
  ·exact absurd (congrArg Prod.snd h) (by show ¬ true=false;decide)
theorem Tp (m:Ms):(kU.behind m).1=0:=by
 unfold kU.behind;split<;>rfl
theorem Tq (m:Ms):sK m=(.agg #[.int .i64 0,.int .i64 0],false)\/∃ u r,m.fU=u::r/\¬ m.fU.length=pG m/\sK m=(.agg #[.int .i64 (u.1:Int),.int .i64 u.2],true):=by
 unfold sK;cases hu:m.fU with
 | nil=>exact ak rfl
 | cons u r =>
  simp only;by_cases he:(u::r).length=pG m
  ·rw[if_pos he];exact ak rfl
  ·rw[if_neg he];exact ah ⟨u,r,rfl,he,rfl⟩
theorem qu0 (hj:iT x)(jy:xL x)(m:Ms)(w:fu)(f:Nat->fC)(va:fC)(h:MK x m w f va)(hl:m.st.length<=10000000)(hb:m.fP.length<=10000000)(hu:m.fU.length<=10000000)(hfl:pG m<=m.fU.length)(hh:∀ b r,m.fP=b::r->b.2.1<=m.st.length)(pV:∀ u∈m.fU,nA u.2/\u.1 < x.P.fT.length)(hrl:∀ v∈m.left,nA v)(ht:m.fJ < 65536)(ha:m.fI.length<=10000000)(AZ:x.P.fT.length<=10000000) :
  Calls prog 167 #[.pointer (some ⟨x.g,0,none⟩)] w fun e w'=>e=.returned (gU x (kU x.P m).1)/\PM x (kU x.P m).2 w f va w':=by
 have HN:Hid (Calls prog 183 #[.pointer (some ⟨x.g,1,none⟩)] w fun e w'=>e=.returned (.tuple #[(sK m).1,.bool (sK m).2])/\fO (fun _=>False) w w'):=zmt hj m w f va h hb hu hfl
 have HH:Hid (MK x m w f va):=h;clear h;rcases Tq m with hn | ⟨u,r,hur,hne,hn⟩
 ·rw[hn] at HN;rw[Tn hn,Tp];have HG:Hid (∀ w1,fO (fun _=>False) w w1->Calls prog 184 #[.pointer (some ⟨x.g,0,none⟩)] w1 fun e w'=>e=.returned (.tuple #[])/\Hid (PM x (kU.behind m).2 w f va w')):=fun w1 hT=>by
   obtain ⟨j1,j2⟩:=HH.o.same hj hT;refine (qwc hj m w1 f va j1 hl hb hh).mono ?_;rintro e w2 ⟨rfl,f2,iR,k1,k2⟩;exact ⟨rfl,PM.mk' k1 (j2.trans k2)⟩
  clear hn jy hl hb hu hfl hh pV hrl ht ha AZ HH;go_enter func167,ntmps167
  go_wp2_with fail;refine aA HN.o ?_;rintro e w1 ⟨rfl,hT⟩;have HT:Hid (fO (fun _=>False) w w1):=hT
  clear hT;go_wp2_with fail;refine aA (HG.o _ (HT.o.alloc _)) ?_;rintro e w2 ⟨rfl,H2⟩;go_wp2_with fail;go_ret;exact ⟨rfl,H2.o⟩
 ·rw[hn] at HN;obtain ⟨hr2,hw2⟩:=pV u (by rw[hur];exact dK)
  cases hq:iU x.P u.1 u.2 3 true m with
  | mk ea q =>
   obtain ⟨va',ma⟩:=q;obtain ⟨a,l,t,hma,_,_,_,hz0,hea⟩:=BP hq;have hmu:ma.fU=u::r:=by rw[hma];exact hur
   have HU:Hid (kU x.P m=if ea=0 then (0,{ ma with fU:=r }) else if ea=1 then (4,ma) else (ea,ma)):=by
    unfold Hid kU;simp only[hur];rw[if_neg (by rw[<- hur];exact hne),hq]
    match ea with
    | 0=>rfl
    | 1=>rfl
    | n+2=>rw[if_neg (by omega),if_neg (by omega)];rfl
   have HA:Hid (∀ w1,fO (fun _=>False) w w1->Calls prog 102 #[.pointer (some ⟨x.g,0,none⟩),.int .i64 (u.1:Int),.int .i64 u.2,.int .i64 3,.bool true] w1 fun e w2=>e=.returned (.tuple #[.int .i64 va',gU x ea])/\w2.cell? ⟨10,0,none⟩=some (.iface 337 (.pointer (some (x.E 1))))/\w2.cell? ⟨14,0,none⟩=some (.iface 337 (.pointer (some (x.E 4))))/\Hid (∃ f2 iR,MK x ma w2 f2 iR/\Fr x w f va w2 f2 iR)):=fun w1 hT=>by
    obtain ⟨j1,j2⟩:=HH.o.same hj hT;refine aA (jy m w1 f va j1 u.1 u.2 3 true hw2 hr2 hrl ht (by decide) ha AZ) ?_
    rintro e w2 ⟨rfl,f2,iR,k1,k2⟩;rw[hq] at k1 |-;exact ⟨rfl,k1.e.v1,k1.e.v4,f2,iR,k1,j2.trans k2⟩
   have hrl':r.length<=10000000:=by rw[hur,aC] at hu;omega
   clear hn jy hl hb hu hfl hh pV hrl ht ha AZ HH hq hne hr2 hw2 hma;by_cases h0:ea=0
   ·rw[HU.o,if_pos h0];subst h0;go_enter func167,ntmps167
    go_wp2_with fail;refine aA HN.o ?_;rintro e w1 ⟨rfl,hT⟩;have HT:Hid (fO (fun _=>False) w w1):=hT
    clear hT;go_wp2_with fail;refine aA (HA.o _ (HT.o.alloc _)) ?_;rintro e w2 ⟨rfl,g1,g4,H2⟩;go_wp2_with fail;refine (pW H2.o.choose_spec.choose_spec.1.e 0 1 (by omega) (by omega)).mono ?_
    rintro e w3 ⟨rfl,rfl⟩;simp only[gU,if_true];obtain ⟨f2,iR,H3⟩:∃ f2 iR,Hid (MK x ma w3 f2 iR/\Fr x w f va w3 f2 iR):=H2.o;clear H2;go_wp2_with fail;refine (qxa hj ma w3 f2 iR H3.o.1 u r hmu hrl').mono ?_;rintro e w4 ⟨rfl,f4,Nx,k1,k2⟩;have H4:Hid (PM x { ma with fU:=r } w f va w4):=PM.mk' k1 (H3.o.2.trans k2)
    clear k1 k2;go_wp2_with fail;go_ret;exact ⟨rfl,H4.o⟩
   ·by_cases h1:ea=1
    ·rw[HU.o,if_neg h0,if_pos h1];subst h1;go_enter func167,ntmps167
     go_wp2_with fail;refine aA HN.o ?_;rintro e w1 ⟨rfl,hT⟩;have HT:Hid (fO (fun _=>False) w w1):=hT
     clear hT;go_wp2_with fail;refine aA (HA.o _ (HT.o.alloc _)) ?_;rintro e w2 ⟨rfl,g1,g4,H2⟩;go_wp2_with fail;refine (pW H2.o.choose_spec.choose_spec.1.e 1 1 (by omega) (by omega)).mono ?_
     rintro e w3 ⟨rfl,rfl⟩;go_wp2_with fail;go_ret;obtain ⟨f2,iR,k1,k2⟩:=H2.o;exact ⟨rfl,PM.mk' k1 k2⟩
    ·rw[HU.o,if_neg h0,if_neg h1];go_enter func167,ntmps167
     go_wp2_with fail;refine aA HN.o ?_;rintro e w1 ⟨rfl,hT⟩;have HT:Hid (fO (fun _=>False) w w1):=hT
     clear hT;go_wp2_with fail;refine aA (HA.o _ (HT.o.alloc _)) ?_;rintro e w2 ⟨rfl,g1,g4,H2⟩;go_wp2_with fail;refine (pW H2.o.choose_spec.choose_spec.1.e ea 1 (by omega) (by omega)).mono ?_
     rintro e w3 ⟨rfl,rfl⟩;simp only[gU,if_neg h0,decide_eq_false h1];go_wp2_with fail;go_ret;obtain ⟨f2,iR,k1,k2⟩:=H2.o;exact ⟨by simp only[gU,if_neg h0];rfl,PM.mk' k1 k2⟩
def uY (x:Cx)(i:Px.Ins):Array fC:=if sS i.k then #[.pointer (some ⟨x.g,0,none⟩),iF i,.pointer (some ⟨x.J i.k,0,none⟩)] else #[.pointer (some ⟨x.g,0,none⟩),iF i]
theorem Qb (hj:iT x)(jy:xL x)(m:Ms)(w:fu)(f:Nat->fC)(va:fC)(h:MK x m w f va)(i:Px.Ins)(hb:Bd x.P m)(hc:jX x.P i m) :
  Calls prog (nT i.k) (uY x i) w (gB x i m w f va):=by
 have hk:=hc.k;unfold uY;match hik:i.k,hk with
 | 0,_=>exact do0 hj m w f va h i hb hik
 | 1,_=>exact do1 hj m w f va h i hb hc hik
 | 2,_=>exact do2 hj m w f va h i hb hc hik
 | 3,_=>exact do3 hj m w f va h i hb hc hik
 | 4,_=>exact do4 hj m w f va h i hb hc hik
 | 5,_=>exact do5 hj m w f va h i hb hc hik
 | 6,_=>exact do6 hj m w f va h i hb hc hik
 | 7,_=>exact do7 hj m w f va h i hb hc hik
 | 8,_=>exact do8 hj m w f va h i hb hc hik
 | 9,_=>exact do9 hj m w f va h i hb hc hik
 | 10,_=>exact Tj hj m w f va h i hb hc hik
 | 11,_=>exact Ti hj m w f va h i hb hc hik
 | 12,_=>exact SY hj m w f va h i hb hc hik
 | 13,_=>exact S9 hj m w f va h i hb hc hik
 | 14,_=>exact Ta hj m w f va h i hb hc hik
 | 15,_=>exact Tc hj m w f va h i hb hc hik
 | 16,_=>exact Td hj m w f va h i hb hc hik
 | 17,_=>exact Te hj m w f va h i hb hc hik
 | 18,_=>exact Tf hj jy m w f va h i hb hc hik
 | 19,_=>exact Tg hj m w f va h i hb hc hik
 | n+20,hk=>exact absurd hk (by omega)
theorem Tt (args:Array fC)(w:fu):(callFunc 49 args).run prog w=.ok (.enter 49 args) w:=by kernel_rfl
theorem Tv (args:Array fC)(w:fu):(callFunc 51 args).run prog w=.ok (.enter 51 args) w:=by kernel_rfl
theorem Tw (args:Array fC)(w:fu):(callFunc 52 args).run prog w=.ok (.enter 52 args) w:=by kernel_rfl
theorem Tx (args:Array fC)(w:fu):(callFunc 54 args).run prog w=.ok (.enter 54 args) w:=by kernel_rfl
theorem Tz (args:Array fC)(w:fu):(callFunc 59 args).run prog w=.ok (.enter 59 args) w:=by kernel_rfl
theorem J9 (args:Array fC)(w:fu):(callFunc 65 args).run prog w=.ok (.enter 65 args) w:=by kernel_rfl
theorem Ka (args:Array fC)(w:fu):(callFunc 66 args).run prog w=.ok (.enter 66 args) w:=by kernel_rfl
theorem Kc (args:Array fC)(w:fu):(callFunc 67 args).run prog w=.ok (.enter 67 args) w:=by kernel_rfl
theorem Ke (args:Array fC)(w:fu):(callFunc 69 args).run prog w=.ok (.enter 69 args) w:=by kernel_rfl
theorem Kg (args:Array fC)(w:fu):(callFunc 71 args).run prog w=.ok (.enter 71 args) w:=by kernel_rfl
theorem Kh (args:Array fC)(w:fu):(callFunc 74 args).run prog w=.ok (.enter 74 args) w:=by kernel_rfl
theorem Ki (args:Array fC)(w:fu):(callFunc 76 args).run prog w=.ok (.enter 76 args) w:=by kernel_rfl
theorem Kj (args:Array fC)(w:fu):(callFunc 77 args).run prog w=.ok (.enter 77 args) w:=by kernel_rfl
theorem Kk (args:Array fC)(w:fu):(callFunc 79 args).run prog w=.ok (.enter 79 args) w:=by kernel_rfl
theorem zdj (k:Nat)(hk:k < 20)(hp:sS k=false)(args:Array fC)(w:fu):(callFunc (nT k) args).run prog w=.ok (.enter (nT k) args) w:=by
 match k,hk,hp with
 | 0,_,_=>exact Tt args w
 | 1,_,_=>exact Tv args w
 | 2,_,_=>exact Tw args w
 | 3,_,_=>exact Tx args w
 | 4,_,hp=>cases hp
 | 5,_,hp=>cases hp
 | 6,_,hp=>cases hp
 | 7,_,_=>exact Tz args w
 | 8,_,hp=>cases hp
 | 9,_,hp=>cases hp
 | 10,_,hp=>cases hp
 | 11,_,_=>exact J9 args w
 | 12,_,_=>exact Ka args w
 | 13,_,_=>exact Kc args w
 | 14,_,_=>exact Ke args w
 | 15,_,_=>exact Kg args w
 | 16,_,_=>exact Kh args w
 | 17,_,_=>exact Ki args w
 | 18,_,_=>exact Kj args w
 | 19,_,_=>exact Kk args w
 | n+20,hk,_=>exact absurd hk (by omega)
theorem zo8 (n0 n1 n2:Nat)(w:fu)(h1:w.cell? ⟨n1,0,none⟩=some .nilIface) :
  CallsD prog 166 #[.pointer (some ⟨n1,0,none⟩),.pointer (some ⟨n2,0,none⟩),.pointer (some ⟨n0,0,none⟩)] .returning w fun e u' w'=>u'=.returning/\(e=.returned (.tuple #[])/\w'=w):=by
 go_enter_d func166,ntmps166
 go_wp2;go_end0
 exact ⟨rfl,rfl⟩
theorem zo9 (n0 n1 n2 g p:Nat)(t:TypeId)(v u:fC)(w:fu)(h1:w.cell? ⟨n1,0,none⟩=some (.iface t v))(h0:w.cell? ⟨n0,0,none⟩=some (.pointer (some ⟨g,0,none⟩)))(h2:w.cell? ⟨n2,0,none⟩=some (.int .i64 (p:Int)))(h3:w.cell? ⟨g,86,none⟩=some u)(h4:w.frozen? ⟨g,86,none⟩=false) :
  CallsD prog 166 #[.pointer (some ⟨n1,0,none⟩),.pointer (some ⟨n2,0,none⟩),.pointer (some ⟨n0,0,none⟩)] .returning w fun e u' w'=>u'=.returning/\(e=.returned (.tuple #[])/\w'=w.setCell ⟨g,86,none⟩ (.int .i64 (p:Int))):=by
 go_enter_d func166,ntmps166
 go_wp2;go_end0
 exact ⟨rfl,rfl⟩
def stepW (x:Cx)(p:Nat)(w:fu):fu:=((w.alloc (.cells #[.pointer (some ⟨x.g,0,none⟩)] 119)).alloc (.cells #[.nilIface] 43)).alloc (.cells #[.int .i64 (p:Int)] 3)
structure kQ (x:Cx)(p n:Nat)(w:fu)(er:fC):Prop where
 c0:w.cell? ⟨n,0,none⟩=some (.pointer (some ⟨x.g,0,none⟩))
 c1:w.cell? ⟨n+1,0,none⟩=some er
 c2:w.cell? ⟨n+2,0,none⟩=some (.int .i64 (p:Int))
 fr:w.frozen? ⟨n+1,0,none⟩=false
theorem Km (x:Cx)(p:Nat)(w:fu):fO (fun _=>False) w (stepW x p w)/\(stepW x p w).heap.size=w.heap.size+3/\kQ x p w.heap.size (stepW x p w) .nilIface:=by
 refine ⟨(((fO.refl _ _).alloc _).alloc _).alloc _,by show (((w.heap.push _).push _).push _).size=_;simp,?_⟩
 have h0:(stepW x p w).heap[w.heap.size]?=some (.cells #[.pointer (some ⟨x.g,0,none⟩)] 119):=by
  show (((w.heap.push _).push _).push _)[w.heap.size]?=_
  rw[aB,if_neg (by simp;omega),aB,if_neg (by simp),aB,if_pos rfl]
 have h1:(stepW x p w).heap[w.heap.size+1]?=some (.cells #[.nilIface] 43):=by
  show (((w.heap.push _).push _).push _)[w.heap.size+1]?=_
  rw[aB,if_neg (by simp),aB,if_pos (by simp)]
 have h2:(stepW x p w).heap[w.heap.size+2]?=some (.cells #[.int .i64 (p:Int)] 3):=by
  show (((w.heap.push _).push _).push _)[w.heap.size+2]?=_
  rw[aB,if_pos (by simp)]
 exact ⟨by simp[World.cell?,h0],by simp[World.cell?,h1],by simp[World.cell?,h2],by simp[World.frozen?,h1]⟩
variable {p:Nat}{f:Nat->fC}{va:fC}
theorem kQ.fr' {W w2:fu}{f2:Nat->fC}{iR er:fC}(h0:AX x m w f va)(hs:kQ x p w.heap.size W er)(hF:Fr x W f va w2 f2 iR):kQ x p w.heap.size w2 er:=by
 have hb:w2.heap[w.heap.size+1]?=W.heap[w.heap.size+1]?:=hF.t.block _ (lt_of_cell hs.c1) (fun hk=>by have:=Own.lt h0 hk;omega)
 exact ⟨Fr.loc h0 (by omega) hF hs.c0,Fr.loc h0 (by omega) hF hs.c1,Fr.loc h0 (by omega) hF hs.c2,(bQ (w:=W) (a:=⟨w.heap.size+1,0,none⟩) hb).trans hs.fr⟩
theorem step_end (hj:iT x){m1:Ms}{w0 w1:fu}{f1:Nat->fC}{iI:fC}{e:Nat}(h:MK x m w f va)(hT0:fO (fun _=>False) w w0)(hn:w0.heap.size=w.heap.size+3)(h1:MK x m1 w1 f1 iI)(hF:Fr x w0 f va w1 f1 iI)(hs:kQ x p w.heap.size w1 .nilIface) :
  CallsD prog 166 #[.pointer (some ⟨w.heap.size+1,0,none⟩),.pointer (some ⟨w.heap.size+2,0,none⟩),.pointer (some ⟨w.heap.size,0,none⟩)] .returning (w1.setCell ⟨w.heap.size+1,0,none⟩ (gU x e)) fun e' u' w'=>u'=.returning/\e'=.returned (.tuple #[])/\w'.cell? ⟨w.heap.size+1,0,none⟩=some (gU x e)/\PM x (if e=0 then m1 else { m1 with fE:=p }) w f va w':=by
 obtain ⟨k1,k2⟩:=h.local hj hT0 h1 hF (T:=fun k=>k=w.heap.size+1) (fO.setCell (T:=fun k=>k=w.heap.size+1) (fO.refl _ _) (p:=⟨w.heap.size+1,0,none⟩) (ak rfl) (gU x e)) (fun k hk=>by omega)
 have hlt:=h.a.lt;have c0:(w1.setCell ⟨w.heap.size+1,0,none⟩ (gU x e)).cell? ⟨w.heap.size,0,none⟩=some (.pointer (some ⟨x.g,0,none⟩)):=by rw[uy (fun e=>by have:=congrArg Addr.block e;simp at this)];exact hs.c0
 have c1:(w1.setCell ⟨w.heap.size+1,0,none⟩ (gU x e)).cell? ⟨w.heap.size+1,0,none⟩=some (gU x e):=ND hs.c1;have c2:(w1.setCell ⟨w.heap.size+1,0,none⟩ (gU x e)).cell? ⟨w.heap.size+2,0,none⟩=some (.int .i64 (p:Int)):=by rw[uy (fun e=>by have:=congrArg Addr.block e;simp at this)];exact hs.c2
 by_cases he:e=0
 ·subst he;refine (zo8 w.heap.size _ (w.heap.size+2) _ c1).mono ?_;rintro e' u' w' ⟨rfl,rfl,rfl⟩;exact ⟨rfl,rfl,c1,PM.mk' k1 k2⟩
 ·rw[if_neg he];have hev:gU x e=.iface 337 (.pointer (some (x.E e))):=if_neg he;refine (zo9 w.heap.size _ (w.heap.size+2) x.g p _ _ _ _ (by rw[<- hev];exact c1) c0 c2 (k1.a.blk.cell 86 (by decide)) (k1.a.blk.fr 86)).mono ?_
  rintro e' u' w' ⟨rfl,rfl,rfl⟩;refine ⟨rfl,rfl,?_,PM.fE hj (PM.mk' k1 k2) p⟩;rw[uy (fun e=>by have:=congrArg Addr.block e;simp only at this;omega)]
  exact c1
def wM (x:Cx)(m:Ms)(w:fu)(f:Nat->fC)(va:fC)(e:Ending)(w':fu):Prop:=e=.returned (gU x (jE x.P m).1)/\PM x (jE x.P m).2 w f va w'
theorem Ot (hj:iT x)(m:Ms)(w:fu)(f:Nat->fC)(va:fC)(h:MK x m w f va)(hu:m.iZ=true)(hP:(kU x.P m).1≠0->(kU x.P m).2.fE=m.fE)(HU:∀ W,MK x m W f va->Calls prog 167 #[.pointer (some ⟨x.g,0,none⟩)] W fun e w'=>e=.returned (gU x (kU x.P m).1)/\PM x (kU x.P m).2 W f va w') :
  Calls prog 136 #[.pointer (some ⟨x.g,0,none⟩)] w (wM x m w f va):=by
 have DI:∀ (fn:Fn) (first cap:Array fC) (w:fu),(Instr.makeFunc fn first cap).run prog w=.ok (.func fn first cap) w:=fun _ _ _ _=>rfl
 have uX:=h.a.blk.cell 86 (by decide)
 have Gb:=h.a.blk.cell 88 (by decide)
 rw[h.a.f86] at uX;rw[h.a.f88,hu] at Gb;have hgz:=h.a.lt;have es:jE x.P m=kU x.P m:=by unfold jE;rw[if_pos hu]
 obtain ⟨hT,hn,hs⟩:=Km x m.fE w;have HX:Hid (Calls prog 167 #[.pointer (some ⟨x.g,0,none⟩)] (stepW x m.fE w) fun e w1=>e=.returned (gU x (kU x.P m).1)/\w1.cell? ⟨w.heap.size+1,0,none⟩=some .nilIface/\w1.frozen? ⟨w.heap.size+1,0,none⟩=false/\Hid (∃ f1 iI,MK x (kU x.P m).2 w1 f1 iI/\Fr x (stepW x m.fE w) f va w1 f1 iI/\kQ x m.fE w.heap.size w1 .nilIface)):=by
  obtain ⟨j1,j2⟩:=h.same hj hT;refine (HU _ j1).mono ?_;rintro e w1 ⟨rfl,f1,iI,k1,k2⟩
  have:=hs.fr' h.a k2
  exact ⟨rfl,this.c1,this.fr,f1,iI,k1,k2,this⟩
 have HH:Hid (MK x m w f va/\fO (fun _=>False) w (stepW x m.fE w)/\(stepW x m.fE w).heap.size=w.heap.size+3):=⟨h,hT,hn⟩
 have vO:=(h.same hj hT).1.a.blk.cell 88 (by decide)
 rw[h.a.f88,hu] at vO;unfold stepW at HX vO;clear h hT hn hs HU;obtain ⟨E,hE⟩:∃ E,(kU x.P m).1=E:=⟨_,rfl⟩;obtain ⟨M,hM⟩:∃ M,(kU x.P m).2=M:=⟨_,rfl⟩;rw[hE,hM] at HX;rw[hE,hM] at hP;go_enter_defers func136,ntmps136
 go_wp2_with fail;refine aA HX.o ?_;rintro e w1 ⟨rfl,d1,df,H1⟩;have HE:Hid (∀ w',PM x (if E=0 then M else { M with fE:=m.fE }) w f va w'->wM x m w f va (.returned (gU x E)) w'):=by
  intro w' hp;unfold wM;rw[es];refine ⟨by rw[hE],?_⟩
  rw[hM];by_cases h0:E=0
  ·rw[if_pos h0] at hp;exact hp
  ·rw[if_neg h0,<- hP h0] at hp;exact hp
 by_cases h0:E=0
 ·have hev:gU x E=.nilIface:=if_pos h0;rw[hev] at HE |-;go_wp2_with fail;refine leaves_cons (f:=166) (args:=#[.pointer (some ⟨w.heap.size+1,0,none⟩),.pointer (some ⟨w.heap.size+1+1,0,none⟩),.pointer (some ⟨w.heap.size,0,none⟩)]) (by simp) (by simp[go_sem]) ?_
  obtain ⟨f1,iI,k1,k2,k3⟩:=H1.o;have Q:=step_end (e:=E) hj HH.o.1 HH.o.2.1 HH.o.2.2 k1 k2 k3;rw[hev] at Q;refine Q.mono ?_;clear Q;rintro e' u' w' ⟨rfl,rfl,hc,hp⟩;simp[Leaves,settle,results,results136,go_sem,hc];exact HE.o _ hp
 ·have hev:gU x E=.iface 337 (.pointer (some (x.E E))):=if_neg h0;rw[hev] at HE |-;go_wp2_with fail;refine leaves_cons (f:=166) (args:=#[.pointer (some ⟨w.heap.size+1,0,none⟩),.pointer (some ⟨w.heap.size+1+1,0,none⟩),.pointer (some ⟨w.heap.size,0,none⟩)]) (by simp) (by simp[go_sem]) ?_
  obtain ⟨f1,iI,k1,k2,k3⟩:=H1.o;have Q:=step_end (e:=E) hj HH.o.1 HH.o.2.1 HH.o.2.2 k1 k2 k3;rw[hev] at Q;refine Q.mono ?_;clear Q;rintro e' u' w' ⟨rfl,rfl,hc,hp⟩;simp[Leaves,settle,results,results136,go_sem,hc];exact HE.o _ hp
theorem AY.read (h:AY x w):∃ a c,w.cell? ⟨x.pp,3,none⟩=some (.slice a x.P.ins.length c)/\∀ p i,x.P.ins[p]?=some i->∃ q,a=some ⟨q,0,none⟩/\w.cell? ⟨q,p * 3,none⟩=some (.int .i64 (i.k:Int))/\w.cell? ⟨q,p * 3+1,none⟩=some (.int .i64 (i.a:Int))/\w.cell? ⟨q,p * 3+2,none⟩=some (.int .i64 (i.b:Int)):=by
 obtain ⟨vl,vw,vn,lo,p1,p2,p3,p4,p5,p6,p7⟩:=h.ex;obtain ⟨a,n,c,rfl⟩:=jm p4;obtain rfl:=Ce p4;refine ⟨a,c,by simp[World.cell?,p1],fun p i hi=>?_⟩
 obtain ⟨hp,hpi⟩:=aU.1 hi;obtain ⟨q,c',e⟩:=JW p4 (by omega)
 cases e;refine ⟨q,rfl,?_⟩;have key:∀ (l:List Px.Ins) (p:Nat) (hp:p < l.length) (o:Nat),o < 3->(qO l)[p * 3+o]?=([.int .i64 (l[p].k:Int),.int .i64 (l[p].a:Int),.int .i64 (l[p].b:Int)]:List fC)[o]?:=by
  intro l;induction l with
  | nil=>intro p hp;simp at hp
  | cons v l ih =>
   intro p hp o ho;have e1:qO (v::l)=[.int .i64 (v.k:Int),.int .i64 (v.a:Int),.int .i64 (v.b:Int)]++qO l:=rfl;cases p with
   | zero =>
    rw[e1,Nat.zero_mul,bX,aQ (by simpa using ho)]
    rfl
   | succ p =>
    rw[e1,aJ (by simp;omega)]
    have:=ih p (by simpa using hp) o ho
    simp only[aC,aL,List.getElem_cons_succ];rw[<- this];congr 1;omega
 have k0:=key x.P.ins p hp 0 (by decide)
 have k1:=key x.P.ins p hp 1 (by decide)
 have k2:=key x.P.ins p hp 2 (by decide)
 rw[hpi] at k0 k1 k2;exact ⟨by rw[p4.cellAt _ (by omega)];exact k0,by rw[p4.cellAt _ (by omega)];exact k1,by rw[p4.cellAt _ (by omega)];exact k2⟩
theorem ze9 (hj:iT x)(m:Ms)(w:fu)(f:Nat->fC)(va:fC)(h:MK x m w f va)(hu:m.iZ=false)(hp:m.fE=x.P.ins.length)(_hl:x.P.ins.length<=10000000) :
  Calls prog 136 #[.pointer (some ⟨x.g,0,none⟩)] w (wM x m w f va):=by
 have DI:∀ (fn:Fn) (first cap:Array fC) (w:fu),(Instr.makeFunc fn first cap).run prog w=.ok (.func fn first cap) w:=fun _ _ _ _=>rfl
 have uX:=h.a.blk.cell 86 (by decide)
 rw[h.a.f86] at uX;have hgz:=h.a.lt;have es:jE x.P m=(0,{ m with fin:=1 }):=by unfold jE;rw[hu];simp only[hp];simp
 obtain ⟨hT,hn,hs⟩:=Km x m.fE w;obtain ⟨j1,j2⟩:=h.same hj hT;have vO:=j1.a.blk.cell 88 (by decide)
 rw[h.a.f88,hu] at vO;have Ep:=j1.a.blk.cell 86 (by decide)
 rw[h.a.f86] at Ep;have hq:((m.fE:Int) == (x.P.ins.length:Int))=true:=by rw[hp];simp
 have e4:=j1.a.blk.cell 4 (by decide)
 rw[h.a.f4] at e4;obtain ⟨a,c,ep,_⟩:=j1.p.read;have e89:=j1.a.blk.cell 89 (by decide)
 have f89:=j1.a.blk.fr 89;have e0:=hs.c0;have e1:=hs.c1;have NM:=hs.fr;have HX:Hid (∀ W,(W=stepW x m.fE w\/W=(stepW x m.fE w).drew)->∃ f1,MK x { m with fin:=1 } (W.setCell ⟨x.g,89,none⟩ (.int .i64 1)) f1 va/\Fr x (stepW x m.fE w) f va (W.setCell ⟨x.g,89,none⟩ (.int .i64 1)) f1 va/\kQ x m.fE w.heap.size (W.setCell ⟨x.g,89,none⟩ (.int .i64 1)) .nilIface):=by
  intro W hW;have hTW:fO (fun _=>False) (stepW x m.fE w) W:=by
   rcases hW with rfl | rfl
   ·exact fO.refl _ _
   ·exact (fO.refl _ _).drew
  obtain ⟨i1,i2⟩:=j1.same hj hTW;obtain ⟨k1,k2⟩:=i1.SE hj 1;exact ⟨_,k1,i2.trans k2,hs.fr' h.a (i2.trans k2)⟩
 have HH:Hid (MK x m w f va/\fO (fun _=>False) w (stepW x m.fE w)/\(stepW x m.fE w).heap.size=w.heap.size+3):=⟨h,hT,hn⟩
 have hW:stepW x m.fE w=((w.alloc (.cells #[.pointer (some ⟨x.g,0,none⟩)] 119)).alloc (.cells #[.nilIface] 43)).alloc (.cells #[.int .i64 (m.fE:Int)] 3):=rfl;rw[hW] at vO;have HE:Hid (∀ w',PM x { m with fin:=1 } w f va w'->wM x m w f va (.returned .nilIface) w'):=by
  intro w' hp;unfold wM;rw[es];exact ⟨rfl,hp⟩
 clear h hT hn hs j1 j2 hW hp es hu;go_enter_defers func136,ntmps136
 go_wp2_with fail
 change Code.wp _ _ _ _ (stepW x m.fE w)
 generalize stepW x m.fE w=W at *;clear vO uX;go_region
 all_goals
  go_wp2_with fail;refine leaves_cons (f:=166) (args:=#[.pointer (some ⟨w.heap.size+1,0,none⟩),.pointer (some ⟨w.heap.size+1+1,0,none⟩),.pointer (some ⟨w.heap.size,0,none⟩)]) (by simp) (by simp[go_sem]) ?_
  obtain ⟨f1,k1,k2,k3⟩:=HX.o W.drew (ah rfl);have Q:=step_end (e:=0) hj HH.o.1 HH.o.2.1 HH.o.2.2 k1 k2 k3;rw[show gU x 0=.nilIface from rfl] at Q;refine CallsD.mono Q ?_;clear Q;rintro e' u' w' ⟨rfl,rfl,hc,hp⟩;simp[Leaves,settle,results,results136,go_sem,hc];exact HE.o _ hp
