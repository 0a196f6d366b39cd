import Derived.Test.YtgkhgealpneodaaGreatDoorCards
import Derived.Test.YtgkhgealpneodaaGreatDoorTie
import Derived.Test.YtgkhgealpneodaaGreatDoorG39
import Derived.Test.YtgkhgealpneodaaGreatDoorG43
import Derived.Test.YtgkhgealpneodaaGreatDoorG19
import Derived.Test.YtgkhgealpneodaaGreatDoorG21
import Derived.Test.YtgkhgealpneodaaGreatDoorG22
import Derived.Test.YtgkhgealpneodaaGreatDoorG23
import Derived.Deep.DeepHandedRow
set_option maxRecDepth 100000
namespace Go.Proofs.YtgkhgealpneodaaGreatDoor
open Go.ChangeShapes Go.WideShapes Go.ChangeAt Go.RowKit
namespace LawGoes
open Gl Lg
open Law (Zv Zw)
open LawTorn (own OE sD nF)
theorem Ah(os:Os):laidMetH Tryz.prog Rows.goesRow.laid ((OE Tryz.prog os).forCall (fun _ _=>0) ⟨#[],#[.string ⟨#[]⟩,.int .i64 0,.slice none 0 0],[]⟩).memory:=laidMetH_of_parts (laidMet_of_run' 8 (by kernel_rfl) (by kernel_rfl)) (by kernel_rfl)
theorem reads(os:Os){H:Type}(enc:TypeId×dZ->H):∃places,DataW.whole enc Tryz.prog ((OE Tryz.prog os).forCall (fun _ _=>0) ⟨#[],#[.string ⟨#[]⟩,.int .i64 0,.slice none 0 0],[]⟩).memory Tryz.f3.params.toList Rows.goesSpec.vars false (#[.string ⟨#[]⟩,.int .i64 0,.slice none 0 0]:Array dZ).toList 8=some ([.lit (.string []),.lit (.int .i64 0),.nil],[],places):=⟨[],by kernel_rfl⟩
theorem yk1{H:Type}{enc:TypeId×dZ->H}{W:dY}{v:dZ}{d:DataW H}{p:List MemPlace}(h:DataW.Trod enc Tryz.prog W 0 (fun _=>true) true 22 v d p)(hz:∀elems spare,d=.slice elems spare->(elems.length+spare.length)*Tryz.prog.bytesOf 36<=reachBytes):∀a m cap,v=.slice a m cap->m<=reachBytes:=by
 rintro a0 len cap rfl;obtain⟨fuel,hf⟩:=h;obtain⟨hcs,hx⟩|⟨a,len',cap',m,n,D,Pl,hcs,hb,hl,hm,hmm,hx,hc⟩:=Deep.open_slice Tryz.underlying22 hf;·simp[Value.cells]at hcs;obtain⟨rfl,rfl,rfl⟩:=hcs;exact aQ _
 simp[Value.cells]at hcs;obtain⟨rfl,rfl,rfl⟩:=hcs;simp only[Prod.mk.injEq]at hx;have h1:=hz _ _ hx.1;rw[show Tryz.prog.bytesOf 36=56 by kernel_rfl]at h1;simp only[List.length_map,List.length_range]at h1;omega
theorem contract(H:Type)(enc:TypeId×dZ->H)(W:dY)(base:Nat)(args:Array dZ)(ds gs:List (DataW H))(before:List MemPlace)(hval:∀(j:Nat)t v,Tryz.f3.params[j]?=some t->args[j]?=some v->Value.okWide Tryz.prog W .any base t v)(hW:DataW.Whole enc Tryz.prog Tryz.f3.params.toList Rows.goesSpec.vars false W args.toList ds gs before)(hsz:(DataW.weightsEach Tryz.prog (Tryz.f3.params.toList++[]) (ds++gs)).all (·<=reachBytes)=true)(hL:laidMetH Tryz.prog Rows.goesRow.laid W)(hS:W.ShapedOpen Tryz.prog):Calls Tryz.prog 3 args W fun e W'=>∃v,e=.returned v/\Rows.goesSpec.post enc Tryz.prog Tryz.f3 false true false false W args v W':=by
 have hW':=hW;obtain⟨p,q,sC,hV,rfl,hfz,hnd⟩:=hW;have hA:DataW.TrodAll enc Tryz.prog W 0 (fun _=>true) true Tryz.f3.params.toList args.toList ds p:=sC;rw[Tryz.params3]at hA hval hsz;obtain⟨v0,v1,v2,d0,d1,d2,p0,p1,p2,rfl,rfl,rfl,h0,h1,h2⟩:=trodAll_three hA;obtain⟨rfl,rfl⟩:=trodVars_none hV;obtain⟨s0,rfl,rfl,rfl,wV⟩:=ChangeMaps.open_string Tryz.underlying9 (hval 0 9 v0 rfl rfl) h0;obtain⟨n,rfl,rfl,rfl,wn⟩:=open_int Tryz.underlying3 (hval 1 3 v1 rfl rfl) h1;obtain⟨m,ha,_⟩:=qok (hval 2 22 v2 rfl rfl) h2;have hm:m<=1000000000000000000:=by obtain⟨ad,cap,hv,_⟩:=ha;exact aK (yk1 h2 (fun elems spare e=>sized_slice hsz (j:=2) (t:=22) (e:=36) rfl (by rw[e];rfl) Tryz.underlying22) _ _ _ hv) (by decide)
 have hlt:∀x∈p2,x.block<W.heap.size:=fun x hx=>by have:=hW'.lt x (by simp[hx]);simpa using this
 have hL':laidMet Tryz.prog sD W/\handlesMet Tryz.prog [("errors.errorType",Rows.laid_errors_errorType)] W:=hL;obtain⟨E,F,hg⟩:=nF hS hL'.1 hL'.2;clear sC hval hL hL' hS hsz;refine(yij E F (fun l hl c m B=>qub c m B E l hl) s0 n m v2 W wV hm hg ha).mono fun e W'⟨he,hb⟩=>?_;subst he;refine⟨_,rfl,_,_,_,[],[]++([]++p2),[],hW',?_,?_,rfl,hb.frame _,fun h=>by cases h⟩;·exact trodAll_mk1 (shut_bool Tryz.underlying4 true)
 exact trodAll_mk3 (ChangeMaps.shut_string Tryz.underlying9 wV) (shut_int Tryz.underlying3 wn) (Below.trod (by kernel_rfl) (by kernel_rfl) (of_decide_eq_true (by kernel_rfl)) h2 hb hlt)
theorem lifted(os:Os)(started:os.Started)(H:Type)(enc:TypeId×dZ->H)(F:Stop.Interp):ReturnsInHanded {} Tryz.checked os 3 .any ((OpenSpec.ofChange Rows.goesSpec).preRow enc Tryz.prog Tryz.f3 Rows.goesRow.domain false Rows.goesRow.laid) (((OpenSpec.ofChange Rows.goesSpec).at F).post enc Tryz.prog Tryz.f3 false true false false):=by
 obtain⟨places,hx⟩:=reads os enc;refine returnsInHanded_of_row (C:=Tryz.checked) (s:=(OpenSpec.ofChange Rows.goesSpec)) own started (by kernel_rfl) Tryz.func3
  (witness_row_at (enc:=enc) (C:=Tryz.checked) false (OE Tryz.prog os) #[.string ⟨#[]⟩,.int .i64 0,.slice none 0 0] rfl (by kernel_rfl) (by kernel_rfl) (by kernel_rfl)
   (OpenSpec.preRow_of_cond 8 hx (by kernel_rfl) (fun k hk=>by cases hk) (by kernel_rfl) (Ah os))) ?_
 intro W base args ds gs before hval hW _ _ hsz hL hS _;exact contract H enc W base args ds gs before hval hW hsz hL hS
theorem closed:joinedFacts Tryz.pinned.checked.prog 3 Tryz.f3 (OpenSpec.ofChange Rows.goesSpec).bare Rows.goesRow=true:=by unfold joinedFacts;rw[Zv,Zw,qgh,Tq,Tt,Tv];kernel_rfl
theorem said:Rows.GoesSaid:=
 OpenClaim.holds_of_cond 3 Tryz.f3 rfl rfl rfl rfl rfl rfl rfl ⟨rfl,rfl,rfl,rfl,rfl⟩ rfl rfl rfl rfl rfl (by kernel_rfl) Tryz.func3 closed
  (of_decide_eq_true (by kernel_rfl)) (by unfold Func.isWrapper;first|(rw[aA (by decide +kernel)];kernel_rfl)|(rw[ah (by decide +kernel)];exact⟨rfl,rfl⟩))
  (fun os started H enc _ F=>by rw[OpenClaim.pre_eq_preRow];exact lifted os started H enc F)
theorem plain(f:FuncId)(fn:Func)(hf:Tryz.pinned.checked.prog.funcNamed "errand/errandlaw.Goes" = some f)(hfn:Tryz.pinned.checked.prog.funcs[f]?=some fn):true=Tryz.pinned.checked.prog.looks []/\∀(j:Nat)t,fn.params[j]?=some t->Tryz.pinned.checked.prog.wantsStandIn t=false:=by
 obtain rfl:f=3:=Option.some.inj ((show Tryz.prog.funcNamed "errand/errandlaw.Goes" = some 3 by kernel_rfl).symm.trans hf) |>.symm;obtain rfl:fn=Tryz.f3:=(Option.some.inj (Tryz.func3.symm.trans hfn)).symm;refine⟨by kernel_rfl,fun j t ht=>?_⟩;rw[Tryz.params3]at ht;obtain rfl|rfl|rfl:t=9\/t=3\/t=22:=by have:=Array.mem_of_getElem? ht;simp at this;omega
 ·exact(show Tryz.prog.wantsStandIn 9=false by kernel_rfl)
 ·exact(show Tryz.prog.wantsStandIn 3=false by kernel_rfl)
 exact(show Tryz.prog.wantsStandIn 22=false by kernel_rfl)
theorem card:Rows.GoesCardSaid:=Claim7.holds_tied_plain_at .later [] _ _ _ _ said (fun _ h=>by cases h) (by kernel_rfl) (fun _ h=>by cases h) goes_row_tie rfl ⟨rfl,rfl⟩ (by kernel_rfl) rfl plain (by kernel_rfl)
end LawGoes
theorem goes_holds:Rows.GoesCardSaid:=LawGoes.card
