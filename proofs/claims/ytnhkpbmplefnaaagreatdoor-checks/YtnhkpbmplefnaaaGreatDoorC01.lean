import Derived.Test.YtnhkpbmplefnaaaGreatDoorC00
import Derived.Test.YtnhkpbmplefnaaaGreatDoorP05
import Derived.Deep.QuietTactic
import Derived.BigQuiet
import Derived.Deep.DeepCutAuto
namespace Go.Proofs.YtnhkpbmplefnaaaGreatDoor
open Go.RowKit
namespace Ref
set_option maxRecDepth 100000 in
set_option maxHeartbeats 4000000 in
theorem stmt_if (b:Nat) (s:ByteArray) (n:Nat) (hst:StmtOk b s n (Px.stmt s n)) (hs3:s.size≤300) (st:Px.Ps) (w:World) (hD:DomS s (n+1) st) (p:PenAt w b s st.t (-1) st.nest st.deep) (h0:Px.onB s st.t ⟨#[108,101,116]⟩=false) (h1:Px.onB s st.t ⟨#[99,97,108,108]⟩=false) (ho:Px.onB s st.t ⟨#[105,102]⟩=true) :
  Calls Tryz.prog 68 #[.pointer (some ⟨b,0,none⟩)] w (StPost b s w (Px.ifS s (Px.stmt s n) (Px.nx s st))):=by
 have hs:s.size≤maxLen:=by unfold maxLen;omega
 have hb:=p.lt
 have HD:Hid (DomS s (n+1) st∧PenAt w b s st.t (-1) st.nest st.deep):=⟨hD,p⟩
 have hN0:=hD.n0
 have hN:st.nest+(s.size+1:Nat)≤1000000:=by have:=hD.n1;omega
 clear hD p
 go_enter Tryz.func68,Tryz.ntmps68
 go_wp2_with fail
 refine (got_no b s _ st.t st.nest st.deep _ (HD.out.2.alloc _) h0).mono ?_
 rintro e w' ⟨rfl,hw⟩
 rw[← hw]
 clear hw
 go_wp2_with fail
 refine (got_no b s _ st.t st.nest st.deep _ (HD.out.2.alloc _) h1).mono ?_
 rintro e w' ⟨rfl,hw⟩
 rw[← hw]
 clear hw
 go_wp2_with fail
 refine (got_yes b s _ st.t st.nest st.deep _ (HD.out.2.alloc _) HD.out.1.tk.le hs ho).mono ?_
 rintro e w1 ⟨rfl,p1,k1⟩
 have m1:Mk b s w w.heap.size (.ok (Px.zeroS,Px.nx s st)) st.nest w1:=Mk.start hb rfl k1 ⟨p1,Px.nx_tk HD.out.1.tk⟩
 have D1:Hid (DomS s (n+1) (Px.nx s st)):=HD.out.1.good (Px.good_on HD.out.1.tk ho)
 clear p1 k1
 obtain ⟨y,ve,a1,n1,c1,a2,n2,c2,hc,hcx⟩:=m1.cells
 obtain ⟨d0,d1,d2,d3,d4,d5,d6,d7,d8,d9,d10,df⟩:=cells11 hc
 have M2:Hid (Mk b s w w.heap.size (opS 105 (Px.nx s st)) st.nest (w1.setCell ⟨w.heap.size,0,none⟩ (.int .u8 105))):=m1.op 105 hb (Nat.le_refl _)
 clear hc hcx m1
 go_wp2_with fail
 refine (exprU b s _ _ M2.out.pen hs ?hn).mono ?_
 case hn =>
  intro st1 h1
  cases h1
  exact ⟨hN0,hN⟩
 rintro e w4 h4
 obtain ⟨q1,he⟩:∃ q1,e=.returned (.pointer (some ⟨q1,0,none⟩)):=by obtain ⟨_,q1,he,_⟩:=h4;exact ⟨q1,he⟩
 subst he
 have m5:=M2.out.expr hb (Nat.le_refl _) h4
 clear d0 d1 d2 d3 d4 d5 d6 d7 d8 d9 d10 df
 obtain ⟨y,ve,a1,n1,c1,a2,n2,c2,hc,hcx⟩:=M2.out.cells
 have hc3:=Kp.heap h4.1 hc (by omega)
 obtain ⟨d0,d1,d2,d3,d4,d5,d6,d7,d8,d9,d10,df⟩:=cells11 hc3
 have M3:Hid (_):=m5
 clear hc hcx hc3 m5 h4 M2
 go_wp2_with fail
 clear d0 d1 d2 d3 d4 d5 d6 d7 d8 d9 d10 df
 refine (blockU b s n _ hst (Px.stmt_goes s n) hs3 _ _ M3.out.pen ?hd).mono ?_
 case hd =>
  intro st1 h1
  cases hr:Px.exprOf s (Px.nx s st) with
  | error p=>simp[thenR,opS,exX,hr,Except.map] at h1
  | ok r =>
   obtain ⟨e2,st2⟩:=r
   simp[thenR,opS,exX,hr,Except.map] at h1
   rw[← h1]
   exact D1.out.good (Px.exprOf_goes s _ _ _ D1.out.tk hr)
 rintro e w5 h4
 obtain ⟨va,vn,vc,he⟩:∃ va vn vc,e=.returned (.slice va vn vc):=by obtain ⟨_,va,vn,vc,he,_⟩:=h4;exact ⟨va,vn,vc,he⟩
 subst he
 have m5:=M3.out.one (Px.stmt_goes s n) hb (Nat.le_refl _) h4
 obtain ⟨y,ve,a1,n1,c1,a2,n2,c2,hc,hcx⟩:=M3.out.cells
 have hc3:=Kp.heap h4.1 hc (by omega)
 obtain ⟨d0,d1,d2,d3,d4,d5,d6,d7,d8,d9,d10,df⟩:=cells11 hc3
 have M4:Hid (_):=m5
 clear hc hcx hc3 m5 h4
 clear M3
 go_wp2_with fail
 clear d0 d1 d2 d3 d4 d5 d6 d7 d8 d9 d10 df
 refine (gotU b s _ _ _ M4.out.pen hs).mono ?_
 rintro e w6 ⟨rfl,k6,p6⟩
 have M6:Hid (_):=M4.out.got hb (Nat.le_refl _) k6 p6
 clear k6 p6
 generalize hB:onR s ((thenR (thenR (opS 105 (Px.nx s st)) (exX s)) (oneX s (Px.stmt s n))).map Prod.snd) ⟨#[101,108,115,101]⟩=B
 have HB:Hid (onR s ((thenR (thenR (opS 105 (Px.nx s st)) (exX s)) (oneX s (Px.stmt s n))).map Prod.snd) ⟨#[101,108,115,101]⟩=B):=hB
 clear hB
 cases B
 ·go_wp2_with fail
  go_ret
  rw[if_eq,off_else HB.out]
  have h:=M6.out
  rw[off_got HB.out] at h
  exact h.post (Nat.le_refl _)
 ·go_wp2_with fail
  refine (blockU b s n _ hst (Px.stmt_goes s n) hs3 _ _ M6.out.pen ?hd).mono ?_
  case hd =>
   intro st1 h1
   obtain ⟨x0,st0,hr0,ho0,hg0⟩:=on_got HB.out
   rw[hg0] at h1
   cases h1
   have D2:DomS s (n+1) st0:=by
    cases hr:Px.exprOf s (Px.nx s st) with
    | error p=>simp[thenR,opS,exX,hr] at hr0
    | ok r =>
     obtain ⟨e2,st2⟩:=r
     have g2:=D1.out.good (Px.exprOf_goes s _ _ _ D1.out.tk hr)
     cases hr2:Px.block s (Px.stmt s n) st2 with
     | error p=>simp[thenR,opS,exX,hr,oneX,hr2] at hr0
     | ok r2 =>
      obtain ⟨l2,st3⟩:=r2
      simp[thenR,opS,exX,hr,oneX,hr2] at hr0
      rw[← hr0.2]
      exact g2.good (Px.block_goes (Px.stmt_goes s n) _ _ _ g2.tk hr2)
   exact D2.good (Px.good_on D2.tk ho0)
  rintro e w7 h4
  obtain ⟨va,vn,vc,he⟩:∃ va vn vc,e=.returned (.slice va vn vc):=by obtain ⟨_,va,vn,vc,he,_⟩:=h4;exact ⟨va,vn,vc,he⟩
  subst he
  have m5:=M6.out.two (Px.stmt_goes s n) hb (Nat.le_refl _) h4
  obtain ⟨y,ve,a1,n1,c1,a2,n2,c2,hc,hcx⟩:=M6.out.cells
  have hc3:=Kp.heap h4.1 hc (by omega)
  obtain ⟨d0,d1,d2,d3,d4,d5,d6,d7,d8,d9,d10,df⟩:=cells11 hc3
  have M7:Hid (_):=m5
  clear hc hcx hc3 m5 h4
  go_wp2_with fail
  go_ret
  rw[if_eq,on_else HB.out]
  exact M7.out.post (Nat.le_refl _)
open Go.RowKit
set_option maxRecDepth 100000 in
set_option maxHeartbeats 4000000 in
theorem stmt_try (b:Nat) (s:ByteArray) (n:Nat) (hst:StmtOk b s n (Px.stmt s n)) (hs3:s.size≤300) (st:Px.Ps) (w:World) (hD:DomS s (n+1) st) (p:PenAt w b s st.t (-1) st.nest st.deep) (h0:Px.onB s st.t ⟨#[108,101,116]⟩=false) (h1:Px.onB s st.t ⟨#[99,97,108,108]⟩=false) (h2:Px.onB s st.t ⟨#[105,102]⟩=false) (ho:Px.onB s st.t ⟨#[116,114,121]⟩=true) :
  Calls Tryz.prog 68 #[.pointer (some ⟨b,0,none⟩)] w (StPost b s w (Px.tryS s (Px.stmt s n) (Px.nx s st))):=by
 have hs:s.size≤maxLen:=by unfold maxLen;omega
 have hb:=p.lt
 have HD:Hid (DomS s (n+1) st∧PenAt w b s st.t (-1) st.nest st.deep):=⟨hD,p⟩
 have hN0:=hD.n0
 have hN:st.nest+(s.size+1:Nat)≤1000000:=by have:=hD.n1;omega
 clear hD p
 go_enter Tryz.func68,Tryz.ntmps68
 go_wp2_with fail
 refine (got_no b s _ st.t st.nest st.deep _ (HD.out.2.alloc _) h0).mono ?_
 rintro e w' ⟨rfl,hw⟩
 rw[← hw]
 clear hw
 go_wp2_with fail
 refine (got_no b s _ st.t st.nest st.deep _ (HD.out.2.alloc _) h1).mono ?_
 rintro e w' ⟨rfl,hw⟩
 rw[← hw]
 clear hw
 go_wp2_with fail
 refine (got_no b s _ st.t st.nest st.deep _ (HD.out.2.alloc _) h2).mono ?_
 rintro e w' ⟨rfl,hw⟩
 rw[← hw]
 clear hw
 go_wp2_with fail
 refine (got_yes b s _ st.t st.nest st.deep _ (HD.out.2.alloc _) HD.out.1.tk.le hs ho).mono ?_
 rintro e w1 ⟨rfl,p1,k1⟩
 have m1:Mk b s w w.heap.size (.ok (Px.zeroS,Px.nx s st)) st.nest w1:=Mk.start hb rfl k1 ⟨p1,Px.nx_tk HD.out.1.tk⟩
 have D1:Hid (DomS s (n+1) (Px.nx s st)):=HD.out.1.good (Px.good_on HD.out.1.tk ho)
 clear p1 k1
 obtain ⟨y,ve,a1,n1,c1,a2,n2,c2,hc,hcx⟩:=m1.cells
 obtain ⟨d0,d1,d2,d3,d4,d5,d6,d7,d8,d9,d10,df⟩:=cells11 hc
 have M2:Hid (Mk b s w w.heap.size (opS 116 (Px.nx s st)) st.nest (w1.setCell ⟨w.heap.size,0,none⟩ (.int .u8 116))):=m1.op 116 hb (Nat.le_refl _)
 clear hc hcx m1
 go_wp2_with fail
 clear d0 d1 d2 d3 d4 d5 d6 d7 d8 d9 d10 df
 refine (blockU b s n _ hst (Px.stmt_goes s n) hs3 _ _ M2.out.pen ?hd).mono ?_
 case hd =>
  intro st1 h1
  cases h1
  exact D1.out
 rintro e w4 h4
 obtain ⟨va,vn,vc,he⟩:∃ va vn vc,e=.returned (.slice va vn vc):=by obtain ⟨_,va,vn,vc,he,_⟩:=h4;exact ⟨va,vn,vc,he⟩
 subst he
 have m5:=M2.out.one (Px.stmt_goes s n) hb (Nat.le_refl _) h4
 obtain ⟨y,ve,a1,n1,c1,a2,n2,c2,hc,hcx⟩:=M2.out.cells
 have hc3:=Kp.heap h4.1 hc (by omega)
 obtain ⟨d0,d1,d2,d3,d4,d5,d6,d7,d8,d9,d10,df⟩:=cells11 hc3
 have M3:Hid (_):=m5
 clear hc hcx hc3 m5 h4
 clear M2
 go_wp2_with fail
 clear d0 d1 d2 d3 d4 d5 d6 d7 d8 d9 d10 df
 refine (needU b s _ _ _ M3.out.pen hs).mono ?_
 rintro e w5 ⟨rfl,k5,p5⟩
 have M4:Hid (Mk b s w w.heap.size (thenR (thenR (opS 116 (Px.nx s st)) (oneX s (Px.stmt s n))) (needX s ⟨#[101,108,115,101]⟩)) st.nest w5):=M3.out.need hb (Nat.le_refl _) k5 p5
 clear k5 p5 M3
 go_wp2_with fail
 refine (blockU b s n _ hst (Px.stmt_goes s n) hs3 _ _ M4.out.pen ?hd).mono ?_
 case hd =>
  intro st1 h1
  cases hr:Px.block s (Px.stmt s n) (Px.nx s st) with
  | error p=>simp[thenR,opS,oneX,hr,Except.map] at h1
  | ok r =>
   obtain ⟨l2,st2⟩:=r
   have g2:=D1.out.good (Px.block_goes (Px.stmt_goes s n) _ _ _ D1.out.tk hr)
   cases hr2:Px.need s ⟨#[101,108,115,101]⟩ st2 with
   | error p=>simp[thenR,opS,oneX,hr,needX,hr2,Except.map] at h1
   | ok st3 =>
    simp[thenR,opS,oneX,hr,needX,hr2,Except.map] at h1
    rw[← h1]
    exact g2.good (Px.need_good g2.tk hr2)
 rintro e w6 h4
 obtain ⟨va,vn,vc,he⟩:∃ va vn vc,e=.returned (.slice va vn vc):=by obtain ⟨_,va,vn,vc,he,_⟩:=h4;exact ⟨va,vn,vc,he⟩
 subst he
 have m5:=M4.out.two (Px.stmt_goes s n) hb (Nat.le_refl _) h4
 obtain ⟨y,ve,a1,n1,c1,a2,n2,c2,hc,hcx⟩:=M4.out.cells
 have hc3:=Kp.heap h4.1 hc (by omega)
 obtain ⟨d0,d1,d2,d3,d4,d5,d6,d7,d8,d9,d10,df⟩:=cells11 hc3
 have M5:Hid (_):=m5
 clear hc hcx hc3 m5 h4
 clear M4
 go_wp2_with fail
 go_ret
 rw[try_eq]
 exact M5.out.post (Nat.le_refl _)
set_option maxRecDepth 100000 in
set_option maxHeartbeats 4000000 in
theorem stmt_repeat (b:Nat) (s:ByteArray) (n:Nat) (hst:StmtOk b s n (Px.stmt s n)) (hs3:s.size≤300) (st:Px.Ps) (w:World) (hD:DomS s (n+1) st) (p:PenAt w b s st.t (-1) st.nest st.deep) (h0:Px.onB s st.t ⟨#[108,101,116]⟩=false) (h1:Px.onB s st.t ⟨#[99,97,108,108]⟩=false) (h2:Px.onB s st.t ⟨#[105,102]⟩=false) (h3:Px.onB s st.t ⟨#[116,114,121]⟩=false) (ho:Px.onB s st.t ⟨#[114,101,112,101,97,116]⟩=true) :
  Calls Tryz.prog 68 #[.pointer (some ⟨b,0,none⟩)] w (StPost b s w (Px.repeatS s (Px.stmt s n) (Px.nx s st))):=by
 have hs:s.size≤maxLen:=by unfold maxLen;omega
 have hb:=p.lt
 have HD:Hid (DomS s (n+1) st∧PenAt w b s st.t (-1) st.nest st.deep):=⟨hD,p⟩
 have hN0:=hD.n0
 have hN:st.nest+(s.size+1:Nat)≤1000000:=by have:=hD.n1;omega
 clear hD p
 go_enter Tryz.func68,Tryz.ntmps68
 go_wp2_with fail
 refine (got_no b s _ st.t st.nest st.deep _ (HD.out.2.alloc _) h0).mono ?_
 rintro e w' ⟨rfl,hw⟩
 rw[← hw]
 clear hw
 go_wp2_with fail
 refine (got_no b s _ st.t st.nest st.deep _ (HD.out.2.alloc _) h1).mono ?_
 rintro e w' ⟨rfl,hw⟩
 rw[← hw]
 clear hw
 go_wp2_with fail
 refine (got_no b s _ st.t st.nest st.deep _ (HD.out.2.alloc _) h2).mono ?_
 rintro e w' ⟨rfl,hw⟩
 rw[← hw]
 clear hw
 go_wp2_with fail
 refine (got_no b s _ st.t st.nest st.deep _ (HD.out.2.alloc _) h3).mono ?_
 rintro e w' ⟨rfl,hw⟩
 rw[← hw]
 clear hw
 go_wp2_with fail
 refine (got_yes b s _ st.t st.nest st.deep _ (HD.out.2.alloc _) HD.out.1.tk.le hs ho).mono ?_
 rintro e w1 ⟨rfl,p1,k1⟩
 have m1:Mk b s w w.heap.size (.ok (Px.zeroS,Px.nx s st)) st.nest w1:=Mk.start hb rfl k1 ⟨p1,Px.nx_tk HD.out.1.tk⟩
 have D1:Hid (DomS s (n+1) (Px.nx s st)):=HD.out.1.good (Px.good_on HD.out.1.tk ho)
 clear p1 k1
 obtain ⟨y,ve,a1,n1,c1,a2,n2,c2,hc,hcx⟩:=m1.cells
 obtain ⟨d0,d1,d2,d3,d4,d5,d6,d7,d8,d9,d10,df⟩:=cells11 hc
 have M2:Hid (Mk b s w w.heap.size (opS 114 (Px.nx s st)) st.nest (w1.setCell ⟨w.heap.size,0,none⟩ (.int .u8 114))):=m1.op 114 hb (Nat.le_refl _)
 clear hc hcx m1
 go_wp2_with fail
 clear d0 d1 d2 d3 d4 d5 d6 d7 d8 d9 d10 df
 refine (kindU b s 110 (.ok (Px.nx s st)) _ M2.out.pen hs).mono ?_
 rintro e w2 ⟨⟨kv,kx,rfl⟩,k2,p2⟩
 have m3:=M2.out.kind hb (Nat.le_refl _) k2 p2
 obtain ⟨y,ve,a1,n1,c1,a2,n2,c2,hc,hcx⟩:=m3.cells
 obtain ⟨d0,d1,d2,d3,d4,d5,d6,d7,d8,d9,d10,df⟩:=cells11 hc
 have hq2:w.heap.size < w2.heap.size:=lt_of_cell d0
 have V:Hid (_):=kindT_num (r:=.ok (Px.nx s st)) M2.out.pen
 have M3:Hid (_):=m3
 clear k2 p2 hc hcx m3 M2
 go_wp2_with fail
 refine (value_any _ _ V.out.1 V.out.2).mono ?_
 rintro e w' ⟨rfl,hw⟩
 rw[hw]
 clear hw
 go_wp2_with fail
 have m4:Mk b s w w.heap.size (repHead s (Px.nx s st)) st.nest _:=Mk.store (fun y=>{ y with n:=Px.valOf (kindT s (.ok (Px.nx s st)) 110).toList,nPl:=kindA (.ok (Px.nx s st)) 110 }) (fun y=>⟨rfl,rfl,rfl⟩) M3.out
  (W:=((w2.setCell ⟨w.heap.size,7,none⟩ (.int .i64 (Px.valOf (kindT s (.ok (Px.nx s st)) 110).toList))).setCell ⟨w.heap.size,8,none⟩ (.int .i64 (kindA (.ok (Px.nx s st)) 110))).alloc (.cells #[.int .u8 kv,.string (kindT s (.ok (Px.nx s st)) 110),.int .i64 (kindA (.ok (Px.nx s st)) 110),.int .i64 kx] 171))
  (((M3.out.kp.setN (Nat.le_refl _) _).setN (Nat.le_refl _) _).alloc _) (by simp) (fun i hi hne=>by rw[Below.heap_alloc _ _ _ (by simpa [size_set] using hi),heap_set_ne _ hne,heap_set_ne _ hne])
  (fun y ve v1 v2 h=>by rw[Below.heap_alloc _ _ _ (by simpa [size_set] using hq2),heap_set _ (heap_set _ h)];simp[smCells])
  ?pp ?rr
 case pp =>
  rw[← repHead_pen]
  exact ((M3.out.pen.setN (by omega) _).setN (by omega) _).alloc _
 case rr =>
  intro x' st' hx
  unfold repHead Px.kind at hx
  by_cases hk:(Px.nx s st).t.k=110
  ·rw[if_pos hk] at hx
   cases hx
   refine ⟨rfl,{ Px.zeroS with op:=114 },Px.nx s (Px.nx s st),?_,?_⟩
   ·simp[thenR,kindX,Px.kind,hk,opS]
   ·simp[kindT,kindA,hk,Px.txt]
  ·rw[if_neg hk] at hx;cases hx
 have M4:Hid (_):=m4
 clear m4 M3 d0 d1 d2 d3 d4 d5 d6 d7 d8 d9 d10 df
 refine (blockU b s n _ hst (Px.stmt_goes s n) hs3 _ _ M4.out.pen ?hd).mono ?_
 case hd =>
  intro st1 h1
  cases hr:Px.kind s 110 (Px.nx s st) with
  | error p=>simp[repHead,hr,Except.map] at h1
  | ok st2 =>
   simp[repHead,hr,Except.map] at h1
   rw[← h1]
   exact D1.out.good (Px.kind_good D1.out.tk (by decide) (by decide) hr)
 rintro e w4 h4
 obtain ⟨va,vn,vc,he⟩:∃ va vn vc,e=.returned (.slice va vn vc):=by obtain ⟨_,va,vn,vc,he,_⟩:=h4;exact ⟨va,vn,vc,he⟩
 subst he
 have m5:=M4.out.one (Px.stmt_goes s n) hb (Nat.le_refl _) h4
 obtain ⟨y,ve,a1,n1,c1,a2,n2,c2,hc,hcx⟩:=M4.out.cells
 have hc3:=Kp.heap h4.1 hc (by omega)
 obtain ⟨d0,d1,d2,d3,d4,d5,d6,d7,d8,d9,d10,df⟩:=cells11 hc3
 have M5:Hid (_):=m5
 clear hc hcx hc3 m5 h4
 clear M4
 go_wp2_with fail
 go_ret
 rw[rep_eq]
 exact M5.out.post (Nat.le_refl _)
open Go.RowKit
theorem stmt_ok (b:Nat) (s:ByteArray) (hs3:s.size≤300) (n:Nat):StmtOk b s n (Px.stmt s n):=by
 induction n with
 | zero=>intro st w hD p;have:=hD.room;omega
 | succ n ih =>
  intro st w hD p
  rw[Px.stmt]
  cases h0:Px.onB s st.t ⟨#[108,101,116]⟩
  ·cases h1:Px.onB s st.t ⟨#[99,97,108,108]⟩
   ·cases h2:Px.onB s st.t ⟨#[105,102]⟩
    ·cases h3:Px.onB s st.t ⟨#[116,114,121]⟩
     ·cases h4:Px.onB s st.t ⟨#[114,101,112,101,97,116]⟩
      ·exact stmt_fail b s n hs3 st w hD p h0 h1 h2 h3 h4
      ·exact stmt_repeat b s n ih hs3 st w hD p h0 h1 h2 h3 h4
     ·exact stmt_try b s n ih hs3 st w hD p h0 h1 h2 h3
    ·exact stmt_if b s n ih hs3 st w hD p h0 h1 h2
   ·exact stmt_call b s n hs3 st w hD p h0 h1
  ·exact stmt_let b s n hs3 st w hD p h0
open Go.RowKit
theorem cells8 {w:World} {k:Nat} {a b c d e f g h:Value} {t:TypeId} (hh:w.heap[k]?=some (.cells #[a,b,c,d,e,f,g,h] t)) :
  w.cell? ⟨k,0,none⟩=some a∧w.cell? ⟨k,1,none⟩=some b∧w.cell? ⟨k,2,none⟩=some c∧w.cell? ⟨k,3,none⟩=some d∧w.cell? ⟨k,4,none⟩=some e∧w.cell? ⟨k,5,none⟩=some f∧w.cell? ⟨k,6,none⟩=some g∧w.cell? ⟨k,7,none⟩=some h∧∀ o,w.frozen? ⟨k,o,none⟩=false:=by
 refine ⟨?_,?_,?_,?_,?_,?_,?_,?_,?_⟩<;>simp[World.cell?,World.frozen?,hh]
def RdPost (s:ByteArray) (w:World) (e:Ending) (w':World):Prop :=
 Below w.heap.size w w'∧∃ a n c,∃ (x p:Nat),e=.returned (.tuple #[.slice a n c,.int .i64 (x:Int),.int .i64 (p:Int)]) ∧
  match Px.read s with
  | .error (c',p')=>x=c'∧p=p'∧a=none∧n=0∧c=0
  | .ok l=>x=0∧p=0∧∃ qs,SlAt w' (.slice a n c) qs (In w w')∧SmsAt w' l (In w w') qs
theorem read_long (s:ByteArray) (w:World) (h:300 < s.size) (hs:s.size≤maxLen) :
  Calls Tryz.prog 41 #[.string s] w (RdPost s w):=by
 unfold maxLen at hs
 have e1:Hid (Px.read s=.error (1,0)):=by unfold Hid;rw[Px.read,if_pos h]
 go_enter Tryz.func41,Tryz.ntmps41
 go_wp2_with fail
 go_ret3
 refine ⟨Below.refl _ _,none,0,0,1,0,rfl,?_⟩
 rw[e1.out]
 exact ⟨rfl,rfl,rfl,rfl,rfl⟩
set_option maxRecDepth 100000 in
set_option maxHeartbeats 4000000 in
theorem read_short (s:ByteArray) (w:World) (hs3:s.size≤300) :
  Calls Tryz.prog 41 #[.string s] w (RdPost s w):=by
 obtain ⟨i0,hi,hz0,hz1,hz2⟩:=info_parts infoStm
 have hs:s.size≤maxLen:=by unfold maxLen;omega
 have hd:decide (300 < (s.size:Int))=false:=by simp;omega
 have er:Hid (Px.read s=match Px.stmts s (Px.stmt s (s.size+1)) (fun st=>st.t.k == 0) (s.size+1) [] ⟨Px.tok s 0,0,-1⟩ with
  | .error p=>.error (2,p)
  | .ok (l,st)=>if 0≤st.deep then .error (3,st.deep.toNat) else .ok l):=by
  unfold Hid;rw[Px.read,if_neg (by omega)]
  cases Px.stmts s (Px.stmt s (s.size+1)) (fun st=>st.t.k == 0) (s.size+1) [] ⟨Px.tok s 0,0,-1⟩<;>rfl
 have hst:=stmt_ok w.heap.size s hs3 (s.size+1)
 have HG:Hid (_):=Px.stmt_goes s (s.size+1)
 generalize Px.stmt s (s.size+1)=g at *
 go_enter Tryz.func41,Tryz.ntmps41
 go_wp2_with fail
 refine (sign_any s 0 _ (Nat.zero_le _) hs).mono ?_
 unfold signV
 rintro e w1 ⟨rfl,hbw⟩
 have g1:w1.heap[w.heap.size]?=some (.cells #[.string s,.int .u8 0,.string ⟨#[]⟩,.int .i64 0,.int .i64 0,.int .i64 (-1),.int .i64 0,.int .i64 (-1)] 173):=by
  rw[hbw.block _ (by simp)]
  show (w.heap.push _)[w.heap.size]?=_
  rw[Array.getElem?_push,if_pos rfl]
 obtain ⟨c0,c1,c2,c3,c4,c5,c6,c7,f⟩:=cells8 g1
 have hbz:w.heap.size < w1.heap.size:=lt_of_cell c0
 have BW:Hid (Below w.heap.size w w1):=((Below.refl _ _).alloc (Nat.le_refl _) _).trans (hbw.mono (by simp))
 have G1:Hid (_):=g1
 clear hbw g1
 go_wp2_with fail
 generalize hW:(((w1.setCell ⟨w.heap.size,1,none⟩ (.int .u8 ((Px.tok s 0).k:Int))).setCell ⟨w.heap.size,2,none⟩ (.string (s.extract (Px.tok s 0).a (Px.tok s 0).b))).setCell ⟨w.heap.size,3,none⟩ (.int .i64 ((Px.tok s 0).a:Int))).setCell ⟨w.heap.size,4,none⟩ (.int .i64 ((Px.tok s 0).b:Int))=W
 have P0:Hid (PenAt W w.heap.size s (Px.tok s 0) (-1) 0 (-1)):=⟨by rw[← hW,heap_set _ (heap_set _ (heap_set _ (heap_set _ G1.out)))];simp⟩
 have BW2:Hid (Below w.heap.size w W):=by rw[← hW];exact (((BW.out.setCell (Nat.le_refl _) _).setCell (Nat.le_refl _) _).setCell (Nat.le_refl _) _).setCell (Nat.le_refl _) _
 have hbW:w.heap.size < W.heap.size:=P0.out.lt
 have TK:Hid (Px.Tk s (Px.tok s 0)):=(Px.tok_tk s 0 (Nat.zero_le _)).1
 clear hW c0 c1 c2 c3 c4 c5 c6 c7 f BW G1 hbz
 generalize hR:Px.stmts s g (fun st=>st.t.k == 0) (s.size+1) [] ⟨Px.tok s 0,0,-1⟩=R at er
 have HRR:Hid (Px.stmts s g (fun st=>st.t.k == 0) (s.size+1) [] ⟨Px.tok s 0,0,-1⟩=R):=hR
 clear hR
 generalize hBB:w.heap.size=B at *
 have HBB:Hid (w.heap.size=B):=hBB
 clear hBB
 go_loopw [6] (fun v wr=>Hid (LsRel B s g (fun st=>st.t.k == 0) (DomS s (s.size+1)) R W wr v)) (fun _ wr=>penM s B wr)
 case atStart =>
  refine ⟨Kp.refl _ _,[],World.ownsRow_nil _ _ _ _,Or.inl ⟨[],⟨Px.tok s 0,0,-1⟩,s.size+1,SmsAt.nil_iff.2 rfl,by simp,P0.out,⟨TK.out,by simp;omega,by simp,by simp;omega⟩,HRR.out,by simp;omega⟩⟩
 case round =>
  obtain ⟨kr,qs,hown,hcase⟩:=hrel.out
  clear hrel
  obtain ⟨va,vn,vc,rfl⟩:=own_shape hown
  have KR:Hid (Kp B W wr∧wr.ownsRow W.heap.size 103 1 (.slice va vn vc) qs.length (qs.map ptr)):=⟨kr,hown⟩
  clear kr hown
  rcases hcase with ⟨l,st1,m,hl,hq,p1,hD1,hch,hm⟩ | ⟨pe,t,nest,deep,hRe,hq,p1⟩
  ·obtain ⟨m,rfl⟩:∃ m',m=m'+1:=⟨m - 1,by omega⟩
   obtain ⟨c0,c1,c2,c3,c4,c5,c6,c7,f,hbr⟩:=p1.cells
   have L:Hid (SmsAt wr l (fun k=>In W wr k∧some k≠(Value.slice va vn vc).ownBlock) qs):=hl
   have PP:Hid (PenAt wr B s st1.t (-1) st1.nest st1.deep):=p1
   have DD:Hid (DomS s (s.size+1) st1):=hD1
   have CH:Hid (Px.stmts s g (fun st=>st.t.k == 0) (m+1) l st1=R):=hch
   clear hl p1 hD1 hch
   by_cases hk0:st1.t.k=0
   ·have t1:((st1.t.k:Int) != 0)=false:=by rw[hk0];rfl
    have hRok:Hid (R=.ok (l,st1)):=by unfold Hid;rw[← CH.out,Px.stmts,if_pos (by simp[hk0])]
    by_cases hdp:0≤st1.deep
    ·go_wp2_with fail
     go_region
     go_wp2_with fail
     go_ret3
     refine ⟨by rw[HBB.out];exact (BW2.out.trans (KR.out.1.toBelow (Nat.le_refl _) (by omega))).drew,none,0,0,3,st1.deep.toNat,by rw[Int.toNat_of_nonneg hdp];rfl,?_⟩
     rw[er.out,hRok.out]
     simp only[if_pos hdp,and_self]
    ·go_wp2_with fail
     go_ret3
     have z1:=KR.out.1.size
     have z0:=BW2.out.size
     refine ⟨by rw[HBB.out];exact (BW2.out.trans (KR.out.1.toBelow (Nat.le_refl _) (by omega))),va,vn,vc,0,0,rfl,?_⟩
     rw[er.out,hRok.out]
     simp only[if_neg (show ¬ 0≤st1.deep by omega)]
     refine ⟨trivial,trivial,qs,?_,?_⟩
     ·refine own_sl KR.out.2 fun k hk=>?_
      have:=KR.out.2.lt k hk
      exact ⟨by omega,by omega⟩
     ·exact L.out.mono fun k hk=>⟨by have:=hk.1.1;omega,hk.1.2⟩
   ·have t1:((st1.t.k:Int) != 0)=true:=by rw[bne_iff_ne];omega
    go_wp2_with fail
    refine (hst st1 _ DD.out PP.out).mono ?_
    rintro e w3 ⟨k3,q,rfl,h3⟩
    have hown3:w3.ownsRow W.heap.size 103 1 (.slice va vn vc) qs.length (qs.map ptr):=own_keep KR.out.2 fun k hk=>k3.block k (KR.out.2.lt k hk).2 (by have:=(KR.out.2.lt k hk).1;omega)
    have hsz3:W.heap.size≤w3.heap.size:=by have:=k3.size;have:=KR.out.1.size;omega
    have hqb:qs.length≤300:=by have:=DD.out.tk.ab;have:=DD.out.tk.le;omega
    have H3:Hid (StPost B s wr (g st1) (.returned (ptr q)) w3):=⟨k3,q,rfl,h3⟩
    unfold ptr
    clear k3 h3 c0 c1 c2 c3 c4 c5 c6 c7 f
    go_wp2_with (first
     | (at_builtin;refine wpList_append_own_at _ rfl _ _ 60 rfl W.heap.size 103 i0 (.pointer none) 1 8 Tryz.underlying60 hi hz0 hz1 hz2 rfl (by decide) _ _ _ rfl (hown3.alloc _) ⟨w3.heap.size,0,none⟩ 1 1 [.pointer (some ⟨q,0,none⟩)] rfl rfl ?c1 ?c2 ?c3 ?c4 ?c5 ?_)
     | fail)
    case c1 =>
     intro j u hj
     match j,hj with
     | 0,hj=>simp at hj;subst hj;simp[Addr.add]
    case c2=>intro u hu;simp at hu;subst hu;rfl
    case c3=>unfold maxLen;omega
    case c4=>omega
    case c5=>simp;omega
    ·intro v' w4 hown' hgrow _ hloc
     obtain ⟨r1,r2⟩:=ls_step hbW HG.out KR.out.1 KR.out.2 L.out hq DD.out hm (R:=R) (stop:=fun st=>st.t.k == 0) (by rw[← CH.out,Px.stmts,if_neg (by simp[hk0])];cases g st1<;>rfl) H3.out hown' hgrow hloc
     have RR:Hid (_∧_):=⟨r1,r2⟩
     clear r1 r2 hown' hgrow hloc hown3
     go_wp2
     exact ⟨RR.out.1,by rw[penM_ok PP.out];exact RR.out.2⟩
  ·obtain ⟨c0,c1,c2,c3,c4,c5,c6,c7,f,hbr⟩:=p1.cells
   have PP:Hid (R=.error pe∧PenAt wr B s t (pe:Int) nest deep):=⟨hRe,p1⟩
   have hpe:(0:Int)≤pe:=by omega
   clear p1 hRe
   go_wp2_with fail
   go_region
   go_wp2_with fail
   go_ret3
   refine ⟨by rw[HBB.out];exact (BW2.out.trans (KR.out.1.toBelow (Nat.le_refl _) (by omega))).drew,none,0,0,2,pe,rfl,?_⟩
   rw[er.out,PP.out.1]
   exact ⟨rfl,rfl,rfl,rfl,rfl⟩
open Go.RowKit
def varCells (l:List (ByteArray×Nat)):List Value:=l.flatMap fun v=>[.string v.1,.int .u8 (v.2:Int)]
theorem varCells_get (l:List (ByteArray×Nat)) (i:Nat) (h:i < l.length):(varCells l)[i * 2]?=some (.string l[i].1)∧(varCells l)[i * 2+1]?=some (.int .u8 (l[i].2:Int)):=by
 induction l generalizing i with
 | nil=>simp at h
 | cons v l ih =>
  cases i with
  | zero=>exact ⟨rfl,rfl⟩
  | succ i =>
   have:=ih i (by simpa using h)
   have e:(i+1) * 2=i * 2+2:=by omega
   rw[e]
   exact this
theorem vars_cell {w:World} {base:Nat} {va:Option Addr} {vn vc:Nat} {l:List (ByteArray×Nat)} (h:w.ownsRow base 309 2 (.slice va vn vc) l.length (varCells l)) (i:Nat) (hi:i < l.length) :
  ∃ g,va=some ⟨g,0,none⟩∧base≤g∧vn=l.length∧w.cell? ⟨g,i * 2,none⟩=some (.string l[i].1)∧w.cell? ⟨g,i * 2+1,none⟩=some (.int .u8 (l[i].2:Int)):=by
 rcases h.2 with ⟨h1,h2⟩ | ⟨g,cap,cur,h1,h2,h3,h4,h5,h6,h7⟩
 ·omega
 ·cases h1
  have hc:∀ j,j < l.length * 2→w.cell? ⟨g,j,none⟩=(varCells l)[j]?:=by
   intro j hj
   rw[← h7,List.getElem?_take_of_lt hj]
   simp[World.cell?,h3]
  obtain ⟨e1,e2⟩:=varCells_get l i hi
  exact ⟨g,rfl,h2,rfl,by rw[hc _ (by omega)];exact e1,by rw[hc _ (by omega)];exact e2⟩
def findI (l:List (ByteArray×Nat)) (x:ByteArray):Int :=
 match Px.findV l x with
 | none=>-1
 | some i=>i
theorem vars_len {w:World} {base:Nat} {va:Option Addr} {vn vc:Nat} {l:List (ByteArray×Nat)} (h:w.ownsRow base 309 2 (.slice va vn vc) l.length (varCells l)):vn=l.length∧l.length≤maxLen:=by
 rcases h.2 with ⟨h1,h2⟩ | ⟨g,cap,cur,h1,h2,h3,h4,h5,h6,h7⟩
 ·cases h1;exact ⟨h2.symm,by omega⟩
 ·cases h1;exact ⟨rfl,by omega⟩
theorem find_step {l:List (ByteArray×Nat)} {x:ByteArray} {k:Nat} (hk:k < l.length) (h:(l[k].1.toList == x.toList)=false) (hv:Px.findV l x=(Px.findV (l.drop k) x).map (·+k)):Px.findV l x=(Px.findV (l.drop (k+1)) x).map (·+(k+1)):=by
 rw[hv,List.drop_eq_getElem_cons hk,Px.findV,if_neg (by simp[h])]
 cases Px.findV (l.drop (k+1)) x with
 | none=>rfl
 | some i=>simp;omega
theorem find_hit {l:List (ByteArray×Nat)} {x:ByteArray} {k:Nat} (hk:k < l.length) (h:(l[k].1.toList == x.toList)=true) (hv:Px.findV l x=(Px.findV (l.drop k) x).map (·+k)):Px.findV l x=some k:=by
 rw[hv,List.drop_eq_getElem_cons hk,Px.findV,if_pos h]
 simp
theorem find_any (l:List (ByteArray×Nat)) (x:ByteArray) (w:World) (base:Nat) (va:Option Addr) (vn vc:Nat) (h:w.ownsRow base 309 2 (.slice va vn vc) l.length (varCells l)) :
  Calls Tryz.prog 149 #[.slice va vn vc,.string x] w fun e w'=>e=.returned (.int .i64 (findI l x))∧w=w':=by
 obtain ⟨rfl,hml⟩:=vars_len h
 unfold maxLen at hml
 have H:Hid (_):=h
 clear h
 go_enter Tryz.func149,Tryz.ntmps149
 go_wp2_with fail
 go_loop [5] (fun i=>∃ k:Nat,k≤l.length∧i=.int .i64 k∧Hid (Px.findV l x=(Px.findV (l.drop k) x).map (·+k))) (fun i=>l.length - (intOf i).toNat)
 case atStart=>exact ⟨0,by omega,rfl,by simp[Hid]⟩
 case round =>
  obtain ⟨k,hk,rfl,hv⟩:=hrel
  by_cases hlt:k < l.length
  ·obtain ⟨g,rfl,hg,_,hc,hc'⟩:=vars_cell H.out k hlt
   cases hb:(l[k].1.toList == x.toList)
   ·go_wp2_with fail
    exact ⟨⟨k+1,by omega,by go_num,find_step hlt hb hv.out⟩,by simp[intOf];omega⟩
   ·go_wp2_with fail
    go_ret
    exact ⟨ret_int (by rw[findI,find_hit hlt hb hv.out]),rfl⟩
  ·go_wp2_with fail
   go_ret
   exact ⟨ret_int (by rw[findI,hv.out,List.drop_of_length_le (by omega)];rfl),rfl⟩
theorem is_any (k z:Nat) (w:World) :
  Calls Tryz.prog 136 #[.int .u8 (k:Int),.int .u8 (z:Int)] w fun e w'=>e=.returned (.bool (Px.isK k z))∧w=w':=by
 have e1:Hid (Px.isK k z=(((k:Int) == z) || ((k:Int) == 63))):=by
  unfold Hid Px.isK
  rw[Bool.eq_iff_iff];simp;omega
 cases h1:((k:Int) == z)
 all_goals
  go_enter Tryz.func136,Tryz.ntmps136
  go_wp2_with fail
  go_ret
  exact ⟨ret_bool (by rw[e1.out,h1];simp),rfl⟩
structure LkAt (w:World) (c:Nat) (k:Px.Lk):Prop where
 ex:∃ va vn vc,w.heap[c]?=some (.cells #[.slice va vn vc,.int .i64 (k.e:Int),.int .i64 (k.pl:Int)] 97)∧w.ownsRow (c+1) 309 2 (.slice va vn vc) k.vars.length (varCells k.vars)
theorem cells3 {w:World} {k:Nat} {a b c:Value} {t:TypeId} (hh:w.heap[k]?=some (.cells #[a,b,c] t)) :
  w.cell? ⟨k,0,none⟩=some a∧w.cell? ⟨k,1,none⟩=some b∧w.cell? ⟨k,2,none⟩=some c∧∀ o,w.frozen? ⟨k,o,none⟩=false:=by
 refine ⟨?_,?_,?_,?_⟩<;>simp[World.cell?,World.frozen?,hh]
theorem own_set {w:World} {c o:Nat} {u:Value} {e:TypeId} {size:Nat} {v:Value} {n:Nat} {xs:List Value} (h:w.ownsRow (c+1) e size v n xs):(w.setCell ⟨c,o,none⟩ u).ownsRow (c+1) e size v n xs :=
 ownsRow_setCell_below h (Nat.lt_succ_self _) u
theorem below_set {c o:Nat} {a w:World} (h:Below c a w) (u:Value):Below c a (w.setCell ⟨c,o,none⟩ u):=h.setCell (p:=⟨c,o,none⟩) (Nat.le_refl _) u
theorem own_shape' {w:World} {base:Nat} {e:TypeId} {size:Nat} {v:Value} {n:Nat} {xs:List Value} (h:w.ownsRow base e size v n xs):∃ a k c,v=.slice a k c:=by
 rcases h.2 with ⟨h1,_⟩ | ⟨g,cap,cur,h1,_⟩
 ·exact ⟨_,_,_,h1⟩
 ·exact ⟨_,_,_,h1⟩
theorem varCells_snoc (l:List (ByteArray×Nat)) (x:ByteArray) (z:Nat):varCells (l++[(x,z)])=varCells l++[.string x,.int .u8 (z:Int)]:=by simp[varCells]
theorem say_any (c e p:Nat) (k:Px.Lk) (w:World) (h:LkAt w c k) :
  Calls Tryz.prog 137 #[.pointer (some ⟨c,0,none⟩),.int .i64 (e:Int),.int .i64 (p:Int)] w fun e' w'=>e'=.returned (.tuple #[])∧LkAt w' c (Px.say e p k)∧Below c w w':=by
 obtain ⟨va,vn,vc,h1,h2⟩:=h.ex
 obtain ⟨c0,c1,c2,f⟩:=cells3 h1
 have yes:Px.say e p k=⟨k.vars,e,p⟩→LkAt ((w.setCell ⟨c,1,none⟩ (.int .i64 (e:Int))).setCell ⟨c,2,none⟩ (.int .i64 (p:Int))) c (Px.say e p k)∧Below c w ((w.setCell ⟨c,1,none⟩ (.int .i64 (e:Int))).setCell ⟨c,2,none⟩ (.int .i64 (p:Int))):=by
  intro hs
  rw[hs]
  exact ⟨⟨va,vn,vc,by rw[heap_set _ (heap_set _ h1)];simp,own_set (own_set h2)⟩,below_set (below_set (Below.refl _ _) _) _⟩
 have no:Px.say e p k=k→LkAt w c (Px.say e p k)∧Below c w w:=by
  intro hs
  rw[hs]
  exact ⟨⟨va,vn,vc,h1,h2⟩,Below.refl _ _⟩
 have YES:Hid (_):=yes
 have NO:Hid (_):=no
 clear yes no h h1 h2
 by_cases g0:k.e=0
 ·have t0:((k.e:Int) == 0)=true:=by rw[g0];rfl
  go_enter Tryz.func137,Tryz.ntmps137
  go_wp2_with fail
  go_end0
  exact ⟨rfl,YES.out (by unfold Px.say;rw[if_pos (Or.inl g0)])⟩
 ·have t0:((k.e:Int) == 0)=false:=by rw[beq_eq_false_iff_ne];omega
  by_cases g1:p < k.pl
  ·have t1:(p:Int) < k.pl:=by omega
   go_enter Tryz.func137,Tryz.ntmps137
   go_wp2_with fail
   go_end0
   exact ⟨rfl,YES.out (by unfold Px.say;rw[if_pos (Or.inr (Or.inl g1))])⟩
  ·have t1:¬ (p:Int) < k.pl:=by omega
   by_cases g2:p=k.pl
   ·have t2:((p:Int) == k.pl)=true:=by rw[beq_iff_eq];omega
    have G2:Hid (p=k.pl):=g2
    clear g2
    by_cases g3:e < k.e
    ·have t3:(e:Int) < k.e:=by omega
     go_enter Tryz.func137,Tryz.ntmps137
     go_wp2_with fail
     go_end0
     exact ⟨rfl,YES.out (by unfold Px.say;rw[if_pos (Or.inr (Or.inr ⟨G2.out,g3⟩))])⟩
    ·have t3:¬ (e:Int) < k.e:=by omega
     go_enter Tryz.func137,Tryz.ntmps137
     go_wp2_with fail
     go_end0
     exact ⟨rfl,NO.out (by unfold Px.say;rw[if_neg (by omega)])⟩
   ·have t2:((p:Int) == k.pl)=false:=by rw[beq_eq_false_iff_ne];omega
    go_enter Tryz.func137,Tryz.ntmps137
    go_wp2_with fail
    go_end0
    exact ⟨rfl,NO.out (by unfold Px.say;rw[if_neg (by omega)])⟩
theorem infoVar:(Tryz.prog.info? 309).map (fun i=>(i.zero,i.size,i.bytes))=some (some (.agg #[.string ⟨#[]⟩,.int .u8 0]),2,24):=by kernel_rfl
theorem findV_lt {l:List (ByteArray×Nat)} {x:ByteArray} {i:Nat} (h:Px.findV l x=some i):i < l.length:=by
 induction l generalizing i with
 | nil=>cases h
 | cons v l ih =>
  rw[Px.findV] at h
  split at h
  ·cases h;simp
  ·cases hf:Px.findV l x with
   | none=>rw[hf] at h;cases h
   | some j=>rw[hf] at h;cases h;have:=ih hf;simp;omega
set_option maxHeartbeats 1000000 in
theorem give_any (c:Nat) (x:ByteArray) (p z:Nat) (k:Px.Lk) (w:World) (h:LkAt w c k) (hv:k.vars.length≤1000000) :
  Calls Tryz.prog 135 #[.pointer (some ⟨c,0,none⟩),.string x,.int .i64 (p:Int),.int .u8 (z:Int)] w fun e' w'=>e'=.returned (.tuple #[])∧LkAt w' c (Px.giveV x p z k)∧Below c w w':=by
 obtain ⟨va,vn,vc,h1,h2⟩:=h.ex
 obtain ⟨c0,c1,c2,f⟩:=cells3 h1
 obtain ⟨rfl,_⟩:=vars_len h2
 have hcz:c < w.heap.size:=lt_of_cell c0
 have H:Hid (_∧_):=⟨h1,h2⟩
 have HL:Hid (LkAt w c k):=h
 clear h1 h2 h
 cases hf:Px.findV k.vars x with
 | none =>
  obtain ⟨i0,hi,hz0,hz1,hz2⟩:=info_parts infoVar
  have e1:Hid (Px.giveV x p z k=⟨k.vars++[(x,z)],k.e,k.pl⟩):=by unfold Hid Px.giveV;rw[hf]
  have e2:Hid (findI k.vars x=-1):=by unfold Hid findI;rw[hf]
  clear hf
  go_enter Tryz.func135,Tryz.ntmps135
  go_wp2_with fail
  refine (find_any k.vars x _ _ _ _ _ H.out.2).mono ?_
  rintro e w' ⟨rfl,rfl⟩
  rw[e2.out]
  go_wp2_with (first
   | (at_builtin;refine wpList_append_own_at _ rfl _ _ 61 rfl (c+1) 309 i0 (.agg #[.string ⟨#[]⟩,.int .u8 0]) 2 24 Tryz.underlying61 hi hz0 hz1 hz2 rfl (by decide) _ _ _ rfl (H.out.2.alloc _) ⟨w.heap.size,0,none⟩ 1 1 [.string x,.int .u8 (z:Int)] rfl rfl ?c1 ?c2 ?c3 ?c4 ?c5 ?_)
   | fail)
  case c1 =>
   intro j u hj
   match j,hj with
   | 0,hj=>simp at hj;subst hj;simp[Addr.add]
   | 1,hj=>simp at hj;subst hj;simp[Addr.add]
  case c2=>intro u hu;simp at hu;rcases hu with rfl | rfl<;>rfl
  case c3=>unfold maxLen;omega
  case c4=>omega
  case c5=>simp;omega
  ·intro v' w3 hown' hgrow _ hloc
   obtain ⟨va',vn',vc',rfl⟩:=own_shape' hown'
   have hob:∀ i,(Value.slice va k.vars.length vc).ownBlock=some i→c+1≤i:=fun i hi=>(H.out.2.lt i hi).1
   have h3:w3.heap[c]?=some (.cells #[.slice va k.vars.length vc,.int .i64 (k.e:Int),.int .i64 (k.pl:Int)] 97):=by
    rw[hgrow.block c (by simp;omega) (fun e=>by have:=hob c e.symm;omega),Below.heap_alloc _ _ _ hcz];exact H.out.1
   obtain ⟨d0,d1,d2,df⟩:=cells3 h3
   have hb3:Below c w w3:=((Below.refl _ _).alloc (by omega) _).grown hgrow (by simp;omega) (fun i hi=>by have:=hob i hi;omega)
   have H3:Hid (_∧_∧_):=⟨hown',h3,hb3⟩
   clear hown' hgrow hloc h3 hb3 hob
   go_wp2_with fail
   refine bodyPost_ret (results_none rfl _ _ _) rfl ?_
   rw[e1.out]
   refine ⟨rfl,⟨va',vn',vc',by rw[heap_set _ H3.out.2.1];simp,?_⟩,below_set H3.out.2.2 _⟩
   have:=own_set (c:=c) (o:=0) (u:=.slice va' vn' vc') H3.out.1
   rw[varCells_snoc]
   simpa using this
 | some i =>
  have hlt:=findV_lt hf
  obtain ⟨g,rfl,hg,_,hc,hc'⟩:=vars_cell H.out.2 i hlt
  have e2:Hid (findI k.vars x=(i:Int)):=by unfold Hid findI;rw[hf]
  have e3:Px.kindAt k.vars i=k.vars[i].2:=by simp[Px.kindAt,hlt]
  have e1:Hid (Px.giveV x p z k=if Px.unlike k.vars[i].2 z then Px.say 6 p k else k):=by unfold Hid Px.giveV;rw[hf];simp only[e3]
  have e4:Hid (Px.unlike k.vars[i].2 z=(((k.vars[i].2:Int) != z) && ((k.vars[i].2:Int) != 63) && ((z:Int) != 63))):=by
   unfold Hid Px.unlike;rw[Bool.eq_iff_iff];simp;omega
  have E3:Hid (_):=e3
  clear hf e3
  generalize hkz:k.vars[i].2=kz at *
  clear hkz
  cases g1:((kz:Int) != z)
  ·go_enter Tryz.func135,Tryz.ntmps135
   go_wp2_with fail
   refine (find_any k.vars x _ _ _ _ _ H.out.2).mono ?_
   rintro e w' ⟨rfl,rfl⟩
   rw[e2.out]
   go_wp2_with fail
   go_end0
   rw[e1.out,e4.out,g1]
   exact ⟨rfl,HL.out,Below.refl _ _⟩
  ·cases g2:((kz:Int) != 63)
   ·go_enter Tryz.func135,Tryz.ntmps135
    go_wp2_with fail
    refine (find_any k.vars x _ _ _ _ _ H.out.2).mono ?_
    rintro e w' ⟨rfl,rfl⟩
    rw[e2.out]
    go_wp2_with fail
    go_end0
    rw[e1.out,e4.out,g1,g2]
    exact ⟨rfl,HL.out,Below.refl _ _⟩
   ·cases g3:((z:Int) != 63)
    ·go_enter Tryz.func135,Tryz.ntmps135
     go_wp2_with fail
     refine (find_any k.vars x _ _ _ _ _ H.out.2).mono ?_
     rintro e w' ⟨rfl,rfl⟩
     rw[e2.out]
     go_wp2_with fail
     go_end0
     rw[e1.out,e4.out,g1,g2,g3]
     exact ⟨rfl,HL.out,Below.refl _ _⟩
    ·go_enter Tryz.func135,Tryz.ntmps135
     go_wp2_with fail
     refine (find_any k.vars x _ _ _ _ _ H.out.2).mono ?_
     rintro e w' ⟨rfl,rfl⟩
     rw[e2.out]
     go_wp2_with fail
     refine (say_any c 6 p k _ HL.out).mono ?_
     rintro e w1 ⟨rfl,l1,b1⟩
     have L1:Hid (_∧_):=⟨l1,b1⟩
     clear l1 b1
     go_wp2_with fail
     go_end0
     rw[e1.out,e4.out,g1,g2,g3]
     exact ⟨rfl,L1.out⟩
open Go.RowKit
theorem LkAt.cells {w:World} {c:Nat} {k:Px.Lk} (h:LkAt w c k):∃ va vn vc,w.cell? ⟨c,0,none⟩=some (.slice va vn vc)∧w.ownsRow (c+1) 309 2 (.slice va vn vc) k.vars.length (varCells k.vars)∧c < w.heap.size:=by
 obtain ⟨va,vn,vc,h1,h2⟩:=h.ex
 obtain ⟨c0,_⟩:=cells3 h1
 exact ⟨va,vn,vc,c0,h2,lt_of_cell c0⟩
theorem LkAt.drew {w:World} {c:Nat} {k:Px.Lk} (h:LkAt w c k):LkAt w.drew c k:=by
 obtain ⟨va,vn,vc,h1,h2⟩:=h.ex
 exact ⟨va,vn,vc,h1,h2.1,h2.2⟩
theorem LkAt.drewN {w:World} {c:Nat} {k:Px.Lk} (n:Nat) (h:LkAt w c k):LkAt (w.drewN n) c k:=by
 obtain ⟨va,vn,vc,h1,h2⟩:=h.ex
 exact ⟨va,vn,vc,h1,h2.1,h2.2⟩
def KindOk (c:Nat) (x:Px.Ex):Prop:=∀ (k:Px.Lk) (w:World) (ok:Nat→Prop) (q:Nat),ExAt w x ok q→(∀ i,ok i→i < c)→LkAt w c k →
 Calls Tryz.prog 134 #[.pointer (some ⟨c,0,none⟩),.pointer (some ⟨q,0,none⟩)] w fun e w'=>e=.returned (.int .u8 ((Px.kindE x k).1:Int))∧LkAt w' c (Px.kindE x k).2∧Below c w w'
theorem find_same (l:List (ByteArray×Nat)) (x:ByteArray) (w:World) (base:Nat) (va:Option Addr) (vn vc:Nat) (h:w.ownsRow base 309 2 (.slice va vn vc) l.length (varCells l)) :
  Calls Tryz.prog 149 #[.slice va vn vc,.string x] w fun e w'=>e=.returned (.int .i64 (findI l x))∧w'=w :=
 (find_any l x w base va vn vc h).mono fun _ _ h=>⟨h.1,h.2.symm⟩
theorem below_dN (c:Nat) (w:World) (n:Nat):Below c w (w.drewN n):=⟨rfl,rfl,rfl,Nat.le_refl _,fun _ _=>rfl⟩
theorem kind_leaf (c:Nat) (op n:Nat) (word:ByteArray) (pl own:Nat) (hop:op=110∨op=116):KindOk c ⟨op,n,word,pl,own,none,none⟩:=by
 intro k w ok q hx hok hl
 obtain ⟨hq,v,hv⟩:=hx.root
 obtain ⟨c0,c1,c2,c3,c4,c5,f⟩:=cells6 hv
 have HL:Hid (LkAt w c k):=hl
 clear hx hl hv
 rcases hop with rfl | rfl
 ·go_enter Tryz.func134,Tryz.ntmps134
  go_wp2_with fail
  go_ret
  exact ⟨rfl,HL.out,Below.refl _ _⟩
 ·go_enter Tryz.func134,Tryz.ntmps134
  go_wp2_with fail
  go_ret
  exact ⟨rfl,HL.out,Below.refl _ _⟩
theorem kind_word (c:Nat) (n:Nat) (word:ByteArray) (pl own:Nat):KindOk c ⟨119,n,word,pl,own,none,none⟩:=by
 intro k w ok q hx hok hl
 obtain ⟨hq,v,hv⟩:=hx.root
 obtain ⟨c0,c1,c2,c3,c4,c5,f⟩:=cells6 hv
 obtain ⟨va,vn,vc,l0,hown,hcz⟩:=hl.cells
 have HL:Hid (LkAt w c k∧_):=⟨hl,hown⟩
 clear hx hl hv
 obtain ⟨rfl,_⟩:=vars_len hown
 clear hown
 cases hf:Px.findV k.vars word with
 | none =>
  have e2:Hid (findI k.vars word=-1):=by unfold Hid findI;rw[hf]
  have e1:Hid (Px.kindE ⟨119,n,word,pl,own,none,none⟩ k=(63,Px.say 5 own k)):=by unfold Hid;simp[Px.kindE,Px.leafK,hf]
  clear hf
  go_enter Tryz.func134,Tryz.ntmps134
  go_wp2_with fail
  go_quiet ((go_at_call 149;exact Calls.quiet_of_same (find_same k.vars word _ (c+1) _ _ _ HL.out.2)))
  rw[e2.out]
  go_wp2_with fail
  refine (say_any c 5 own k _ (HL.out.1.drewN nq)).mono ?_
  rintro e w1 ⟨rfl,l1,b1⟩
  have L1:Hid (_∧_):=⟨l1,b1⟩
  clear l1 b1
  go_wp2_with fail
  go_ret
  rw[e1.out]
  exact ⟨rfl,L1.out.1,(below_dN _ _ _).trans L1.out.2⟩
 | some i =>
  have hlt:=findV_lt hf
  obtain ⟨g,rfl,hg,_,hc,hc'⟩:=vars_cell HL.out.2 i hlt
  have e2:Hid (findI k.vars word=(i:Int)):=by unfold Hid findI;rw[hf]
  have e1:Hid (Px.kindE ⟨119,n,word,pl,own,none,none⟩ k=(k.vars[i].2,k)):=by unfold Hid;simp[Px.kindE,Px.leafK,hf,Px.kindAt,hlt]
  clear hf
  go_enter Tryz.func134,Tryz.ntmps134
  go_wp2_with fail
  go_quiet ((go_at_call 149;exact Calls.quiet_of_same (find_same k.vars word _ (c+1) _ _ _ HL.out.2)))
  rw[e2.out]
  go_wp2_with fail
  go_ret
  rw[e1.out]
  exact ⟨rfl,HL.out.1.drewN nq,below_dN _ _ _⟩
theorem kind_not (c:Nat) (n:Nat) (word:ByteArray) (pl own:Nat) (l:Px.Ex) (ih:KindOk c l):KindOk c ⟨33,n,word,pl,own,some l,none⟩:=by
 intro k w ok q hx hok hl
 obtain ⟨hq,kb,lq,hkb,hne,hv,hkc,hxl⟩:=hx
 obtain ⟨c0,c1,c2,c3,c4,c5,f⟩:=cells6 hv
 have k0:w.cell? ⟨kb,0,none⟩=some (.pointer (some ⟨lq,0,none⟩)):=by simp[World.cell?,hkc]
 have hqc:=hok q hq
 have HL:Hid (LkAt w c k∧_∧_):=⟨hl,hxl,hv⟩
 have HK:Hid (∀ i,(ok i∧i≠q∧i≠kb)→i < c):=fun i hi=>hok i hi.1
 have e1:Hid (Px.kindE ⟨33,n,word,pl,own,some l,none⟩ k=Px.notK own (Px.kindE l k)):=rfl
 clear hl hv hkc hxl hok
 generalize hr:Px.kindE l k=r at e1
 have HR:Hid (Px.kindE l k=r):=hr
 clear hr
 cases hi:Px.isK r.1 98
 all_goals
  go_enter Tryz.func134,Tryz.ntmps134
  go_wp2_with fail
  refine (ih k _ _ lq HL.out.2.1 HK.out HL.out.1).mono ?_
  rw[HR.out]
  rintro e w1 ⟨rfl,l1,b1⟩
  have hv1:w1.heap[q]?=_:=(b1.block q hqc).trans HL.out.2.2
  obtain ⟨d0,d1,d2,d3,d4,d5,df⟩:=cells6 hv1
  have L1:Hid (_∧_):=⟨l1,b1⟩
  clear l1 b1 hv1
  go_wp2_with fail
  refine (is_any r.1 98 _).mono ?_
  rintro e w' ⟨rfl,rfl⟩
  go_wp2_with fail
 ·refine (say_any c 6 own r.2 _ L1.out.1).mono ?_
  rintro e w2 ⟨rfl,l2,b2⟩
  have L2:Hid (_∧_):=⟨l2,b2⟩
  clear l2 b2
  go_wp2_with fail
  go_ret
  rw[e1.out,Px.notK,hi]
  exact ⟨rfl,L2.out.1,L1.out.2.trans L2.out.2⟩
 ·go_ret
  rw[e1.out,Px.notK,hi]
  exact ⟨rfl,L1.out.1,L1.out.2⟩
open Go.RowKit
set_option maxRecDepth 100000 in
set_option maxHeartbeats 2000000 in
theorem kind_eqn (c op:Nat) (hop:op=61∨op=35) (n:Nat) (word:ByteArray) (pl own:Nat) (l r:Px.Ex) (ihl:KindOk c l) (ihr:KindOk c r):KindOk c ⟨op,n,word,pl,own,some l,some r⟩:=by
 intro k w ok q hx hok hl
 obtain ⟨hq,kb,lq,rq,hkb,hne,hv,hkc,hxl,hxr⟩:=hx
 obtain ⟨c0,c1,c2,c3,c4,c5,f⟩:=cells6 hv
 have k0:w.cell? ⟨kb,0,none⟩=some (.pointer (some ⟨lq,0,none⟩)):=by simp[World.cell?,hkc]
 have hqc:=hok q hq
 have hkbc:=hok kb hkb
 have HL:Hid (LkAt w c k∧(ExAt w l _ lq∧ExAt w r _ rq)∧_∧_):=⟨hl,⟨hxl,hxr⟩,hv,hkc⟩
 have HK:Hid (∀ i,(ok i∧i≠q∧i≠kb)→i < c):=fun i hi=>hok i hi.1
 have e1:Hid (Px.kindE ⟨op,n,word,pl,own,some l,some r⟩ k=Px.binK op own (Px.kindE l k).1 (Px.kindE r (Px.kindE l k).2)):=rfl
 clear hl hv hkc hxl hxr hok
 generalize hr1:Px.kindE l k=ra at e1
 have HR1:Hid (Px.kindE l k=ra):=hr1
 clear hr1
 generalize hr2:Px.kindE r ra.2=rb at e1
 have HR2:Hid (Px.kindE r ra.2=rb):=hr2
 clear hr2
 have e2:Hid (Px.binK op own ra.1 rb=(98,if Px.unlike ra.1 rb.1 then Px.say 6 own rb.2 else rb.2)):=by unfold Hid Px.binK;rw[if_pos hop]
 have e4:Hid (Px.unlike ra.1 rb.1=(((ra.1:Int) != rb.1) && ((ra.1:Int) != 63) && ((rb.1:Int) != 63))):=by
  unfold Hid Px.unlike;rw[Bool.eq_iff_iff];simp;omega
 have o1:((op:Int) == 110)=false:=by rw[beq_eq_false_iff_ne];omega
 have o2:((op:Int) == 116)=false:=by rw[beq_eq_false_iff_ne];omega
 have o3:((op:Int) == 119)=false:=by rw[beq_eq_false_iff_ne];omega
 have o4:((op:Int) == 33)=false:=by rw[beq_eq_false_iff_ne];omega
 have OR:Hid (op=61∨op=35):=hop
 clear hop
 go_enter Tryz.func134,Tryz.ntmps134
 go_wp2_with fail
 refine (ihl k _ _ lq HL.out.2.1.1 HK.out HL.out.1).mono ?_
 rw[HR1.out]
 rintro e w1 ⟨rfl,l1,b1⟩
 have hv1:w1.heap[q]?=_:=(b1.block q hqc).trans HL.out.2.2.1
 have hk1:w1.heap[kb]?=_:=(b1.block kb hkbc).trans HL.out.2.2.2
 have hx1:ExAt w1 r _ rq:=HL.out.2.1.2.keep fun i hi=>b1.block i (HK.out i hi)
 obtain ⟨d0,d1,d2,d3,d4,d5,df⟩:=cells6 hv1
 have kk1:w1.cell? ⟨kb,1,none⟩=some (.pointer (some ⟨rq,0,none⟩)):=by simp[World.cell?,hk1]
 have L1:Hid (LkAt w1 c ra.2∧Below c w w1∧ExAt w1 r _ rq∧_):=⟨l1,b1,hx1,hv1⟩
 clear l1 b1 hv1 hk1 hx1 c0 c1 c2 c3 c4 c5 f
 go_wp2_with fail
 refine (ihr ra.2 _ _ rq L1.out.2.2.1 HK.out L1.out.1).mono ?_
 rw[HR2.out]
 rintro e w2 ⟨rfl,l2,b2⟩
 have hv2:w2.heap[q]?=_:=(b2.block q hqc).trans L1.out.2.2.2
 obtain ⟨f0,f1,f2,f3,f4,f5,ff⟩:=cells6 hv2
 have L2:Hid (LkAt w2 c rb.2∧Below c w1 w2):=⟨l2,b2⟩
 clear l2 b2 hv2 d0 d1 d2 d3 d4 d5 df
 have fin1:∀ e w3,e=Ending.returned (.int .u8 98)→LkAt w3 c (if Px.unlike ra.1 rb.1 then Px.say 6 own rb.2 else rb.2)→Below c w2 w3→e=.returned (.int .u8 ((Px.kindE ⟨op,n,word,pl,own,some l,some r⟩ k).1:Int))∧LkAt w3 c (Px.kindE ⟨op,n,word,pl,own,some l,some r⟩ k).2∧Below c w w3:=by
  intro e w3 he hl3 hb3
  rw[e1.out,e2.out]
  exact ⟨he,hl3,(L1.out.2.1.trans L2.out.2).trans hb3⟩
 have FIN:Hid (_):=fin1
 clear fin1
 cases g1:((ra.1:Int) != rb.1)
 ·rcases OR.out with ho | ho
  ·have o5:((op:Int) == 61)=true:=by rw[ho];rfl
   go_wp2_with fail
   go_ret
   exact FIN.out _ _ rfl (by rw[e4.out,g1];exact L2.out.1) (Below.refl _ _)
  ·have o5:((op:Int) == 61)=false:=by rw[ho];rfl
   have o6:((op:Int) == 35)=true:=by rw[ho];rfl
   go_wp2_with fail
   go_ret
   exact FIN.out _ _ rfl (by rw[e4.out,g1];exact L2.out.1) (Below.refl _ _)
 ·cases g2:((ra.1:Int) != 63)
  ·rcases OR.out with ho | ho
   ·have o5:((op:Int) == 61)=true:=by rw[ho];rfl
    go_wp2_with fail
    go_ret
    exact FIN.out _ _ rfl (by rw[e4.out,g1,g2];exact L2.out.1) (Below.refl _ _)
   ·have o5:((op:Int) == 61)=false:=by rw[ho];rfl
    have o6:((op:Int) == 35)=true:=by rw[ho];rfl
    go_wp2_with fail
    go_ret
    exact FIN.out _ _ rfl (by rw[e4.out,g1,g2];exact L2.out.1) (Below.refl _ _)
  ·cases g3:((rb.1:Int) != 63)
   ·rcases OR.out with ho | ho
    ·have o5:((op:Int) == 61)=true:=by rw[ho];rfl
     go_wp2_with fail
     go_ret
     exact FIN.out _ _ rfl (by rw[e4.out,g1,g2,g3];exact L2.out.1) (Below.refl _ _)
    ·have o5:((op:Int) == 61)=false:=by rw[ho];rfl
     have o6:((op:Int) == 35)=true:=by rw[ho];rfl
     go_wp2_with fail
     go_ret
     exact FIN.out _ _ rfl (by rw[e4.out,g1,g2,g3];exact L2.out.1) (Below.refl _ _)
   ·rcases OR.out with ho | ho
    ·have o5:((op:Int) == 61)=true:=by rw[ho];rfl
     go_wp2_with fail
     refine (say_any c 6 own rb.2 _ L2.out.1).mono ?_
     rintro e w3 ⟨rfl,l3,b3⟩
     have L3:Hid (_∧_):=⟨l3,b3⟩
     clear l3 b3
     go_wp2_with fail
     go_ret
     exact FIN.out _ _ rfl (by rw[e4.out,g1,g2,g3];exact L3.out.1) L3.out.2
    ·have o5:((op:Int) == 61)=false:=by rw[ho];rfl
     have o6:((op:Int) == 35)=true:=by rw[ho];rfl
     go_wp2_with fail
     refine (say_any c 6 own rb.2 _ L2.out.1).mono ?_
     rintro e w3 ⟨rfl,l3,b3⟩
     have L3:Hid (_∧_):=⟨l3,b3⟩
     clear l3 b3
     go_wp2_with fail
     go_ret
     exact FIN.out _ _ rfl (by rw[e4.out,g1,g2,g3];exact L3.out.1) L3.out.2
set_option maxRecDepth 100000 in
set_option maxHeartbeats 2000000 in
theorem kind_ari (c op:Nat) (hop:op=42∨op=47∨op=43∨op=45∨op=60) (n:Nat) (word:ByteArray) (pl own:Nat) (l r:Px.Ex) (ihl:KindOk c l) (ihr:KindOk c r):KindOk c ⟨op,n,word,pl,own,some l,some r⟩:=by
 intro k w ok q hx hok hl
 obtain ⟨hq,kb,lq,rq,hkb,hne,hv,hkc,hxl,hxr⟩:=hx
 obtain ⟨c0,c1,c2,c3,c4,c5,f⟩:=cells6 hv
 have k0:w.cell? ⟨kb,0,none⟩=some (.pointer (some ⟨lq,0,none⟩)):=by simp[World.cell?,hkc]
 have hqc:=hok q hq
 have hkbc:=hok kb hkb
 have HL:Hid (LkAt w c k∧(ExAt w l _ lq∧ExAt w r _ rq)∧_∧_):=⟨hl,⟨hxl,hxr⟩,hv,hkc⟩
 have HK:Hid (∀ i,(ok i∧i≠q∧i≠kb)→i < c):=fun i hi=>hok i hi.1
 have e1:Hid (Px.kindE ⟨op,n,word,pl,own,some l,some r⟩ k=Px.binK op own (Px.kindE l k).1 (Px.kindE r (Px.kindE l k).2)):=rfl
 clear hl hv hkc hxl hxr hok
 generalize hr1:Px.kindE l k=ra at e1
 have HR1:Hid (Px.kindE l k=ra):=hr1
 clear hr1
 generalize hr2:Px.kindE r ra.2=rb at e1
 have HR2:Hid (Px.kindE r ra.2=rb):=hr2
 clear hr2
 have e2:Hid (Px.binK op own ra.1 rb=(if op=60 then 98 else 105,if Px.isK ra.1 105 && Px.isK rb.1 105 then rb.2 else Px.say 6 own rb.2)):=by unfold Hid Px.binK;rw[if_neg (by omega)]
 have o1:((op:Int) == 110)=false:=by rw[beq_eq_false_iff_ne];omega
 have o2:((op:Int) == 116)=false:=by rw[beq_eq_false_iff_ne];omega
 have o3:((op:Int) == 119)=false:=by rw[beq_eq_false_iff_ne];omega
 have o4:((op:Int) == 33)=false:=by rw[beq_eq_false_iff_ne];omega
 have o5:((op:Int) == 61)=false:=by rw[beq_eq_false_iff_ne];omega
 have o6:((op:Int) == 35)=false:=by rw[beq_eq_false_iff_ne];omega
 clear hop
 go_enter Tryz.func134,Tryz.ntmps134
 go_wp2_with fail
 refine (ihl k _ _ lq HL.out.2.1.1 HK.out HL.out.1).mono ?_
 rw[HR1.out]
 rintro e w1 ⟨rfl,l1,b1⟩
 have hv1:w1.heap[q]?=_:=(b1.block q hqc).trans HL.out.2.2.1
 have hk1:w1.heap[kb]?=_:=(b1.block kb hkbc).trans HL.out.2.2.2
 have hx1:ExAt w1 r _ rq:=HL.out.2.1.2.keep fun i hi=>b1.block i (HK.out i hi)
 obtain ⟨d0,d1,d2,d3,d4,d5,df⟩:=cells6 hv1
 have kk1:w1.cell? ⟨kb,1,none⟩=some (.pointer (some ⟨rq,0,none⟩)):=by simp[World.cell?,hk1]
 have L1:Hid (LkAt w1 c ra.2∧Below c w w1∧ExAt w1 r _ rq∧_):=⟨l1,b1,hx1,hv1⟩
 clear l1 b1 hv1 hk1 hx1 c0 c1 c2 c3 c4 c5 f
 go_wp2_with fail
 refine (ihr ra.2 _ _ rq L1.out.2.2.1 HK.out L1.out.1).mono ?_
 rw[HR2.out]
 rintro e w2 ⟨rfl,l2,b2⟩
 have hv2:w2.heap[q]?=_:=(b2.block q hqc).trans L1.out.2.2.2
 obtain ⟨f0,f1,f2,f3,f4,f5,ff⟩:=cells6 hv2
 have L2:Hid (LkAt w2 c rb.2∧Below c w1 w2∧_):=⟨l2,b2,hv2⟩
 clear l2 b2 hv2 d0 d1 d2 d3 d4 d5 df
 have fin1:∀ (e:Ending) (w3:World) (z:Nat),e=Ending.returned (.int .u8 (z:Int))→z=(if op=60 then 98 else 105)→LkAt w3 c (if Px.isK ra.1 105 && Px.isK rb.1 105 then rb.2 else Px.say 6 own rb.2)→Below c w2 w3→e=.returned (.int .u8 ((Px.kindE ⟨op,n,word,pl,own,some l,some r⟩ k).1:Int))∧LkAt w3 c (Px.kindE ⟨op,n,word,pl,own,some l,some r⟩ k).2∧Below c w w3:=by
  intro e w3 z he hz hl3 hb3
  rw[e1.out,e2.out]
  subst hz
  exact ⟨he,hl3,(L1.out.2.1.trans L2.out.2.1).trans hb3⟩
 have FIN:Hid (_):=fin1
 clear fin1
 cases g1:Px.isK ra.1 105
 ·by_cases ho:op=60
  ·have o7:((op:Int) == 60)=true:=by rw[ho];rfl
   have HO:Hid (op=60):=ho
   clear ho
   go_wp2_with (first | (go_at_call 136;refine (is_any _ 105 _).mono ?_;rintro e w' ⟨rfl,rfl⟩))
   refine (say_any c 6 own rb.2 _ L2.out.1).mono ?_
   rintro e w3 ⟨rfl,l3,b3⟩
   have hv3:w3.heap[q]?=_:=(b3.block q hqc).trans L2.out.2.2
   obtain ⟨x0,x1,x2,x3,x4,x5,xf⟩:=cells6 hv3
   have L3:Hid (_∧_):=⟨l3,b3⟩
   clear l3 b3 hv3
   go_wp2_with fail
   go_ret
   exact FIN.out _ _ 98 rfl (by rw[if_pos HO.out]) (by rw[g1];exact L3.out.1) L3.out.2
  ·have o7:((op:Int) == 60)=false:=by rw[beq_eq_false_iff_ne];omega
   have HO:Hid (¬ op=60):=ho
   clear ho
   go_wp2_with (first | (go_at_call 136;refine (is_any _ 105 _).mono ?_;rintro e w' ⟨rfl,rfl⟩))
   refine (say_any c 6 own rb.2 _ L2.out.1).mono ?_
   rintro e w3 ⟨rfl,l3,b3⟩
   have hv3:w3.heap[q]?=_:=(b3.block q hqc).trans L2.out.2.2
   obtain ⟨x0,x1,x2,x3,x4,x5,xf⟩:=cells6 hv3
   have L3:Hid (_∧_):=⟨l3,b3⟩
   clear l3 b3 hv3
   go_wp2_with fail
   go_ret
   exact FIN.out _ _ 105 rfl (by rw[if_neg HO.out]) (by rw[g1];exact L3.out.1) L3.out.2
 ·cases g2:Px.isK rb.1 105
  ·by_cases ho:op=60
   ·have o7:((op:Int) == 60)=true:=by rw[ho];rfl
    have HO:Hid (op=60):=ho
    clear ho
    go_wp2_with (first | (go_at_call 136;refine (is_any _ 105 _).mono ?_;rintro e w' ⟨rfl,rfl⟩))
    refine (say_any c 6 own rb.2 _ L2.out.1).mono ?_
    rintro e w3 ⟨rfl,l3,b3⟩
    have hv3:w3.heap[q]?=_:=(b3.block q hqc).trans L2.out.2.2
    obtain ⟨x0,x1,x2,x3,x4,x5,xf⟩:=cells6 hv3
    have L3:Hid (_∧_):=⟨l3,b3⟩
    clear l3 b3 hv3
    go_wp2_with fail
    go_ret
    exact FIN.out _ _ 98 rfl (by rw[if_pos HO.out]) (by rw[g1,g2];exact L3.out.1) L3.out.2
   ·have o7:((op:Int) == 60)=false:=by rw[beq_eq_false_iff_ne];omega
    have HO:Hid (¬ op=60):=ho
    clear ho
    go_wp2_with (first | (go_at_call 136;refine (is_any _ 105 _).mono ?_;rintro e w' ⟨rfl,rfl⟩))
    refine (say_any c 6 own rb.2 _ L2.out.1).mono ?_
    rintro e w3 ⟨rfl,l3,b3⟩
    have hv3:w3.heap[q]?=_:=(b3.block q hqc).trans L2.out.2.2
    obtain ⟨x0,x1,x2,x3,x4,x5,xf⟩:=cells6 hv3
    have L3:Hid (_∧_):=⟨l3,b3⟩
    clear l3 b3 hv3
    go_wp2_with fail
    go_ret
    exact FIN.out _ _ 105 rfl (by rw[if_neg HO.out]) (by rw[g1,g2];exact L3.out.1) L3.out.2
  ·by_cases ho:op=60
   ·have o7:((op:Int) == 60)=true:=by rw[ho];rfl
    have HO:Hid (op=60):=ho
    clear ho
    go_wp2_with (first | (go_at_call 136;refine (is_any _ 105 _).mono ?_;rintro e w' ⟨rfl,rfl⟩))
    go_ret
    exact FIN.out _ _ 98 rfl (by rw[if_pos HO.out]) (by rw[g1,g2];exact L2.out.1) (Below.refl _ _)
   ·have o7:((op:Int) == 60)=false:=by rw[beq_eq_false_iff_ne];omega
    have HO:Hid (¬ op=60):=ho
    clear ho
    go_wp2_with (first | (go_at_call 136;refine (is_any _ 105 _).mono ?_;rintro e w' ⟨rfl,rfl⟩))
    go_ret
    exact FIN.out _ _ 105 rfl (by rw[if_neg HO.out]) (by rw[g1,g2];exact L2.out.1) (Below.refl _ _)
theorem kind_ok (c:Nat) (x:Px.Ex) (h:Px.WfE x):KindOk c x:=by
 match x,h with
 | ⟨op,n,word,pl,own,none,none⟩,h =>
  by_cases h1:op=119
  ·subst h1;exact kind_word c n word pl own
  ·have h':op=110∨op=116∨op=119:=h
   exact kind_leaf c op n word pl own (by omega)
 | ⟨op,n,word,pl,own,some l,none⟩,h =>
  obtain ⟨h1,h2⟩:=(show op=33∧Px.WfE l from h)
  subst h1
  exact kind_not c n word pl own l (kind_ok c l h2)
 | ⟨op,n,word,pl,own,some l,some r⟩,h =>
  obtain ⟨h1,h2,h3⟩:=(show (op=42∨op=47∨op=43∨op=45∨op=60∨op=61∨op=35)∧Px.WfE l∧Px.WfE r from h)
  by_cases h4:op=61∨op=35
  ·exact kind_eqn c op h4 n word pl own l r (kind_ok c l h2) (kind_ok c r h3)
  ·exact kind_ari c op (by omega) n word pl own l r (kind_ok c l h2) (kind_ok c r h3)
open Go.RowKit
theorem SmsAt.get {w:World} {l:List Px.Sm} {ok:Nat→Prop} {qs:List Nat} (h:SmsAt w l ok qs) (k:Nat) (hk:k < l.length):∃ q,qs[k]?=some q∧SmAt w l[k] ok q:=by
 induction l generalizing qs k with
 | nil=>simp at hk
 | cons x l ih =>
  obtain ⟨q,qs',rfl,h1,h2⟩:=h.uncons
  cases k with
  | zero=>exact ⟨q,rfl,h1⟩
  | succ k =>
   obtain ⟨q',g1,g2⟩:=ih h2 k (by simpa using hk)
   exact ⟨q',g1,g2⟩
theorem SlAt.cell {w:World} {v:Value} {qs:List Nat} {ok:Nat→Prop} (h:SlAt w v qs ok) {k q:Nat} (hk:qs[k]?=some q):∃ g cap,v=.slice (some ⟨g,0,none⟩) qs.length cap∧ok g∧w.cell? ⟨g,k,none⟩=some (.pointer (some ⟨q,0,none⟩)):=by
 rcases h with ⟨h1,h2⟩ | ⟨g,cap,cur,h1,h2,h3,h4,h5,h6,h7⟩
 ·subst h2;simp at hk
 ·refine ⟨g,cap,h1,h2,?_⟩
  have hl:k < qs.length:=(List.getElem?_eq_some_iff.1 hk).1
  have e1:cur[k]?=(qs.map ptr)[k]?:=by
   rw[← h7,List.getElem?_take_of_lt hl];simp
  simp only[World.cell?,h3]
  rw[e1]
  simp[hk,ptr]
theorem SlAt.len {w:World} {v:Value} {qs:List Nat} {ok:Nat→Prop} (h:SlAt w v qs ok):∃ a c,v=.slice a qs.length c∧qs.length≤maxLen:=by
 rcases h with ⟨h1,h2⟩ | ⟨g,cap,cur,h1,h2,h3,h4,h5,h6,h7⟩
 ·subst h2;exact ⟨none,0,h1,by simp⟩
 ·exact ⟨_,cap,h1,by omega⟩
def LookOk (c:Nat) (x:Px.Sm):Prop:=∀ (k:Px.Lk) (w:World) (ok:Nat→Prop) (q:Nat),SmAt w x ok q→(∀ i,ok i→i < c)→LkAt w c k→Px.WfH x→Px.WfS x.one→Px.WfS x.two→k.vars.length+1+Px.cnt x.one+Px.cnt x.two≤1000000 →
 Calls Tryz.prog 69 #[.pointer (some ⟨c,0,none⟩),.pointer (some ⟨q,0,none⟩)] w fun e w'=>e=.returned (.tuple #[])∧LkAt w' c (Px.lookX x k)∧Below c w w'
def LooksOk (c:Nat) (l:List Px.Sm):Prop:=∀ (k:Px.Lk) (w:World) (ok:Nat→Prop) (v:Value) (qs:List Nat),SlAt w v qs ok→SmsAt w l ok qs→(∀ i,ok i→i < c)→LkAt w c k→Px.WfS l→k.vars.length+Px.cnt l≤1000000 →
 Calls Tryz.prog 42 #[.pointer (some ⟨c,0,none⟩),v] w fun e w'=>e=.returned (.tuple #[])∧LkAt w' c (Px.lookS l k)∧Below c w w'
theorem WfS_get {l:List Px.Sm} (h:Px.WfS l) (k:Nat) (hk:k < l.length):Px.WfH l[k]∧Px.WfS l[k].one∧Px.WfS l[k].two:=by
 induction l generalizing k with
 | nil=>simp at hk
 | cons x l ih =>
  obtain ⟨h1,h2,h3,h4⟩:=Px.WfS_cons.1 h
  cases k with
  | zero=>exact ⟨h1,h2,h3⟩
  | succ k=>exact ih h4 k (by simpa using hk)
theorem looks_ok (c:Nat) (l:List Px.Sm) (hx:∀ i (hi:i < l.length),LookOk c l[i]):LooksOk c l:=by
 intro k w ok v qs hs hm hok hl hw hc
 obtain ⟨va,vc,rfl,hml⟩:=hs.len
 unfold maxLen at hml
 have hlen:=hm.len
 have H:Hid (SlAt w (.slice va qs.length vc) qs ok∧SmsAt w l ok qs∧(∀ i,ok i→i < c)∧LkAt w c k∧Px.WfS l):=⟨hs,hm,hok,hl,hw⟩
 have HX:Hid (∀ i (hi:i < l.length),LookOk c l[i]):=hx
 have HLen:Hid (qs.length=l.length):=hlen
 clear hs hm hok hl hw hx hlen
 go_enter Tryz.func42,Tryz.ntmps42
 go_wp2_with fail
 go_loopw [4] (fun i wr=>∃ n:Nat,n≤qs.length∧i=.int .i64 n∧Hid (Below c w wr∧∃ k',LkAt wr c k'∧Px.lookS (l.drop n) k'=Px.lookS l k∧k'.vars.length+Px.cnt (l.drop n)≤1000000)) (fun i _=>qs.length - (intOf i).toNat)
 case atStart=>exact ⟨0,by omega,rfl,Below.refl _ _,k,H.out.2.2.2.1,rfl,hc⟩
 case round =>
  obtain ⟨n,hn,rfl,hr⟩:=hrel
  obtain ⟨hb,k',hk',he,hv⟩:=hr.out
  clear hr
  by_cases hlt:n < qs.length
  ·have hnl:n < l.length:=by have:=HLen.out;omega
   obtain ⟨q,hq1,hq2⟩:=H.out.2.1.get n hnl
   obtain ⟨g,cap,hgv,hg,hcell⟩:=H.out.1.cell hq1
   cases hgv
   have hcr:wr.cell? ⟨g,n,none⟩=some (.pointer (some ⟨q,0,none⟩)):=by rw[hb.cell (p:=⟨g,n,none⟩) (H.out.2.2.1 g hg)];exact hcell
   have hq3:SmAt wr l[n] ok q:=hq2.keep fun i hi=>hb.block i (H.out.2.2.1 i hi)
   have hdrop:l.drop n=l[n]::l.drop (n+1):=List.drop_eq_getElem_cons hnl
   rw[hdrop,Px.lookS_cons] at he
   rw[hdrop,Px.cnt_cons] at hv
   have HH:Hid (Below c w wr∧LkAt wr c k'∧Px.lookS (l.drop (n+1)) (Px.lookX l[n] k')=Px.lookS l k∧SmAt wr l[n] ok q∧k'.vars.length+(1+Px.cnt l[n].one+Px.cnt l[n].two+Px.cnt (l.drop (n+1)))≤1000000):=⟨hb,hk',he,hq3,hv⟩
   clear hb hk' he hq3 hcell hq2 hdrop hv
   go_wp2_with fail
   refine (HX.out n hnl k' _ ok q HH.out.2.2.2.1 H.out.2.2.1 HH.out.2.1 (WfS_get H.out.2.2.2.2 n hnl).1 (WfS_get H.out.2.2.2.2 n hnl).2.1 (WfS_get H.out.2.2.2.2 n hnl).2.2 ?hcnt).mono ?_
   case hcnt=>have:=HH.out.2.2.2.2;omega
   rintro e w1 ⟨rfl,l1,b1⟩
   have L1:Hid (_∧_):=⟨l1,b1⟩
   clear l1 b1
   go_wp2_with fail
   refine ⟨⟨n+1,by omega,by go_num,HH.out.1.trans L1.out.2,Px.lookX l[n] k',L1.out.1,HH.out.2.2.1,?_⟩,by simp[intOf];omega⟩
   have hvx:=Px.lookS_vars [l[n]] k'
   rw[Px.lookS_cons,Px.lookS_nil,Px.cnt_cons,Px.cnt_nil] at hvx
   have:=HH.out.2.2.2.2
   omega
  ·have hnl:l.drop n=[]:=List.drop_of_length_le (by have:=HLen.out;omega)
   rw[hnl,Px.lookS_nil] at he
   have HH:Hid (Below c w wr∧LkAt wr c (Px.lookS l k)):=⟨hb,by rw[← he];exact hk'⟩
   clear hb hk' he hnl hv
   go_wp2_with fail
   go_end0
   exact ⟨rfl,HH.out.2,HH.out.1⟩
open Go.RowKit
theorem look_fail (c:Nat) (x:Px.Sm) (hop:x.op=102):LookOk c x:=by
 intro k w ok q hx hok hl hw h1 h2 hc
 obtain ⟨hq,ve,v1,v2,q1,q2,hv,_⟩:=hx
 obtain ⟨d0,d1,d2,d3,d4,d5,d6,d7,d8,d9,d10,df⟩:=cells11 hv
 rw[hop] at d0
 have HL:Hid (LkAt w c k):=hl
 have e1:Hid (Px.lookX x k=k):=by unfold Hid Px.lookX;simp[hop]
 clear hl hv hok hw h1 h2
 go_enter Tryz.func69,Tryz.ntmps69
 go_wp2_with fail
 go_end0
 rw[e1.out]
 exact ⟨rfl,HL.out,Below.refl _ _⟩
theorem look_try (c:Nat) (x:Px.Sm) (hop:x.op=116) (i1:LooksOk c x.one) (i2:LooksOk c x.two):LookOk c x:=by
 intro k w ok q hx hok hl hw h1 h2 hc
 obtain ⟨hq,ve,v1,v2,q1,q2,hv,e3,e4,e5,e6,e7⟩:=hx
 obtain ⟨d0,d1,d2,d3,d4,d5,d6,d7,d8,d9,d10,df⟩:=cells11 hv
 rw[hop] at d0
 have hqc:=hok q hq
 have HL:Hid (LkAt w c k∧(∀ i,ok i→i < c)∧(SlAt w v1 q1 ok∧SmsAt w x.one ok q1)∧(SlAt w v2 q2 ok∧SmsAt w x.two ok q2)∧Px.WfS x.one∧Px.WfS x.two∧w.heap[q]?=some (.cells (smCells x ve v1 v2) 181)):=⟨hl,hok,⟨e4,e5⟩,⟨e6,e7⟩,h1,h2,hv⟩
 have hv1:=Px.lookS_vars x.one k
 have eX:Hid (Px.lookX x k=Px.lookS x.two (Px.lookS x.one k)):=by unfold Hid Px.lookX;simp[hop]
 clear hl hv hok hw h1 h2 e3 e4 e5 e6 e7
 obtain ⟨a1,n1,c1,rfl⟩:∃ a n c,v1=.slice a n c:=by obtain ⟨a,c',h,_⟩:=HL.out.2.2.1.1.len;exact ⟨_,_,_,h⟩
 obtain ⟨a2,n2,c2,rfl⟩:∃ a n c,v2=.slice a n c:=by obtain ⟨a,c',h,_⟩:=HL.out.2.2.2.1.1.len;exact ⟨_,_,_,h⟩
 go_enter Tryz.func69,Tryz.ntmps69
 go_wp2_with fail
 refine (i1 k _ ok _ q1 HL.out.2.2.1.1 HL.out.2.2.1.2 HL.out.2.1 HL.out.1 HL.out.2.2.2.2.1 (by omega)).mono ?_
 rintro e w1 ⟨rfl,l1,b1⟩
 have hh1:w1.heap[q]?=_:=(b1.block q hqc).trans HL.out.2.2.2.2.2.2
 obtain ⟨f0,f1,f2,f3,f4,f5,f6,f7,f8,f9,f10,ff⟩:=cells11 hh1
 have hk:∀ i,ok i→w1.heap[i]?=w.heap[i]?:=fun i hi=>b1.block i (HL.out.2.1 i hi)
 have L1:Hid (LkAt w1 c (Px.lookS x.one k)∧Below c w w1∧SlAt w1 _ q2 ok∧SmsAt w1 x.two ok q2):=⟨l1,b1,HL.out.2.2.2.1.1.keep hk,HL.out.2.2.2.1.2.keep hk⟩
 clear l1 b1 hh1 hk d0 d1 d2 d3 d4 d5 d6 d7 d8 d9 d10 df
 go_wp2_with fail
 refine (i2 _ _ ok _ q2 L1.out.2.2.1 L1.out.2.2.2 HL.out.2.1 L1.out.1 HL.out.2.2.2.2.2.1 (by omega)).mono ?_
 rintro e w2 ⟨rfl,l2,b2⟩
 have L2:Hid (_∧_):=⟨l2,b2⟩
 clear l2 b2
 go_wp2_with fail
 go_end0
 rw[eX.out]
 exact ⟨rfl,L2.out.1,L1.out.2.1.trans L2.out.2⟩
theorem look_rep (c:Nat) (x:Px.Sm) (hop:x.op=114) (i1:LooksOk c x.one):LookOk c x:=by
 intro k w ok q hx hok hl hw h1 h2 hc
 obtain ⟨hq,ve,v1,v2,q1,q2,hv,e3,e4,e5,e6,e7⟩:=hx
 obtain ⟨d0,d1,d2,d3,d4,d5,d6,d7,d8,d9,d10,df⟩:=cells11 hv
 rw[hop] at d0
 have hqc:=hok q hq
 have HL:Hid (LkAt w c k∧(∀ i,ok i→i < c)∧(SlAt w v1 q1 ok∧SmsAt w x.one ok q1)∧Px.WfS x.one∧w.heap[q]?=some (.cells (smCells x ve v1 v2) 181)):=⟨hl,hok,⟨e4,e5⟩,h1,hv⟩
 clear hl hv hok hw h1 h2 e3 e4 e5 e6 e7
 obtain ⟨a1,n1,c1,rfl⟩:∃ a n c,v1=.slice a n c:=by obtain ⟨a,c',h,_⟩:=HL.out.2.2.1.1.len;exact ⟨_,_,_,h⟩
 by_cases h9:9 < x.n
 ·have eX:Hid (Px.lookX x k=Px.lookS x.one (Px.say 4 x.nPl k)):=by unfold Hid Px.lookX;simp[hop,h9]
  have hv1:=Px.say_vars 4 x.nPl k
  have HV:Hid (_):=hv1
  clear hv1
  go_enter Tryz.func69,Tryz.ntmps69
  go_wp2_with fail
  refine (say_any c 4 x.nPl k _ HL.out.1).mono ?_
  rintro e w1 ⟨rfl,l1,b1⟩
  have hh1:w1.heap[q]?=_:=(b1.block q hqc).trans HL.out.2.2.2.2
  obtain ⟨f0,f1,f2,f3,f4,f5,f6,f7,f8,f9,f10,ff⟩:=cells11 hh1
  have hk:∀ i,ok i→w1.heap[i]?=w.heap[i]?:=fun i hi=>b1.block i (HL.out.2.1 i hi)
  have L1:Hid (LkAt w1 c (Px.say 4 x.nPl k)∧Below c w w1∧SlAt w1 _ q1 ok∧SmsAt w1 x.one ok q1):=⟨l1,b1,HL.out.2.2.1.1.keep hk,HL.out.2.2.1.2.keep hk⟩
  clear l1 b1 hh1 hk d0 d1 d2 d3 d4 d5 d6 d7 d8 d9 d10 df
  go_wp2_with fail
  refine (i1 _ _ ok _ q1 L1.out.2.2.1 L1.out.2.2.2 HL.out.2.1 L1.out.1 HL.out.2.2.2.1 (by rw[HV.out];omega)).mono ?_
  rintro e w2 ⟨rfl,l2,b2⟩
  have L2:Hid (_∧_):=⟨l2,b2⟩
  clear l2 b2
  go_wp2_with fail
  go_end0
  rw[eX.out]
  exact ⟨rfl,L2.out.1,L1.out.2.1.trans L2.out.2⟩
 ·have eX:Hid (Px.lookX x k=Px.lookS x.one k):=by unfold Hid Px.lookX;simp[hop,h9]
  go_enter Tryz.func69,Tryz.ntmps69
  go_wp2_with fail
  refine (i1 k _ ok _ q1 HL.out.2.2.1.1 HL.out.2.2.1.2 HL.out.2.1 HL.out.1 HL.out.2.2.2.1 (by omega)).mono ?_
  rintro e w2 ⟨rfl,l2,b2⟩
  have L2:Hid (_∧_):=⟨l2,b2⟩
  clear l2 b2
  go_wp2_with fail
  go_end0
  rw[eX.out]
  exact ⟨rfl,L2.out⟩
set_option maxRecDepth 100000 in
theorem look_let (c:Nat) (x:Px.Sm) (hop:x.op=108):LookOk c x:=by
 intro k w ok q hx hok hl hw h1 h2 hc
 obtain ⟨hq,ve,v1,v2,q1,q2,hv,e3,e4,e5,e6,e7⟩:=hx
 obtain ⟨d0,d1,d2,d3,d4,d5,d6,d7,d8,d9,d10,df⟩:=cells11 hv
 rw[hop] at d0
 have hqc:=hok q hq
 obtain ⟨ex,hex⟩:∃ ex,x.ex=some ex:=by
  rcases hw.2 with h | h | h | h | h | h
  ·cases hx:x.ex with
   | none=>exact absurd hx h.2
   | some e=>exact ⟨e,rfl⟩
  all_goals omega
 rw[hex] at e3
 obtain ⟨qe,rfl,hxe⟩:=e3
 have hwe:Px.WfE ex:=hw.1 ex hex
 have eX:Hid (Px.lookX x k=Px.giveV x.word x.pl (Px.kindE ex k).1 (Px.kindE ex k).2):=by unfold Hid Px.lookX;simp[hop,hex]
 have HV:Hid ((Px.kindE ex k).2.vars=k.vars):=Px.kindE_vars ex k
 have HL:Hid (LkAt w c k∧(∀ i,ok i→i < c)∧ExAt w ex ok qe∧w.heap[q]?=some (.cells (smCells x (ptr qe) v1 v2) 181)):=⟨hl,hok,hxe,hv⟩
 unfold ptr at d3
 clear hl hv hok hw h1 h2 e4 e5 e6 e7 hxe hex
 generalize hr:Px.kindE ex k=r at *
 have HR:Hid (Px.kindE ex k=r):=hr
 clear hr
 go_enter Tryz.func69,Tryz.ntmps69
 go_wp2_with fail
 refine (kind_ok c ex hwe k _ ok qe HL.out.2.2.1 HL.out.2.1 HL.out.1).mono ?_
 rw[HR.out]
 rintro e w1 ⟨rfl,l1,b1⟩
 have hh1:w1.heap[q]?=_:=(b1.block q hqc).trans HL.out.2.2.2
 obtain ⟨f0,f1,f2,f3,f4,f5,f6,f7,f8,f9,f10,ff⟩:=cells11 hh1
 have L1:Hid (LkAt w1 c r.2∧Below c w w1):=⟨l1,b1⟩
 clear l1 b1 hh1 d0 d1 d2 d3 d4 d5 d6 d7 d8 d9 d10 df
 go_wp2_with fail
 go_region_with (go_at_call 135;refine (give_any c x.word x.pl r.1 r.2 _ L1.out.1.drew (by rw[HV.out];omega)).mono ?_;rintro e w2 ⟨rfl,l2,b2⟩;have L2:Hid (_∧_):=⟨l2,b2⟩;clear l2 b2)
 all_goals
  go_wp2_with fail
  go_end0
  rw[eX.out]
  exact ⟨rfl,L2.out.1,L1.out.2.drew.trans L2.out.2⟩
open Go.RowKit
set_option maxRecDepth 100000 in
theorem look_if (c:Nat) (x:Px.Sm) (hop:x.op=105) (i1:LooksOk c x.one) (i2:LooksOk c x.two):LookOk c x:=by
 intro k w ok q hx hok hl hw h1 h2 hc
 obtain ⟨hq,ve,v1,v2,q1,q2,hv,e3,e4,e5,e6,e7⟩:=hx
 obtain ⟨d0,d1,d2,d3,d4,d5,d6,d7,d8,d9,d10,df⟩:=cells11 hv
 rw[hop] at d0
 have hqc:=hok q hq
 obtain ⟨ex,hex⟩:∃ ex,x.ex=some ex:=by
  rcases hw.2 with h | h | h | h | h | h
  ·omega
  ·omega
  ·cases hx:x.ex with
   | none=>exact absurd hx h.2
   | some e=>exact ⟨e,rfl⟩
  all_goals omega
 rw[hex] at e3
 obtain ⟨qe,rfl,hxe⟩:=e3
 have hwe:Px.WfE ex:=hw.1 ex hex
 obtain ⟨hqe,vk,hve⟩:=hxe.root
 have hqec:=hok qe hqe
 have eX:Hid (Px.lookX x k=Px.lookS x.two (Px.lookS x.one (Px.mustE (some ex) 98 k))):=by unfold Hid Px.lookX;simp[hop,hex]
 have HV:Hid ((Px.mustE (some ex) 98 k).vars=k.vars):=Px.mustE_vars _ _ _
 have eM:Hid (Px.mustE (some ex) 98 k=if Px.isK (Px.kindE ex k).1 98 then (Px.kindE ex k).2 else Px.say 6 ex.pl (Px.kindE ex k).2):=rfl
 have HL:Hid (LkAt w c k∧(∀ i,ok i→i < c)∧ExAt w ex ok qe∧(SlAt w v1 q1 ok∧SmsAt w x.one ok q1)∧(SlAt w v2 q2 ok∧SmsAt w x.two ok q2)∧Px.WfS x.one∧Px.WfS x.two∧w.heap[q]?=some (.cells (smCells x (ptr qe) v1 v2) 181)∧w.heap[qe]?=some (.cells #[.int .u8 (ex.op:Int),.int .i64 (ex.n:Int),.string ex.word,.int .i64 (ex.pl:Int),.int .i64 (ex.own:Int),vk] 255)):=⟨hl,hok,hxe,⟨e4,e5⟩,⟨e6,e7⟩,h1,h2,hv,hve⟩
 unfold ptr at d3
 clear hl hv hok hw h1 h2 e4 e5 e6 e7 hxe hex hve
 have hv1:=Px.lookS_vars x.one (Px.mustE (some ex) 98 k)
 rw[HV.out] at hv1
 obtain ⟨a1,n1,c1,rfl⟩:∃ a n c,v1=.slice a n c:=by obtain ⟨a,c',h,_⟩:=HL.out.2.2.2.1.1.len;exact ⟨_,_,_,h⟩
 obtain ⟨a2,n2,c2,rfl⟩:∃ a n c,v2=.slice a n c:=by obtain ⟨a,c',h,_⟩:=HL.out.2.2.2.2.1.1.len;exact ⟨_,_,_,h⟩
 generalize hM:Px.mustE (some ex) 98 k=M at *
 clear hM
 generalize hr:Px.kindE ex k=r at *
 have HR:Hid (Px.kindE ex k=r):=hr
 clear hr
 go_enter Tryz.func69,Tryz.ntmps69
 go_wp2_with fail
 refine (kind_ok c ex hwe k _ ok qe HL.out.2.2.1 HL.out.2.1 HL.out.1).mono ?_
 rw[HR.out]
 rintro e w1 ⟨rfl,l1,b1⟩
 have hh1:w1.heap[q]?=_:=(b1.block q hqc).trans HL.out.2.2.2.2.2.2.2.1
 have hg1:w1.heap[qe]?=_:=(b1.block qe hqec).trans HL.out.2.2.2.2.2.2.2.2
 obtain ⟨f0,f1,f2,f3,f4,f5,f6,f7,f8,f9,f10,ff⟩:=cells11 hh1
 obtain ⟨g0,g1,g2,g3,g4,g5,gf⟩:=cells6 hg1
 unfold ptr at f3
 have L1:Hid (LkAt w1 c r.2∧Below c w w1):=⟨l1,b1⟩
 clear l1 b1 hh1 hg1 d0 d1 d2 d3 d4 d5 d6 d7 d8 d9 d10 df
 go_wp2_with fail
 refine (is_any r.1 98 _).mono ?_
 rintro e w' ⟨rfl,rfl⟩
 go_upto_if 98 with fail
 go_cut [] (fun wc=>Hid (LkAt wc c M∧Below c w wc))
 case first =>
  cases hi:Px.isK r.1 98
  ·go_wp2_with fail
   refine (say_any c 6 ex.pl r.2 _ L1.out.1).mono ?_
   rintro e w2 ⟨rfl,l2,b2⟩
   have L2:Hid (_∧_):=⟨l2,b2⟩
   clear l2 b2
   go_wp2_with fail
   go_meet
   case rel =>
    refine ⟨?_,L1.out.2.trans L2.out.2⟩
    rw[eM.out,hi]
    exact L2.out.1
  ·go_wp2_with fail
   go_meet
   case rel =>
    refine ⟨?_,L1.out.2⟩
    rw[eM.out,hi]
    exact L1.out.1
 case rest =>
 have C1:Hid (LkAt wc c M∧Below c w wc):=hcut
 have hh2:wc.heap[q]?=_:=(C1.out.2.block q hqc).trans HL.out.2.2.2.2.2.2.2.1
 obtain ⟨j0,j1,j2,j3,j4,j5,j6,j7,j8,j9,j10,jf⟩:=cells11 hh2
 have hk2:∀ i,ok i→wc.heap[i]?=w.heap[i]?:=fun i hi=>C1.out.2.block i (HL.out.2.1 i hi)
 have S1:Hid ((SlAt wc _ q1 ok∧SmsAt wc x.one ok q1)):=⟨HL.out.2.2.2.1.1.keep hk2,HL.out.2.2.2.1.2.keep hk2⟩
 clear hcut hh2 hk2 f0 f1 f2 f3 f4 f5 f6 f7 f8 f9 f10 ff g0 g1 g2 g3 g4 g5 gf
 go_wp2_with fail
 refine (i1 M _ ok _ q1 S1.out.1 S1.out.2 HL.out.2.1 C1.out.1 HL.out.2.2.2.2.2.1 (by rw[HV.out];omega)).mono ?_
 rintro e w3 ⟨rfl,l3,b3⟩
 have bb:Below c w w3:=C1.out.2.trans b3
 have hh3:w3.heap[q]?=_:=(bb.block q hqc).trans HL.out.2.2.2.2.2.2.2.1
 obtain ⟨m0,m1,m2,m3,m4,m5,m6,m7,m8,m9,m10,mf⟩:=cells11 hh3
 have hk3:∀ i,ok i→w3.heap[i]?=w.heap[i]?:=fun i hi=>bb.block i (HL.out.2.1 i hi)
 have S2:Hid (LkAt w3 c (Px.lookS x.one M)∧Below c w w3∧(SlAt w3 _ q2 ok∧SmsAt w3 x.two ok q2)):=⟨l3,bb,HL.out.2.2.2.2.1.1.keep hk3,HL.out.2.2.2.2.1.2.keep hk3⟩
 clear l3 b3 bb hh3 hk3 j0 j1 j2 j3 j4 j5 j6 j7 j8 j9 j10 jf
 go_wp2_with fail
 refine (i2 _ _ ok _ q2 S2.out.2.2.1 S2.out.2.2.2 HL.out.2.1 S2.out.1 HL.out.2.2.2.2.2.2.1 (by omega)).mono ?_
 rintro e w4 ⟨rfl,l4,b4⟩
 have L4:Hid (_∧_):=⟨l4,b4⟩
 clear l4 b4
 go_wp2_with fail
 go_end0
 rw[eX.out]
 exact ⟨rfl,L4.out.1,S2.out.2.1.trans L4.out.2⟩
end Ref
end Go.Proofs.YtnhkpbmplefnaaaGreatDoor
