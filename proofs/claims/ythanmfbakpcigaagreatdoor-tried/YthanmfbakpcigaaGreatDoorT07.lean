import Derived.Test.YthanmfbakpcigaaGreatDoorT06
import Derived.Test.YthanmfbakpcigaaGreatDoorT00
import Derived.Test.YthanmfbakpcigaaGreatDoorT01
import Derived.Deep.QuietTactic
import Derived.BigQuiet
import Derived.Deep.OwnRows
set_option maxRecDepth 100000
set_option maxHeartbeats 4000000
namespace Go.Proofs.YthanmfbakpcigaaGreatDoor
open Go.RowKit
namespace Ref
theorem qk6 (b:Nat) (s:ByteArray) (n:Nat) (hs3:s.size≤300) (st:Px.Ps) (w:World) (hD:DomS s (n+1) st) (p:PenAt w b s st.t (-1) st.nest st.deep) (ho:Px.onB s st.t ⟨#[108,101,116]⟩=true) :
  Calls Tryz.prog 47 #[.pointer (some ⟨b,0,none⟩)] w (qju b s w (Px.letS s (Px.nx s st))):=by
 have hs:s.size≤maxLen:=by unfold maxLen;omega
 have hb:=p.lt;have HD:Hid (DomS s (n+1) st∧PenAt w b s st.t (-1) st.nest st.deep):=⟨hD,p⟩;have hN0:=hD.n0;have hN:st.nest+(s.size+1:Nat)≤1000000:=by have:=hD.n1;omega
 clear hD p;go_enter Tryz.func47,Tryz.ntmps47
 go_wp2_with fail;refine (qkt b s _ st.t st.nest st.deep _ (HD.out.2.alloc _) HD.out.1.tk.le hs ho).mono ?_;rintro e w1 ⟨rfl,p1,k1⟩;have m1:Mk b s w w.heap.size (.ok (Px.qa8,Px.nx s st)) st.nest w1:=Mk.start hb rfl k1 ⟨p1,Px.qnn HD.out.1.tk⟩;have D1:Hid (DomS s (n+1) (Px.nx s st)):=HD.out.1.good (Px.qaf HD.out.1.tk ho);clear p1 k1;have M1:Hid (_):=m1;clear m1;go_wp2_with fail;refine (qda b s 119 (.ok (Px.nx s st)) _ M1.out.pen hs).mono ?_;rintro e w2 ⟨⟨kv,kx,rfl⟩,k2,p2⟩;have m2:=M1.out.kind hb (Nat.le_refl _) k2 p2;obtain ⟨y,ve,a1,n1,c1,a2,n2,c2,hc,hcx⟩:=m2.cells;obtain ⟨d0,d1,d2,d3,d4,d5,d6,d7,d8,d9,d10,df⟩:=qaa hc
 have hq2:w.heap.size < w2.heap.size:=lt_of_cell d0;have M2:Hid (_):=m2;clear k2 p2 hc hcx m2 M1;go_wp2_with fail;have m3:Mk b s w w.heap.size (qjj s (Px.nx s st)) st.nest _:=Mk.store (fun y=>{ y with op:=108,word:=qdm s (.ok (Px.nx s st)) 119,pl:=qf0 (.ok (Px.nx s st)) 119 }) (fun y=>⟨rfl,rfl,rfl⟩) M2.out
  (W:=(((w2.setCell ⟨w.heap.size,0,none⟩ (.int .u8 108)).setCell ⟨w.heap.size,1,none⟩ (.string (qdm s (.ok (Px.nx s st)) 119))).setCell ⟨w.heap.size,2,none⟩ (.int .i64 (qf0 (.ok (Px.nx s st)) 119))).alloc (.cells #[.int .u8 kv,.string (qdm s (.ok (Px.nx s st)) 119),.int .i64 (qf0 (.ok (Px.nx s st)) 119),.int .i64 kx] 143))
  ((((M2.out.kp.setN (Nat.le_refl _) _).setN (Nat.le_refl _) _).setN (Nat.le_refl _) _).alloc _) (by simp) (fun i hi hne=>by rw[Below.heap_alloc _ _ _ (by simpa [size_set] using hi),qag _ hne,qag _ hne,qag _ hne])
  (fun y ve v1 v2 h=>by rw[Below.heap_alloc _ _ _ (by simpa [size_set] using hq2),heap_set _ (heap_set _ (heap_set _ h))];simp[qay])
  ?pp ?rr
 case pp =>
  rw[← qx9];exact (((M2.out.pen.setN (by omega) _).setN (by omega) _).setN (by omega) _).alloc _
 case rr =>
  intro x' st' hx;unfold qjj Px.kind at hx;by_cases hk:(Px.nx s st).t.k=119
  ·rw[if_pos hk] at hx;cases hx;refine ⟨rfl,Px.qa8,Px.nx s (Px.nx s st),?_,?_⟩
   ·simp[qae,qfy,Px.kind,hk]
   ·simp[qdm,qf0,hk,Px.txt]
  ·rw[if_neg hk] at hx;cases hx
 have M3:Hid (_):=m3;clear m3 M2 d0 d1 d2 d3 d4 d5 d6 d7 d8 d9 d10 df;refine (qcb b s _ _ _ M3.out.pen hs).mono ?_;rintro e w3 ⟨rfl,k3,p3⟩;have M4:Hid (Mk b s w w.heap.size (qae (qjj s (Px.nx s st)) (qbd s ⟨#[61]⟩)) st.nest w3):=M3.out.need hb (Nat.le_refl _) k3 p3;clear k3 p3 M3;go_wp2_with fail;refine (zue b s _ _ M4.out.pen hs ?hn).mono ?_
 case hn =>
  intro st1 h1;cases hr:qae (qjj s (Px.nx s st)) (qbd s ⟨#[61]⟩) with
  | error p=>rw[hr] at h1;cases h1
  | ok r =>
   obtain ⟨x,st2⟩:=r;rw[hr] at h1;cases h1;rw[M4.out.nest hr];exact ⟨hN0,hN⟩
 rintro e w4 h4;obtain ⟨q1,he⟩:∃ q1,e=.returned (.pointer (some ⟨q1,0,none⟩)):=by obtain ⟨_,q1,he,_⟩:=h4;exact ⟨q1,he⟩
 subst he;have m5:=M4.out.expr hb (Nat.le_refl _) h4;obtain ⟨y,ve,a1,n1,c1,a2,n2,c2,hc,hcx⟩:=M4.out.cells;have hc3:=Kp.heap h4.1 hc (by omega)
 obtain ⟨d0,d1,d2,d3,d4,d5,d6,d7,d8,d9,d10,df⟩:=qaa hc3;have M5:Hid (_):=m5;clear hc hcx hc3 m5 h4;go_wp2_with fail;refine (qcb b s _ _ _ M5.out.pen hs).mono ?_;rintro e w5 ⟨rfl,k5,p5⟩;have M6:Hid (_):=M5.out.need hb (Nat.le_refl _) k5 p5;clear k5 p5 M5 d0 d1 d2 d3 d4 d5 d6 d7 d8 d9 d10 df;go_wp2_with fail;go_ret;rw[zah];exact M6.out.post (Nat.le_refl _)
theorem qi0 (b:Nat) (s:ByteArray) (n:Nat) (hs3:s.size≤300) (st:Px.Ps) (w:World) (hD:DomS s (n+1) st) (p:PenAt w b s st.t (-1) st.nest st.deep) (h0:Px.onB s st.t ⟨#[108,101,116]⟩=false) (ho:Px.onB s st.t ⟨#[99,97,108,108]⟩=true) :
  Calls Tryz.prog 47 #[.pointer (some ⟨b,0,none⟩)] w (qju b s w (Px.call s (Px.nx s st))):=by
 have hs:s.size≤maxLen:=by unfold maxLen;omega
 have hb:=p.lt;have HD:Hid (DomS s (n+1) st∧PenAt w b s st.t (-1) st.nest st.deep):=⟨hD,p⟩;have hN0:=hD.n0;have hN:st.nest+(s.size+1:Nat)≤1000000:=by have:=hD.n1;omega
 clear hD p;go_enter Tryz.func47,Tryz.ntmps47
 go_wp2_with fail;refine (qf1 b s _ st.t st.nest st.deep _ (HD.out.2.alloc _) h0).mono ?_;rintro e w' ⟨rfl,hw⟩;rw[← hw];clear hw;go_wp2_with fail;refine (qkt b s _ st.t st.nest st.deep _ (HD.out.2.alloc _) HD.out.1.tk.le hs ho).mono ?_;rintro e w1 ⟨rfl,p1,k1⟩;have m1:Mk b s w w.heap.size (.ok (Px.qa8,Px.nx s st)) st.nest w1:=Mk.start hb rfl k1 ⟨p1,Px.qnn HD.out.1.tk⟩;have D1:Hid (DomS s (n+1) (Px.nx s st)):=HD.out.1.good (Px.qaf HD.out.1.tk ho);clear p1 k1;have M1:Hid (_):=m1;clear m1;go_wp2_with fail;refine (qyn b s hs3 w w.heap.size hb (Nat.le_refl _) (Px.nx s st) _ hN0 hN M1.out).mono ?_
 rintro e w2 ⟨rfl,m2⟩;have M2:Hid (_):=m2;clear m2;go_wp2_with fail;go_ret;exact M2.out.post (Nat.le_refl _)
theorem qiz (b:Nat) (s:ByteArray) (n:Nat) (hs3:s.size≤300) (st:Px.Ps) (w:World) (hD:DomS s (n+1) st) (p:PenAt w b s st.t (-1) st.nest st.deep) (h0:Px.onB s st.t ⟨#[108,101,116]⟩=false) (h1:Px.onB s st.t ⟨#[99,97,108,108]⟩=false) (h2:Px.onB s st.t ⟨#[105,102]⟩=false) (h3:Px.onB s st.t ⟨#[116,114,121]⟩=false) (h4:Px.onB s st.t ⟨#[114,101,112,101,97,116]⟩=false) :
  Calls Tryz.prog 47 #[.pointer (some ⟨b,0,none⟩)] w (qju b s w (Px.qig s st)):=by
 have hs:s.size≤maxLen:=by unfold maxLen;omega
 have hb:=p.lt;have HD:Hid (DomS s (n+1) st∧PenAt w b s st.t (-1) st.nest st.deep):=⟨hD,p⟩;have hN0:=hD.n0;have hN:st.nest+(s.size+1:Nat)≤1000000:=by have:=hD.n1;omega
 clear hD p;go_enter Tryz.func47,Tryz.ntmps47
 go_wp2_with fail;refine (qf1 b s _ st.t st.nest st.deep _ (HD.out.2.alloc _) h0).mono ?_;rintro e w' ⟨rfl,hw⟩;rw[← hw];clear hw;go_wp2_with fail;refine (qf1 b s _ st.t st.nest st.deep _ (HD.out.2.alloc _) h1).mono ?_;rintro e w' ⟨rfl,hw⟩;rw[← hw];clear hw;go_wp2_with fail;refine (qf1 b s _ st.t st.nest st.deep _ (HD.out.2.alloc _) h2).mono ?_;rintro e w' ⟨rfl,hw⟩;rw[← hw];clear hw;go_wp2_with fail;refine (qf1 b s _ st.t st.nest st.deep _ (HD.out.2.alloc _) h3).mono ?_;rintro e w' ⟨rfl,hw⟩;rw[← hw];clear hw;go_wp2_with fail;refine (qf1 b s _ st.t st.nest st.deep _ (HD.out.2.alloc _) h4).mono ?_
 rintro e w' ⟨rfl,hw⟩;rw[← hw];clear hw;have M1:Hid (Mk b s w w.heap.size (opS 102 st) st.nest _):=Mk.zwd rfl ⟨HD.out.2,HD.out.1.tk⟩;go_wp2_with fail;refine (qcb b s _ _ _ M1.out.pen hs).mono ?_;rintro e w1 ⟨rfl,k1,p1⟩;have M2:Hid (_):=M1.out.need hb (Nat.le_refl _) k1 p1;clear k1 p1 M1;go_wp2_with fail;refine (qcb b s _ _ _ M2.out.pen hs).mono ?_;rintro e w2 ⟨rfl,k2,p2⟩;have M3:Hid (_):=M2.out.need hb (Nat.le_refl _) k2 p2;clear k2 p2 M2;go_wp2_with fail;go_ret;rw[zua];exact M3.out.post (Nat.le_refl _)
open Go.RowKit
theorem qo7 (b:Nat) (s:ByteArray) (n:Nat) (hst:qr3 b s n (Px.stmt s n)) (hs3:s.size≤300) (st:Px.Ps) (w:World) (hD:DomS s (n+1) st) (p:PenAt w b s st.t (-1) st.nest st.deep) (h0:Px.onB s st.t ⟨#[108,101,116]⟩=false) (h1:Px.onB s st.t ⟨#[99,97,108,108]⟩=false) (ho:Px.onB s st.t ⟨#[105,102]⟩=true) :
  Calls Tryz.prog 47 #[.pointer (some ⟨b,0,none⟩)] w (qju b s w (Px.ifS s (Px.stmt s n) (Px.nx s st))):=by
 have hs:s.size≤maxLen:=by unfold maxLen;omega
 have hb:=p.lt;have HD:Hid (DomS s (n+1) st∧PenAt w b s st.t (-1) st.nest st.deep):=⟨hD,p⟩;have hN0:=hD.n0;have hN:st.nest+(s.size+1:Nat)≤1000000:=by have:=hD.n1;omega
 clear hD p;go_enter Tryz.func47,Tryz.ntmps47
 go_wp2_with fail;refine (qf1 b s _ st.t st.nest st.deep _ (HD.out.2.alloc _) h0).mono ?_;rintro e w' ⟨rfl,hw⟩;rw[← hw];clear hw;go_wp2_with fail;refine (qf1 b s _ st.t st.nest st.deep _ (HD.out.2.alloc _) h1).mono ?_;rintro e w' ⟨rfl,hw⟩;rw[← hw];clear hw;go_wp2_with fail;refine (qkt b s _ st.t st.nest st.deep _ (HD.out.2.alloc _) HD.out.1.tk.le hs ho).mono ?_;rintro e w1 ⟨rfl,p1,k1⟩;have m1:Mk b s w w.heap.size (.ok (Px.qa8,Px.nx s st)) st.nest w1:=Mk.start hb rfl k1 ⟨p1,Px.qnn HD.out.1.tk⟩;have D1:Hid (DomS s (n+1) (Px.nx s st)):=HD.out.1.good (Px.qaf HD.out.1.tk ho);clear p1 k1
 obtain ⟨y,ve,a1,n1,c1,a2,n2,c2,hc,hcx⟩:=m1.cells;obtain ⟨d0,d1,d2,d3,d4,d5,d6,d7,d8,d9,d10,df⟩:=qaa hc;have M2:Hid (Mk b s w w.heap.size (opS 105 (Px.nx s st)) st.nest (w1.setCell ⟨w.heap.size,0,none⟩ (.int .u8 105))):=m1.op 105 hb (Nat.le_refl _);clear hc hcx m1;go_wp2_with fail;refine (zue b s _ _ M2.out.pen hs ?hn).mono ?_
 case hn =>
  intro st1 h1;cases h1;exact ⟨hN0,hN⟩
 rintro e w4 h4;obtain ⟨q1,he⟩:∃ q1,e=.returned (.pointer (some ⟨q1,0,none⟩)):=by obtain ⟨_,q1,he,_⟩:=h4;exact ⟨q1,he⟩
 subst he;have m5:=M2.out.expr hb (Nat.le_refl _) h4;clear d0 d1 d2 d3 d4 d5 d6 d7 d8 d9 d10 df;obtain ⟨y,ve,a1,n1,c1,a2,n2,c2,hc,hcx⟩:=M2.out.cells;have hc3:=Kp.heap h4.1 hc (by omega)
 obtain ⟨d0,d1,d2,d3,d4,d5,d6,d7,d8,d9,d10,df⟩:=qaa hc3;have M3:Hid (_):=m5;clear hc hcx hc3 m5 h4 M2;go_wp2_with fail;clear d0 d1 d2 d3 d4 d5 d6 d7 d8 d9 d10 df;refine (qwt b s n _ hst (Px.qam s n) hs3 _ _ M3.out.pen ?hd).mono ?_
 case hd =>
  intro st1 h1;cases hr:Px.qa4 s (Px.nx s st) with
  | error p=>simp[qae,opS,exX,hr,Except.map] at h1
  | ok r =>
   obtain ⟨e2,st2⟩:=r;simp[qae,opS,exX,hr,Except.map] at h1;rw[← h1];exact D1.out.good (Px.qbb s _ _ _ D1.out.tk hr)
 rintro e w5 h4;obtain ⟨va,vn,vc,he⟩:∃ va vn vc,e=.returned (.slice va vn vc):=by obtain ⟨_,va,vn,vc,he,_⟩:=h4;exact ⟨va,vn,vc,he⟩
 subst he;have m5:=M3.out.one (Px.qam s n) hb (Nat.le_refl _) h4;obtain ⟨y,ve,a1,n1,c1,a2,n2,c2,hc,hcx⟩:=M3.out.cells;have hc3:=Kp.heap h4.1 hc (by omega)
 obtain ⟨d0,d1,d2,d3,d4,d5,d6,d7,d8,d9,d10,df⟩:=qaa hc3;have M4:Hid (_):=m5;clear hc hcx hc3 m5 h4;clear M3;go_wp2_with fail;clear d0 d1 d2 d3 d4 d5 d6 d7 d8 d9 d10 df;refine (gotU b s _ _ _ M4.out.pen hs).mono ?_;rintro e w6 ⟨rfl,k6,p6⟩;have M6:Hid (_):=M4.out.got hb (Nat.le_refl _) k6 p6;clear k6 p6;generalize hB:onR s ((qae (qae (opS 105 (Px.nx s st)) (exX s)) (oneX s (Px.stmt s n))).map Prod.snd) ⟨#[101,108,115,101]⟩=B;have HB:Hid (_):=hB;clear hB;cases B
 ·go_wp2_with fail;go_ret;rw[zh9,zmn HB.out];have h:=M6.out;rw[qs8 HB.out] at h;exact h.post (Nat.le_refl _)
 ·go_wp2_with fail;refine (qwt b s n _ hst (Px.qam s n) hs3 _ _ M6.out.pen ?hd).mono ?_
  case hd =>
   intro st1 h1;obtain ⟨x0,st0,hr0,ho0,hg0⟩:=qvs HB.out;rw[hg0] at h1;cases h1;have D2:DomS s (n+1) st0:=by
    cases hr:Px.qa4 s (Px.nx s st) with
    | error p=>simp[qae,opS,exX,hr] at hr0
    | ok r =>
     obtain ⟨e2,st2⟩:=r;have g2:=D1.out.good (Px.qbb s _ _ _ D1.out.tk hr);cases hr2:Px.block s (Px.stmt s n) st2 with
     | error p=>simp[qae,opS,exX,hr,oneX,hr2] at hr0
     | ok r2 =>
      obtain ⟨l2,st3⟩:=r2;simp[qae,opS,exX,hr,oneX,hr2] at hr0;rw[← hr0.2];exact g2.good (Px.qa0 (Px.qam s n) _ _ _ g2.tk hr2)
   exact D2.good (Px.qaf D2.tk ho0)
  rintro e w7 h4;obtain ⟨va,vn,vc,he⟩:∃ va vn vc,e=.returned (.slice va vn vc):=by obtain ⟨_,va,vn,vc,he,_⟩:=h4;exact ⟨va,vn,vc,he⟩
  subst he;have m5:=M6.out.two (Px.qam s n) hb (Nat.le_refl _) h4;obtain ⟨y,ve,a1,n1,c1,a2,n2,c2,hc,hcx⟩:=M6.out.cells;have hc3:=Kp.heap h4.1 hc (by omega)
  obtain ⟨d0,d1,d2,d3,d4,d5,d6,d7,d8,d9,d10,df⟩:=qaa hc3;have M7:Hid (_):=m5;clear hc hcx hc3 m5 h4;go_wp2_with fail;go_ret;rw[zh9,zsw HB.out];exact M7.out.post (Nat.le_refl _)
open Go.RowKit
theorem qk5 (b:Nat) (s:ByteArray) (n:Nat) (hst:qr3 b s n (Px.stmt s n)) (hs3:s.size≤300) (st:Px.Ps) (w:World) (hD:DomS s (n+1) st) (p:PenAt w b s st.t (-1) st.nest st.deep) (h0:Px.onB s st.t ⟨#[108,101,116]⟩=false) (h1:Px.onB s st.t ⟨#[99,97,108,108]⟩=false) (h2:Px.onB s st.t ⟨#[105,102]⟩=false) (ho:Px.onB s st.t ⟨#[116,114,121]⟩=true) :
  Calls Tryz.prog 47 #[.pointer (some ⟨b,0,none⟩)] w (qju b s w (Px.tryS s (Px.stmt s n) (Px.nx s st))):=by
 have hs:s.size≤maxLen:=by unfold maxLen;omega
 have hb:=p.lt;have HD:Hid (DomS s (n+1) st∧PenAt w b s st.t (-1) st.nest st.deep):=⟨hD,p⟩;have hN0:=hD.n0;have hN:st.nest+(s.size+1:Nat)≤1000000:=by have:=hD.n1;omega
 clear hD p;go_enter Tryz.func47,Tryz.ntmps47
 go_wp2_with fail;refine (qf1 b s _ st.t st.nest st.deep _ (HD.out.2.alloc _) h0).mono ?_;rintro e w' ⟨rfl,hw⟩;rw[← hw];clear hw;go_wp2_with fail;refine (qf1 b s _ st.t st.nest st.deep _ (HD.out.2.alloc _) h1).mono ?_;rintro e w' ⟨rfl,hw⟩;rw[← hw];clear hw;go_wp2_with fail;refine (qf1 b s _ st.t st.nest st.deep _ (HD.out.2.alloc _) h2).mono ?_;rintro e w' ⟨rfl,hw⟩;rw[← hw];clear hw;go_wp2_with fail;refine (qkt b s _ st.t st.nest st.deep _ (HD.out.2.alloc _) HD.out.1.tk.le hs ho).mono ?_;rintro e w1 ⟨rfl,p1,k1⟩;have m1:Mk b s w w.heap.size (.ok (Px.qa8,Px.nx s st)) st.nest w1:=Mk.start hb rfl k1 ⟨p1,Px.qnn HD.out.1.tk⟩
 have D1:Hid (DomS s (n+1) (Px.nx s st)):=HD.out.1.good (Px.qaf HD.out.1.tk ho);clear p1 k1;obtain ⟨y,ve,a1,n1,c1,a2,n2,c2,hc,hcx⟩:=m1.cells;obtain ⟨d0,d1,d2,d3,d4,d5,d6,d7,d8,d9,d10,df⟩:=qaa hc;have M2:Hid (Mk b s w w.heap.size (opS 116 (Px.nx s st)) st.nest (w1.setCell ⟨w.heap.size,0,none⟩ (.int .u8 116))):=m1.op 116 hb (Nat.le_refl _);clear hc hcx m1;go_wp2_with fail;clear d0 d1 d2 d3 d4 d5 d6 d7 d8 d9 d10 df;refine (qwt b s n _ hst (Px.qam s n) hs3 _ _ M2.out.pen ?hd).mono ?_
 case hd =>
  intro st1 h1;cases h1;exact D1.out
 rintro e w4 h4;obtain ⟨va,vn,vc,he⟩:∃ va vn vc,e=.returned (.slice va vn vc):=by obtain ⟨_,va,vn,vc,he,_⟩:=h4;exact ⟨va,vn,vc,he⟩
 subst he;have m5:=M2.out.one (Px.qam s n) hb (Nat.le_refl _) h4;obtain ⟨y,ve,a1,n1,c1,a2,n2,c2,hc,hcx⟩:=M2.out.cells;have hc3:=Kp.heap h4.1 hc (by omega)
 obtain ⟨d0,d1,d2,d3,d4,d5,d6,d7,d8,d9,d10,df⟩:=qaa hc3;have M3:Hid (_):=m5;clear hc hcx hc3 m5 h4;clear M2;go_wp2_with fail;clear d0 d1 d2 d3 d4 d5 d6 d7 d8 d9 d10 df;refine (qcb b s _ _ _ M3.out.pen hs).mono ?_;rintro e w5 ⟨rfl,k5,p5⟩;have M4:Hid (Mk b s w w.heap.size (qae (qae (opS 116 (Px.nx s st)) (oneX s (Px.stmt s n))) (qbd s ⟨#[101,108,115,101]⟩)) st.nest w5):=M3.out.need hb (Nat.le_refl _) k5 p5;clear k5 p5 M3;go_wp2_with fail;refine (qwt b s n _ hst (Px.qam s n) hs3 _ _ M4.out.pen ?hd).mono ?_
 case hd =>
  intro st1 h1;cases hr:Px.block s (Px.stmt s n) (Px.nx s st) with
  | error p=>simp[qae,opS,oneX,hr,Except.map] at h1
  | ok r =>
   obtain ⟨l2,st2⟩:=r;have g2:=D1.out.good (Px.qa0 (Px.qam s n) _ _ _ D1.out.tk hr);cases hr2:Px.need s ⟨#[101,108,115,101]⟩ st2 with
   | error p=>simp[qae,opS,oneX,hr,qbd,hr2,Except.map] at h1
   | ok st3 =>
    simp[qae,opS,oneX,hr,qbd,hr2,Except.map] at h1;rw[← h1];exact g2.good (Px.qav g2.tk hr2)
 rintro e w6 h4;obtain ⟨va,vn,vc,he⟩:∃ va vn vc,e=.returned (.slice va vn vc):=by obtain ⟨_,va,vn,vc,he,_⟩:=h4;exact ⟨va,vn,vc,he⟩
 subst he;have m5:=M4.out.two (Px.qam s n) hb (Nat.le_refl _) h4;obtain ⟨y,ve,a1,n1,c1,a2,n2,c2,hc,hcx⟩:=M4.out.cells;have hc3:=Kp.heap h4.1 hc (by omega)
 obtain ⟨d0,d1,d2,d3,d4,d5,d6,d7,d8,d9,d10,df⟩:=qaa hc3;have M5:Hid (_):=m5;clear hc hcx hc3 m5 h4;clear M4;go_wp2_with fail;go_ret;rw[qzb];exact M5.out.post (Nat.le_refl _)
theorem qkn (b:Nat) (s:ByteArray) (n:Nat) (hst:qr3 b s n (Px.stmt s n)) (hs3:s.size≤300) (st:Px.Ps) (w:World) (hD:DomS s (n+1) st) (p:PenAt w b s st.t (-1) st.nest st.deep) (h0:Px.onB s st.t ⟨#[108,101,116]⟩=false) (h1:Px.onB s st.t ⟨#[99,97,108,108]⟩=false) (h2:Px.onB s st.t ⟨#[105,102]⟩=false) (h3:Px.onB s st.t ⟨#[116,114,121]⟩=false) (ho:Px.onB s st.t ⟨#[114,101,112,101,97,116]⟩=true) :
  Calls Tryz.prog 47 #[.pointer (some ⟨b,0,none⟩)] w (qju b s w (Px.qbu s (Px.stmt s n) (Px.nx s st))):=by
 have hs:s.size≤maxLen:=by unfold maxLen;omega
 have hb:=p.lt;have HD:Hid (DomS s (n+1) st∧PenAt w b s st.t (-1) st.nest st.deep):=⟨hD,p⟩;have hN0:=hD.n0;have hN:st.nest+(s.size+1:Nat)≤1000000:=by have:=hD.n1;omega
 clear hD p;go_enter Tryz.func47,Tryz.ntmps47
 go_wp2_with fail;refine (qf1 b s _ st.t st.nest st.deep _ (HD.out.2.alloc _) h0).mono ?_;rintro e w' ⟨rfl,hw⟩;rw[← hw];clear hw;go_wp2_with fail;refine (qf1 b s _ st.t st.nest st.deep _ (HD.out.2.alloc _) h1).mono ?_;rintro e w' ⟨rfl,hw⟩;rw[← hw];clear hw;go_wp2_with fail;refine (qf1 b s _ st.t st.nest st.deep _ (HD.out.2.alloc _) h2).mono ?_;rintro e w' ⟨rfl,hw⟩;rw[← hw];clear hw;go_wp2_with fail;refine (qf1 b s _ st.t st.nest st.deep _ (HD.out.2.alloc _) h3).mono ?_;rintro e w' ⟨rfl,hw⟩;rw[← hw];clear hw;go_wp2_with fail;refine (qkt b s _ st.t st.nest st.deep _ (HD.out.2.alloc _) HD.out.1.tk.le hs ho).mono ?_
 rintro e w1 ⟨rfl,p1,k1⟩;have m1:Mk b s w w.heap.size (.ok (Px.qa8,Px.nx s st)) st.nest w1:=Mk.start hb rfl k1 ⟨p1,Px.qnn HD.out.1.tk⟩;have D1:Hid (DomS s (n+1) (Px.nx s st)):=HD.out.1.good (Px.qaf HD.out.1.tk ho);clear p1 k1;obtain ⟨y,ve,a1,n1,c1,a2,n2,c2,hc,hcx⟩:=m1.cells;obtain ⟨d0,d1,d2,d3,d4,d5,d6,d7,d8,d9,d10,df⟩:=qaa hc;have M2:Hid (Mk b s w w.heap.size (opS 114 (Px.nx s st)) st.nest (w1.setCell ⟨w.heap.size,0,none⟩ (.int .u8 114))):=m1.op 114 hb (Nat.le_refl _);clear hc hcx m1;go_wp2_with fail;clear d0 d1 d2 d3 d4 d5 d6 d7 d8 d9 d10 df;refine (qda b s 110 (.ok (Px.nx s st)) _ M2.out.pen hs).mono ?_
 rintro e w2 ⟨⟨kv,kx,rfl⟩,k2,p2⟩;have m3:=M2.out.kind hb (Nat.le_refl _) k2 p2;obtain ⟨y,ve,a1,n1,c1,a2,n2,c2,hc,hcx⟩:=m3.cells;obtain ⟨d0,d1,d2,d3,d4,d5,d6,d7,d8,d9,d10,df⟩:=qaa hc;have hq2:w.heap.size < w2.heap.size:=lt_of_cell d0;have V:Hid (_):=qlq (r:=.ok (Px.nx s st)) M2.out.pen;have M3:Hid (_):=m3;clear k2 p2 hc hcx m3 M2;go_wp2_with fail;refine (qot _ _ V.out.1 V.out.2).mono ?_;rintro e w' ⟨rfl,hw⟩;rw[hw];clear hw;go_wp2_with fail;have m4:Mk b s w w.heap.size (qi7 s (Px.nx s st)) st.nest _:=Mk.store (fun y=>{ y with n:=Px.valOf (qdm s (.ok (Px.nx s st)) 110).toList,nPl:=qf0 (.ok (Px.nx s st)) 110 }) (fun y=>⟨rfl,rfl,rfl⟩) M3.out
  (W:=((w2.setCell ⟨w.heap.size,7,none⟩ (.int .i64 (Px.valOf (qdm s (.ok (Px.nx s st)) 110).toList))).setCell ⟨w.heap.size,8,none⟩ (.int .i64 (qf0 (.ok (Px.nx s st)) 110))).alloc (.cells #[.int .u8 kv,.string (qdm s (.ok (Px.nx s st)) 110),.int .i64 (qf0 (.ok (Px.nx s st)) 110),.int .i64 kx] 143))
  (((M3.out.kp.setN (Nat.le_refl _) _).setN (Nat.le_refl _) _).alloc _) (by simp) (fun i hi hne=>by rw[Below.heap_alloc _ _ _ (by simpa [size_set] using hi),qag _ hne,qag _ hne])
  (fun y ve v1 v2 h=>by rw[Below.heap_alloc _ _ _ (by simpa [size_set] using hq2),heap_set _ (heap_set _ h)];simp[qay])
  ?pp ?rr
 case pp =>
  rw[← qxm];exact ((M3.out.pen.setN (by omega) _).setN (by omega) _).alloc _
 case rr =>
  intro x' st' hx;unfold qi7 Px.kind at hx;by_cases hk:(Px.nx s st).t.k=110
  ·rw[if_pos hk] at hx;cases hx;refine ⟨rfl,{ Px.qa8 with op:=114 },Px.nx s (Px.nx s st),?_,?_⟩
   ·simp[qae,qfy,Px.kind,hk,opS]
   ·simp[qdm,qf0,hk,Px.txt]
  ·rw[if_neg hk] at hx;cases hx
 have M4:Hid (_):=m4;clear m4 M3 d0 d1 d2 d3 d4 d5 d6 d7 d8 d9 d10 df;refine (qwt b s n _ hst (Px.qam s n) hs3 _ _ M4.out.pen ?hd).mono ?_
 case hd =>
  intro st1 h1;cases hr:Px.kind s 110 (Px.nx s st) with
  | error p=>simp[qi7,hr,Except.map] at h1
  | ok st2 =>
   simp[qi7,hr,Except.map] at h1;rw[← h1];exact D1.out.good (Px.qa6 D1.out.tk (by decide) (by decide) hr)
 rintro e w4 h4;obtain ⟨va,vn,vc,he⟩:∃ va vn vc,e=.returned (.slice va vn vc):=by obtain ⟨_,va,vn,vc,he,_⟩:=h4;exact ⟨va,vn,vc,he⟩
 subst he;have m5:=M4.out.one (Px.qam s n) hb (Nat.le_refl _) h4;obtain ⟨y,ve,a1,n1,c1,a2,n2,c2,hc,hcx⟩:=M4.out.cells;have hc3:=Kp.heap h4.1 hc (by omega)
 obtain ⟨d0,d1,d2,d3,d4,d5,d6,d7,d8,d9,d10,df⟩:=qaa hc3;have M5:Hid (_):=m5;clear hc hcx hc3 m5 h4;clear M4;go_wp2_with fail;go_ret;rw[qzz];exact M5.out.post (Nat.le_refl _)
open Go.RowKit
theorem zrs (b:Nat) (s:ByteArray) (hs3:s.size≤300) (n:Nat):qr3 b s n (Px.stmt s n):=by
 induction n with
 | zero=>intro st w hD p;have:=hD.room;omega
 | succ n ih =>
  intro st w hD p;rw[Px.stmt];cases h0:Px.onB s st.t ⟨#[108,101,116]⟩
  ·cases h1:Px.onB s st.t ⟨#[99,97,108,108]⟩
   ·cases h2:Px.onB s st.t ⟨#[105,102]⟩
    ·cases h3:Px.onB s st.t ⟨#[116,114,121]⟩
     ·cases h4:Px.onB s st.t ⟨#[114,101,112,101,97,116]⟩
      ·exact qiz b s n hs3 st w hD p h0 h1 h2 h3 h4
      ·exact qkn b s n ih hs3 st w hD p h0 h1 h2 h3 h4
     ·exact qk5 b s n ih hs3 st w hD p h0 h1 h2 h3
    ·exact qo7 b s n ih hs3 st w hD p h0 h1 h2
   ·exact qi0 b s n hs3 st w hD p h0 h1
  ·exact qk6 b s n hs3 st w hD p h0
open Go.RowKit
theorem qb1 {w:World} {k:Nat} {a b c d e f g h:Value} {t:TypeId} (hh:w.heap[k]?=some (.cells #[a,b,c,d,e,f,g,h] t)) :
  w.cell? ⟨k,0,none⟩=some a∧w.cell? ⟨k,1,none⟩=some b∧w.cell? ⟨k,2,none⟩=some c∧w.cell? ⟨k,3,none⟩=some d∧w.cell? ⟨k,4,none⟩=some e∧w.cell? ⟨k,5,none⟩=some f∧w.cell? ⟨k,6,none⟩=some g∧w.cell? ⟨k,7,none⟩=some h∧∀ o,w.frozen? ⟨k,o,none⟩=false:=by
 refine ⟨?_,?_,?_,?_,?_,?_,?_,?_,?_⟩<;>simp[World.cell?,World.frozen?,hh]
def zkf (s:ByteArray) (w:World) (e:Ending) (w':World):Prop :=
 Below w.heap.size w w'∧∃ a n c,∃ (x p:Nat),e=.returned (.tuple #[.slice a n c,.int .i64 (x:Int),.int .i64 (p:Int)]) ∧
  match Px.read s with
  | .error (c',p')=>x=c'∧p=p'∧a=none∧n=0∧c=0
  | .ok l=>x=0∧p=0∧∃ qs,SlAt w' (.slice a n c) qs (In w w')∧SmsAt w' l (In w w') qs
theorem zfu (s:ByteArray) (w:World) (h:300 < s.size) (hs:s.size≤maxLen) :
  Calls Tryz.prog 29 #[.string s] w (zkf s w):=by
 unfold maxLen at hs;have e1:Hid (Px.read s=.error (1,0)):=by unfold Hid;rw[Px.read,if_pos h]
 go_enter Tryz.func29,Tryz.ntmps29
 go_wp2_with fail;go_ret3
 refine ⟨Below.refl _ _,none,0,0,1,0,rfl,?_⟩;rw[e1.out];exact ⟨rfl,rfl,rfl,rfl,rfl⟩
theorem zcs (s:ByteArray) (w:World) (hs3:s.size≤300) :
  Calls Tryz.prog 29 #[.string s] w (zkf s w):=by
 obtain ⟨i0,hi,hz0,hz1,hz2⟩:=info_parts zh6;have hs:s.size≤maxLen:=by unfold maxLen;omega
 have hd:decide (300 < (s.size:Int))=false:=by simp;omega
 have er:Hid (Px.read s=match Px.stmts s (Px.stmt s (s.size+1)) (fun st=>st.t.k == 0) (s.size+1) [] ⟨Px.tok s 0,0,-1⟩ with
  | .error p=>.error (2,p)
  | .ok (l,st)=>if 0≤st.deep then .error (3,st.deep.toNat) else .ok l):=by
  unfold Hid;rw[Px.read,if_neg (by omega)]
  cases Px.stmts s (Px.stmt s (s.size+1)) (fun st=>st.t.k == 0) (s.size+1) [] ⟨Px.tok s 0,0,-1⟩<;>rfl
 have hst:=zrs w.heap.size s hs3 (s.size+1);have HG:Hid (_):=Px.qam s (s.size+1);generalize Px.stmt s (s.size+1)=g at *;go_enter Tryz.func29,Tryz.ntmps29
 go_wp2_with fail;refine (qn3 s 0 _ (Nat.zero_le _) hs).mono ?_;unfold qcl;rintro e w1 ⟨rfl,hbw⟩;have g1:w1.heap[w.heap.size]?=some (.cells #[.string s,.int .u8 0,.string ⟨#[]⟩,.int .i64 0,.int .i64 0,.int .i64 (-1),.int .i64 0,.int .i64 (-1)] 145):=by
  rw[hbw.block _ (by simp)]
  show (w.heap.push _)[w.heap.size]?=_
  rw[Array.getElem?_push,if_pos rfl]
 obtain ⟨c0,c1,c2,c3,c4,c5,c6,c7,f⟩:=qb1 g1;have hbz:w.heap.size < w1.heap.size:=lt_of_cell c0;have BW:Hid (Below w.heap.size w w1):=((Below.refl _ _).alloc (Nat.le_refl _) _).trans (hbw.mono (by simp))
 have G1:Hid (_):=g1;clear hbw g1;go_wp2_with fail;generalize hW:(((w1.setCell ⟨w.heap.size,1,none⟩ (.int .u8 ((Px.tok s 0).k:Int))).setCell ⟨w.heap.size,2,none⟩ (.string (s.extract (Px.tok s 0).a (Px.tok s 0).b))).setCell ⟨w.heap.size,3,none⟩ (.int .i64 ((Px.tok s 0).a:Int))).setCell ⟨w.heap.size,4,none⟩ (.int .i64 ((Px.tok s 0).b:Int))=W;have P0:Hid (PenAt W w.heap.size s (Px.tok s 0) (-1) 0 (-1)):=⟨by rw[← hW,heap_set _ (heap_set _ (heap_set _ (heap_set _ G1.out)))];simp⟩
 have BW2:Hid (Below w.heap.size w W):=by rw[← hW];exact (((BW.out.setCell (Nat.le_refl _) _).setCell (Nat.le_refl _) _).setCell (Nat.le_refl _) _).setCell (Nat.le_refl _) _
 have hbW:w.heap.size < W.heap.size:=P0.out.lt;have TK:Hid (Px.Tk s (Px.tok s 0)):=(Px.qfv s 0 (Nat.zero_le _)).1;clear hW c0 c1 c2 c3 c4 c5 c6 c7 f BW G1 hbz;generalize hR:Px.stmts s g (fun st=>st.t.k == 0) (s.size+1) [] ⟨Px.tok s 0,0,-1⟩=R at er
 have HRR:Hid (_):=hR;clear hR;generalize hBB:w.heap.size=B at *;have HBB:Hid (_):=hBB;clear hBB;go_loopw [6] (fun v wr=>Hid (zpo B s g (fun st=>st.t.k == 0) (DomS s (s.size+1)) R W wr v)) (fun _ wr=>penM s B wr)
 case atStart =>
  refine ⟨Kp.refl _ _,[],World.ownsRow_nil _ _ _ _,Or.inl ⟨[],⟨Px.tok s 0,0,-1⟩,s.size+1,SmsAt.qbl.2 rfl,by simp,P0.out,⟨TK.out,by simp;omega,by simp,by simp;omega⟩,HRR.out,by simp;omega⟩⟩
 case round =>
  obtain ⟨kr,qs,hown,hcase⟩:=hrel.out;clear hrel;obtain ⟨va,vn,vc,rfl⟩:=qpi hown;have KR:Hid (Kp B W wr∧wr.ownsRow W.heap.size 147 1 (.slice va vn vc) qs.length (qs.map ptr)):=⟨kr,hown⟩;clear kr hown;rcases hcase with ⟨l,st1,m,hl,hq,p1,hD1,hch,hm⟩ | ⟨pe,t,nest,deep,hRe,hq,p1⟩
  ·obtain ⟨m,rfl⟩:∃ m',m=m'+1:=⟨m - 1,by omega⟩
   obtain ⟨c0,c1,c2,c3,c4,c5,c6,c7,f,hbr⟩:=p1.cells;have L:Hid (_):=hl;have PP:Hid (_):=p1;have DD:Hid (_):=hD1;have CH:Hid (_):=hch;clear hl p1 hD1 hch;by_cases hk0:st1.t.k=0
   ·have t1:((st1.t.k:Int) != 0)=false:=by rw[hk0];rfl
    have hRok:Hid (R=.ok (l,st1)):=by unfold Hid;rw[← CH.out,Px.stmts,if_pos (by simp[hk0])]
    by_cases hdp:0≤st1.deep
    ·go_wp2_with fail;go_region
     go_wp2_with fail;go_ret3
     refine ⟨by rw[HBB.out];exact (BW2.out.trans (KR.out.1.qbg (Nat.le_refl _) (by omega))).drew,none,0,0,3,st1.deep.toNat,by rw[Int.toNat_of_nonneg hdp];rfl,?_⟩
     rw[er.out,hRok.out];simp only[if_pos hdp,and_self]
    ·go_wp2_with fail;go_ret3
     have z1:=KR.out.1.size;have z0:=BW2.out.size;refine ⟨by rw[HBB.out];exact (BW2.out.trans (KR.out.1.qbg (Nat.le_refl _) (by omega))),va,vn,vc,0,0,rfl,?_⟩
     rw[er.out,hRok.out];simp only[if_neg (show ¬ 0≤st1.deep by omega)]
     refine ⟨trivial,trivial,qs,?_,?_⟩
     ·refine zqa KR.out.2 fun k hk=>?_
      have:=KR.out.2.lt k hk
      exact ⟨by omega,by omega⟩
     ·exact L.out.mono fun k hk=>⟨by have:=hk.1.1;omega,hk.1.2⟩
   ·have t1:((st1.t.k:Int) != 0)=true:=by rw[bne_iff_ne];omega
    go_wp2_with fail;refine (hst st1 _ DD.out PP.out).mono ?_;rintro e w3 ⟨k3,q,rfl,h3⟩;have hown3:w3.ownsRow W.heap.size 147 1 (.slice va vn vc) qs.length (qs.map ptr):=qle KR.out.2 fun k hk=>k3.block k (KR.out.2.lt k hk).2 (by have:=(KR.out.2.lt k hk).1;omega)
    have hsz3:W.heap.size≤w3.heap.size:=by have:=k3.size;have:=KR.out.1.size;omega
    have hqb:qs.length≤300:=by have:=DD.out.tk.ab;have:=DD.out.tk.le;omega
    have H3:Hid (qju B s wr (g st1) (.returned (ptr q)) w3):=⟨k3,q,rfl,h3⟩;unfold ptr;clear k3 h3 c0 c1 c2 c3 c4 c5 c6 c7 f;go_wp2_with (first
     | (at_builtin;refine wpList_append_own_at _ rfl _ _ 56 rfl W.heap.size 147 i0 (.pointer none) 1 8 Tryz.underlying56 hi hz0 hz1 hz2 rfl (by decide) _ _ _ rfl (hown3.alloc _) ⟨w3.heap.size,0,none⟩ 1 1 [.pointer (some ⟨q,0,none⟩)] rfl rfl ?c1 ?c2 ?c3 ?c4 ?c5 ?_)
     | fail)
    case c1 =>
     intro j u hj;match j,hj with
     | 0,hj=>simp at hj;subst hj;simp[Addr.add]
    case c2=>intro u hu;simp at hu;subst hu;rfl
    case c3=>unfold maxLen;omega
    case c4=>omega
    case c5=>simp;omega
    ·intro v' w4 hown' hgrow _ hloc;obtain ⟨r1,r2⟩:=zhd hbW HG.out KR.out.1 KR.out.2 L.out hq DD.out hm (R:=R) (stop:=fun st=>st.t.k == 0) (by rw[← CH.out,Px.stmts,if_neg (by simp[hk0])];cases g st1<;>rfl) H3.out hown' hgrow hloc
     have RR:Hid (_∧_):=⟨r1,r2⟩;clear r1 r2 hown' hgrow hloc hown3;go_wp2;exact ⟨RR.out.1,by rw[qmn PP.out];exact RR.out.2⟩
  ·obtain ⟨c0,c1,c2,c3,c4,c5,c6,c7,f,hbr⟩:=p1.cells;have PP:Hid (R=.error pe∧PenAt wr B s t (pe:Int) nest deep):=⟨hRe,p1⟩;have hpe:(0:Int)≤pe:=by omega
   clear p1 hRe;go_wp2_with fail;go_region
   go_wp2_with fail;go_ret3
   refine ⟨by rw[HBB.out];exact (BW2.out.trans (KR.out.1.qbg (Nat.le_refl _) (by omega))).drew,none,0,0,2,pe,rfl,?_⟩
   rw[er.out,PP.out.1];exact ⟨rfl,rfl,rfl,rfl,rfl⟩
open Go.RowKit
def qbr (l:List (ByteArray×Nat)):List Value:=l.flatMap fun v=>[.string v.1,.int .u8 (v.2:Int)]
theorem quy (l:List (ByteArray×Nat)) (i:Nat) (h:i < l.length):(qbr l)[i * 2]?=some (.string l[i].1)∧(qbr l)[i * 2+1]?=some (.int .u8 (l[i].2:Int)):=by
 induction l generalizing i with
 | nil=>simp at h
 | cons v l ih =>
  cases i with
  | zero=>exact ⟨rfl,rfl⟩
  | succ i =>
   have:=ih i (by simpa using h)
   have e:(i+1) * 2=i * 2+2:=by omega
   rw[e];exact this
theorem qor {w:World} {base:Nat} {va:Option Addr} {vn vc:Nat} {l:List (ByteArray×Nat)} (h:w.ownsRow base 280 2 (.slice va vn vc) l.length (qbr l)) (i:Nat) (hi:i < l.length) :
  ∃ g,va=some ⟨g,0,none⟩∧base≤g∧vn=l.length∧w.cell? ⟨g,i * 2,none⟩=some (.string l[i].1)∧w.cell? ⟨g,i * 2+1,none⟩=some (.int .u8 (l[i].2:Int)):=by
 rcases h.2 with ⟨h1,h2⟩ | ⟨g,cap,cur,h1,h2,h3,h4,h5,h6,h7⟩
 ·omega
 ·cases h1;have hc:∀ j,j < l.length * 2→w.cell? ⟨g,j,none⟩=(qbr l)[j]?:=by
   intro j hj;rw[← h7,List.getElem?_take_of_lt hj];simp[World.cell?,h3]
  obtain ⟨e1,e2⟩:=quy l i hi;exact ⟨g,rfl,h2,rfl,by rw[hc _ (by omega)];exact e1,by rw[hc _ (by omega)];exact e2⟩
def qku (l:List (ByteArray×Nat)) (x:ByteArray):Int :=
 match Px.qa3 l x with
 | none=>-1
 | some i=>i
theorem qnw {w:World} {base:Nat} {va:Option Addr} {vn vc:Nat} {l:List (ByteArray×Nat)} (h:w.ownsRow base 280 2 (.slice va vn vc) l.length (qbr l)):vn=l.length∧l.length≤maxLen:=by
 rcases h.2 with ⟨h1,h2⟩ | ⟨g,cap,cur,h1,h2,h3,h4,h5,h6,h7⟩
 ·cases h1;exact ⟨h2.symm,by omega⟩
 ·cases h1;exact ⟨rfl,by omega⟩
theorem zik {l:List (ByteArray×Nat)} {x:ByteArray} {k:Nat} (hk:k < l.length) (h:(l[k].1.toList == x.toList)=false) (hv:Px.qa3 l x=(Px.qa3 (l.drop k) x).map (·+k)):Px.qa3 l x=(Px.qa3 (l.drop (k+1)) x).map (·+(k+1)):=by
 rw[hv,List.drop_eq_getElem_cons hk,Px.qa3,if_neg (by simp[h])]
 cases Px.qa3 (l.drop (k+1)) x with
 | none=>rfl
 | some i=>simp;omega
theorem zol {l:List (ByteArray×Nat)} {x:ByteArray} {k:Nat} (hk:k < l.length) (h:(l[k].1.toList == x.toList)=true) (hv:Px.qa3 l x=(Px.qa3 (l.drop k) x).map (·+k)):Px.qa3 l x=some k:=by
 rw[hv,List.drop_eq_getElem_cons hk,Px.qa3,if_pos h];simp
theorem qie (l:List (ByteArray×Nat)) (x:ByteArray) (w:World) (base:Nat) (va:Option Addr) (vn vc:Nat) (h:w.ownsRow base 280 2 (.slice va vn vc) l.length (qbr l)) :
  Calls Tryz.prog 116 #[.slice va vn vc,.string x] w fun e w'=>e=.returned (.int .i64 (qku l x))∧w=w':=by
 obtain ⟨rfl,hml⟩:=qnw h;unfold maxLen at hml;have H:Hid (_):=h;clear h;go_enter Tryz.func116,Tryz.ntmps116
 go_wp2_with fail;go_loop [5] (fun i=>∃ k:Nat,k≤l.length∧i=.int .i64 k∧Hid (Px.qa3 l x=(Px.qa3 (l.drop k) x).map (·+k))) (fun i=>l.length - (intOf i).toNat)
 case atStart=>exact ⟨0,by omega,rfl,by simp[Hid]⟩
 case round =>
  obtain ⟨k,hk,rfl,hv⟩:=hrel;by_cases hlt:k < l.length
  ·obtain ⟨g,rfl,hg,_,hc,hc'⟩:=qor H.out k hlt;cases hb:(l[k].1.toList == x.toList)
   ·go_wp2_with fail;exact ⟨⟨k+1,by omega,by go_num,zik hlt hb hv.out⟩,by simp[intOf];omega⟩
   ·go_wp2_with fail;go_ret;exact ⟨qsr (by rw[qku,zol hlt hb hv.out]),rfl⟩
  ·go_wp2_with fail;go_ret;exact ⟨qsr (by rw[qku,hv.out,List.drop_of_length_le (by omega)];rfl),rfl⟩
theorem qdc (k z:Nat) (w:World) :
  Calls Tryz.prog 113 #[.int .u8 (k:Int),.int .u8 (z:Int)] w fun e w'=>e=.returned (.bool (Px.isK k z))∧w=w':=by
 have e1:Hid (Px.isK k z=(((k:Int) == z) || ((k:Int) == 63))):=by
  unfold Hid Px.isK;rw[Bool.eq_iff_iff];simp;omega
 cases h1:((k:Int) == z)
 all_goals
  go_enter Tryz.func113,Tryz.ntmps113
  go_wp2_with fail;go_ret;exact ⟨qcv (by rw[e1.out,h1];simp),rfl⟩
structure LkAt (w:World) (c:Nat) (k:Px.Lk):Prop where
 ex:∃ va vn vc,w.heap[c]?=some (.cells #[.slice va vn vc,.int .i64 (k.e:Int),.int .i64 (k.pl:Int)] 93)∧w.ownsRow (c+1) 280 2 (.slice va vn vc) k.vars.length (qbr k.vars)
theorem cells3 {w:World} {k:Nat} {a b c:Value} {t:TypeId} (hh:w.heap[k]?=some (.cells #[a,b,c] t)) :
  w.cell? ⟨k,0,none⟩=some a∧w.cell? ⟨k,1,none⟩=some b∧w.cell? ⟨k,2,none⟩=some c∧∀ o,w.frozen? ⟨k,o,none⟩=false:=by
 refine ⟨?_,?_,?_,?_⟩<;>simp[World.cell?,World.frozen?,hh]
theorem qxv {w:World} {c o:Nat} {u:Value} {e:TypeId} {size:Nat} {v:Value} {n:Nat} {xs:List Value} (h:w.ownsRow (c+1) e size v n xs):(w.setCell ⟨c,o,none⟩ u).ownsRow (c+1) e size v n xs :=
 ownsRow_setCell_below h (Nat.lt_succ_self _) u
theorem qqh {c o:Nat} {a w:World} (h:Below c a w) (u:Value):Below c a (w.setCell ⟨c,o,none⟩ u):=h.setCell (p:=⟨c,o,none⟩) (Nat.le_refl _) u
theorem qad {w:World} {base:Nat} {e:TypeId} {size:Nat} {v:Value} {n:Nat} {xs:List Value} (h:w.ownsRow base e size v n xs):∃ a k c,v=.slice a k c:=by
 rcases h.2 with ⟨h1,_⟩ | ⟨g,cap,cur,h1,_⟩
 ·exact ⟨_,_,_,h1⟩
 ·exact ⟨_,_,_,h1⟩
theorem qsf (l:List (ByteArray×Nat)) (x:ByteArray) (z:Nat):qbr (l++[(x,z)])=qbr l++[.string x,.int .u8 (z:Int)]:=by simp[qbr]
theorem qey (c e p:Nat) (k:Px.Lk) (w:World) (h:LkAt w c k) :
  Calls Tryz.prog 114 #[.pointer (some ⟨c,0,none⟩),.int .i64 (e:Int),.int .i64 (p:Int)] w fun e' w'=>e'=.returned (.tuple #[])∧LkAt w' c (Px.say e p k)∧Below c w w':=by
 obtain ⟨va,vn,vc,h1,h2⟩:=h.ex;obtain ⟨c0,c1,c2,f⟩:=cells3 h1;have yes:Px.say e p k=⟨k.vars,e,p⟩→LkAt ((w.setCell ⟨c,1,none⟩ (.int .i64 (e:Int))).setCell ⟨c,2,none⟩ (.int .i64 (p:Int))) c (Px.say e p k)∧Below c w ((w.setCell ⟨c,1,none⟩ (.int .i64 (e:Int))).setCell ⟨c,2,none⟩ (.int .i64 (p:Int))):=by
  intro hs;rw[hs];exact ⟨⟨va,vn,vc,by rw[heap_set _ (heap_set _ h1)];simp,qxv (qxv h2)⟩,qqh (qqh (Below.refl _ _) _) _⟩
 have no:Px.say e p k=k→LkAt w c (Px.say e p k)∧Below c w w:=by
  intro hs;rw[hs];exact ⟨⟨va,vn,vc,h1,h2⟩,Below.refl _ _⟩
 have YES:Hid (_):=yes;have NO:Hid (_):=no;clear yes no h h1 h2;by_cases g0:k.e=0
 ·have t0:((k.e:Int) == 0)=true:=by rw[g0];rfl
  go_enter Tryz.func114,Tryz.ntmps114
  go_wp2_with fail;go_end0
  exact ⟨rfl,YES.out (by unfold Px.say;rw[if_pos (Or.inl g0)])⟩
 ·have t0:((k.e:Int) == 0)=false:=by rw[beq_eq_false_iff_ne];omega
  by_cases g1:p < k.pl
  ·have t1:(p:Int) < k.pl:=by omega
   go_enter Tryz.func114,Tryz.ntmps114
   go_wp2_with fail;go_end0
   exact ⟨rfl,YES.out (by unfold Px.say;rw[if_pos (Or.inr (Or.inl g1))])⟩
  ·have t1:¬ (p:Int) < k.pl:=by omega
   by_cases g2:p=k.pl
   ·have t2:((p:Int) == k.pl)=true:=by rw[beq_iff_eq];omega
    have G2:Hid (_):=g2;clear g2;by_cases g3:e < k.e
    ·have t3:(e:Int) < k.e:=by omega
     go_enter Tryz.func114,Tryz.ntmps114
     go_wp2_with fail;go_end0
     exact ⟨rfl,YES.out (by unfold Px.say;rw[if_pos (Or.inr (Or.inr ⟨G2.out,g3⟩))])⟩
    ·have t3:¬ (e:Int) < k.e:=by omega
     go_enter Tryz.func114,Tryz.ntmps114
     go_wp2_with fail;go_end0
     exact ⟨rfl,NO.out (by unfold Px.say;rw[if_neg (by omega)])⟩
   ·have t2:((p:Int) == k.pl)=false:=by rw[beq_eq_false_iff_ne];omega
    go_enter Tryz.func114,Tryz.ntmps114
    go_wp2_with fail;go_end0
    exact ⟨rfl,NO.out (by unfold Px.say;rw[if_neg (by omega)])⟩
theorem zt2:(Tryz.prog.info? 280).map (fun i=>(i.zero,i.size,i.bytes))=some (some (.agg #[.string ⟨#[]⟩,.int .u8 0]),2,24):=by kernel_rfl
theorem qds {l:List (ByteArray×Nat)} {x:ByteArray} {i:Nat} (h:Px.qa3 l x=some i):i < l.length:=by
 induction l generalizing i with
 | nil=>cases h
 | cons v l ih =>
  rw[Px.qa3] at h;split at h
  ·cases h;simp
  ·cases hf:Px.qa3 l x with
   | none=>rw[hf] at h;cases h
   | some j=>rw[hf] at h;cases h;have:=ih hf;simp;omega
theorem qlx (c:Nat) (x:ByteArray) (p z:Nat) (k:Px.Lk) (w:World) (h:LkAt w c k) (hv:k.vars.length≤1000000) :
  Calls Tryz.prog 112 #[.pointer (some ⟨c,0,none⟩),.string x,.int .i64 (p:Int),.int .u8 (z:Int)] w fun e' w'=>e'=.returned (.tuple #[])∧LkAt w' c (Px.qc7 x p z k)∧Below c w w':=by
 obtain ⟨va,vn,vc,h1,h2⟩:=h.ex;obtain ⟨c0,c1,c2,f⟩:=cells3 h1;obtain ⟨rfl,_⟩:=qnw h2;have hcz:c < w.heap.size:=lt_of_cell c0;have H:Hid (_∧_):=⟨h1,h2⟩;have HL:Hid (_):=h;clear h1 h2 h;cases hf:Px.qa3 k.vars x with
 | none =>
  obtain ⟨i0,hi,hz0,hz1,hz2⟩:=info_parts zt2;have e1:Hid (Px.qc7 x p z k=⟨k.vars++[(x,z)],k.e,k.pl⟩):=by unfold Hid Px.qc7;rw[hf]
  have e2:Hid (qku k.vars x=-1):=by unfold Hid qku;rw[hf]
  clear hf;go_enter Tryz.func112,Tryz.ntmps112
  go_wp2_with fail;refine (qie k.vars x _ _ _ _ _ H.out.2).mono ?_;rintro e w' ⟨rfl,rfl⟩;rw[e2.out];go_wp2_with (first
   | (at_builtin;refine wpList_append_own_at _ rfl _ _ 57 rfl (c+1) 280 i0 (.agg #[.string ⟨#[]⟩,.int .u8 0]) 2 24 Tryz.underlying57 hi hz0 hz1 hz2 rfl (by decide) _ _ _ rfl (H.out.2.alloc _) ⟨w.heap.size,0,none⟩ 1 1 [.string x,.int .u8 (z:Int)] rfl rfl ?c1 ?c2 ?c3 ?c4 ?c5 ?_)
   | fail)
  case c1 =>
   intro j u hj;match j,hj with
   | 0,hj=>simp at hj;subst hj;simp[Addr.add]
   | 1,hj=>simp at hj;subst hj;simp[Addr.add]
  case c2=>intro u hu;simp at hu;rcases hu with rfl | rfl<;>rfl
  case c3=>unfold maxLen;omega
  case c4=>omega
  case c5=>simp;omega
  ·intro v' w3 hown' hgrow _ hloc;obtain ⟨va',vn',vc',rfl⟩:=qad hown';have hob:∀ i,(Value.slice va k.vars.length vc).ownBlock=some i→c+1≤i:=fun i hi=>(H.out.2.lt i hi).1
   have h3:w3.heap[c]?=some (.cells #[.slice va k.vars.length vc,.int .i64 (k.e:Int),.int .i64 (k.pl:Int)] 93):=by
    rw[hgrow.block c (by simp;omega) (fun e=>by have:=hob c e.symm;omega),Below.heap_alloc _ _ _ hcz];exact H.out.1
   obtain ⟨d0,d1,d2,df⟩:=cells3 h3;have hb3:Below c w w3:=((Below.refl _ _).alloc (by omega) _).grown hgrow (by simp;omega) (fun i hi=>by have:=hob i hi;omega)
   have H3:Hid (_∧_∧_):=⟨hown',h3,hb3⟩;clear hown' hgrow hloc h3 hb3 hob;go_wp2_with fail;refine bodyPost_ret (results_none rfl _ _ _) rfl ?_;rw[e1.out];refine ⟨rfl,⟨va',vn',vc',by rw[heap_set _ H3.out.2.1];simp,?_⟩,qqh H3.out.2.2 _⟩
   have:=qxv (c:=c) (o:=0) (u:=.slice va' vn' vc') H3.out.1
   rw[qsf]
   simpa using this
 | some i =>
  have hlt:=qds hf;obtain ⟨g,rfl,hg,_,hc,hc'⟩:=qor H.out.2 i hlt;have e2:Hid (qku k.vars x=(i:Int)):=by unfold Hid qku;rw[hf]
  have e3:Px.qcn k.vars i=k.vars[i].2:=by simp[Px.qcn,hlt]
  have e1:Hid (Px.qc7 x p z k=if Px.qft k.vars[i].2 z then Px.say 6 p k else k):=by unfold Hid Px.qc7;rw[hf];simp only[e3]
  have e4:Hid (Px.qft k.vars[i].2 z=(((k.vars[i].2:Int) != z) && ((k.vars[i].2:Int) != 63) && ((z:Int) != 63))):=by
   unfold Hid Px.qft;rw[Bool.eq_iff_iff];simp;omega
  have E3:Hid (_):=e3;clear hf e3;generalize hkz:k.vars[i].2=kz at *;clear hkz;cases g1:((kz:Int) != z)
  ·go_enter Tryz.func112,Tryz.ntmps112
   go_wp2_with fail;refine (qie k.vars x _ _ _ _ _ H.out.2).mono ?_;rintro e w' ⟨rfl,rfl⟩;rw[e2.out];go_wp2_with fail;go_end0
   rw[e1.out,e4.out,g1];exact ⟨rfl,HL.out,Below.refl _ _⟩
  ·cases g2:((kz:Int) != 63)
   ·go_enter Tryz.func112,Tryz.ntmps112
    go_wp2_with fail;refine (qie k.vars x _ _ _ _ _ H.out.2).mono ?_;rintro e w' ⟨rfl,rfl⟩;rw[e2.out];go_wp2_with fail;go_end0
    rw[e1.out,e4.out,g1,g2];exact ⟨rfl,HL.out,Below.refl _ _⟩
   ·cases g3:((z:Int) != 63)
    ·go_enter Tryz.func112,Tryz.ntmps112
     go_wp2_with fail;refine (qie k.vars x _ _ _ _ _ H.out.2).mono ?_;rintro e w' ⟨rfl,rfl⟩;rw[e2.out];go_wp2_with fail;go_end0
     rw[e1.out,e4.out,g1,g2,g3];exact ⟨rfl,HL.out,Below.refl _ _⟩
    ·go_enter Tryz.func112,Tryz.ntmps112
     go_wp2_with fail;refine (qie k.vars x _ _ _ _ _ H.out.2).mono ?_;rintro e w' ⟨rfl,rfl⟩;rw[e2.out];go_wp2_with fail;refine (qey c 6 p k _ HL.out).mono ?_;rintro e w1 ⟨rfl,l1,b1⟩;have L1:Hid (_∧_):=⟨l1,b1⟩;clear l1 b1;go_wp2_with fail;go_end0
     rw[e1.out,e4.out,g1,g2,g3];exact ⟨rfl,L1.out⟩
open Go.RowKit
def intCells (l:List Int):List Value:=l.map (Value.int .i64)
open Go.RowKit
theorem LkAt.cells {w:World} {c:Nat} {k:Px.Lk} (h:LkAt w c k):∃ va vn vc,w.cell? ⟨c,0,none⟩=some (.slice va vn vc)∧w.ownsRow (c+1) 280 2 (.slice va vn vc) k.vars.length (qbr k.vars)∧c < w.heap.size:=by
 obtain ⟨va,vn,vc,h1,h2⟩:=h.ex;obtain ⟨c0,_⟩:=cells3 h1;exact ⟨va,vn,vc,c0,h2,lt_of_cell c0⟩
theorem LkAt.drew {w:World} {c:Nat} {k:Px.Lk} (h:LkAt w c k):LkAt w.drew c k:=by
 obtain ⟨va,vn,vc,h1,h2⟩:=h.ex;exact ⟨va,vn,vc,h1,h2.1,h2.2⟩
theorem LkAt.drewN {w:World} {c:Nat} {k:Px.Lk} (n:Nat) (h:LkAt w c k):LkAt (w.drewN n) c k:=by
 obtain ⟨va,vn,vc,h1,h2⟩:=h.ex;exact ⟨va,vn,vc,h1,h2.1,h2.2⟩
def qco (c:Nat) (x:Px.Ex):Prop:=∀ (k:Px.Lk) (w:World) (ok:Nat→Prop) (q:Nat),ExAt w x ok q→(∀ i,ok i→i < c)→LkAt w c k →
 Calls Tryz.prog 111 #[.pointer (some ⟨c,0,none⟩),.pointer (some ⟨q,0,none⟩)] w fun e w'=>e=.returned (.int .u8 ((Px.qao x k).1:Int))∧LkAt w' c (Px.qao x k).2∧Below c w w'
theorem qwf (l:List (ByteArray×Nat)) (x:ByteArray) (w:World) (base:Nat) (va:Option Addr) (vn vc:Nat) (h:w.ownsRow base 280 2 (.slice va vn vc) l.length (qbr l)) :
  Calls Tryz.prog 116 #[.slice va vn vc,.string x] w fun e w'=>e=.returned (.int .i64 (qku l x))∧w'=w :=
 (qie l x w base va vn vc h).mono fun _ _ h=>⟨h.1,h.2.symm⟩
theorem zbf (c:Nat) (w:World) (n:Nat):Below c w (w.drewN n):=⟨rfl,rfl,rfl,Nat.le_refl _,fun _ _=>rfl⟩
theorem zhr (c:Nat) (op n:Nat) (word:ByteArray) (pl own:Nat) (hop:op=110∨op=116):qco c ⟨op,n,word,pl,own,none,none⟩:=by
 intro k w ok q hx hok hl;obtain ⟨hq,v,hv⟩:=hx.root;obtain ⟨c0,c1,c2,c3,c4,c5,f⟩:=qb9 hv;have HL:Hid (_):=hl;clear hx hl hv;rcases hop with rfl | rfl
 ·go_enter Tryz.func111,Tryz.ntmps111
  go_wp2_with fail;go_ret;exact ⟨rfl,HL.out,Below.refl _ _⟩
 ·go_enter Tryz.func111,Tryz.ntmps111
  go_wp2_with fail;go_ret;exact ⟨rfl,HL.out,Below.refl _ _⟩
theorem zhq (c:Nat) (n:Nat) (word:ByteArray) (pl own:Nat):qco c ⟨119,n,word,pl,own,none,none⟩:=by
 intro k w ok q hx hok hl;obtain ⟨hq,v,hv⟩:=hx.root;obtain ⟨c0,c1,c2,c3,c4,c5,f⟩:=qb9 hv;obtain ⟨va,vn,vc,l0,hown,hcz⟩:=hl.cells;have HL:Hid (LkAt w c k∧_):=⟨hl,hown⟩;clear hx hl hv;obtain ⟨rfl,_⟩:=qnw hown;clear hown;cases hf:Px.qa3 k.vars word with
 | none =>
  have e2:Hid (qku k.vars word=-1):=by unfold Hid qku;rw[hf]
  have e1:Hid (Px.qao ⟨119,n,word,pl,own,none,none⟩ k=(63,Px.say 5 own k)):=by unfold Hid;simp[Px.qao,Px.qpq,hf]
  clear hf;go_enter Tryz.func111,Tryz.ntmps111
  go_wp2_with fail;go_quiet ((go_at_call 116;exact Calls.quiet_of_same (qwf k.vars word _ (c+1) _ _ _ HL.out.2)))
  rw[e2.out];go_wp2_with fail;refine (qey c 5 own k _ (HL.out.1.drewN nq)).mono ?_;rintro e w1 ⟨rfl,l1,b1⟩;have L1:Hid (_∧_):=⟨l1,b1⟩;clear l1 b1;go_wp2_with fail;go_ret;rw[e1.out];exact ⟨rfl,L1.out.1,(zbf _ _ _).trans L1.out.2⟩
 | some i =>
  have hlt:=qds hf;obtain ⟨g,rfl,hg,_,hc,hc'⟩:=qor HL.out.2 i hlt;have e2:Hid (qku k.vars word=(i:Int)):=by unfold Hid qku;rw[hf]
  have e1:Hid (Px.qao ⟨119,n,word,pl,own,none,none⟩ k=(k.vars[i].2,k)):=by unfold Hid;simp[Px.qao,Px.qpq,hf,Px.qcn,hlt]
  clear hf;go_enter Tryz.func111,Tryz.ntmps111
  go_wp2_with fail;go_quiet ((go_at_call 116;exact Calls.quiet_of_same (qwf k.vars word _ (c+1) _ _ _ HL.out.2)))
  rw[e2.out];go_wp2_with fail;go_ret;rw[e1.out];exact ⟨rfl,HL.out.1.drewN nq,zbf _ _ _⟩
theorem znt (c:Nat) (n:Nat) (word:ByteArray) (pl own:Nat) (l:Px.Ex) (ih:qco c l):qco c ⟨33,n,word,pl,own,some l,none⟩:=by
 intro k w ok q hx hok hl;obtain ⟨hq,kb,lq,hkb,hne,hv,hkc,hxl⟩:=hx;obtain ⟨c0,c1,c2,c3,c4,c5,f⟩:=qb9 hv;have k0:w.cell? ⟨kb,0,none⟩=some (.pointer (some ⟨lq,0,none⟩)):=by simp[World.cell?,hkc]
 have hqc:=hok q hq;have HL:Hid (LkAt w c k∧_∧_):=⟨hl,hxl,hv⟩;have HK:Hid (∀ i,(ok i∧i≠q∧i≠kb)→i < c):=fun i hi=>hok i hi.1
 have e1:Hid (Px.qao ⟨33,n,word,pl,own,some l,none⟩ k=Px.notK own (Px.qao l k)):=rfl;clear hl hv hkc hxl hok;generalize hr:Px.qao l k=r at e1;have HR:Hid (_):=hr;clear hr;cases hi:Px.isK r.1 98
 all_goals
  go_enter Tryz.func111,Tryz.ntmps111
  go_wp2_with fail;refine (ih k _ _ lq HL.out.2.1 HK.out HL.out.1).mono ?_;rw[HR.out];rintro e w1 ⟨rfl,l1,b1⟩;have hv1:w1.heap[q]?=_:=(b1.block q hqc).trans HL.out.2.2;obtain ⟨d0,d1,d2,d3,d4,d5,df⟩:=qb9 hv1;have L1:Hid (_∧_):=⟨l1,b1⟩;clear l1 b1 hv1;go_wp2_with fail;refine (qdc r.1 98 _).mono ?_;rintro e w' ⟨rfl,rfl⟩;go_wp2_with fail
 ·refine (qey c 6 own r.2 _ L1.out.1).mono ?_;rintro e w2 ⟨rfl,l2,b2⟩;have L2:Hid (_∧_):=⟨l2,b2⟩;clear l2 b2;go_wp2_with fail;go_ret;rw[e1.out,Px.notK,hi];exact ⟨rfl,L2.out.1,L1.out.2.trans L2.out.2⟩
 ·go_ret;rw[e1.out,Px.notK,hi];exact ⟨rfl,L1.out.1,L1.out.2⟩
open Go.RowKit
def AnsAt (w:World) (v:Value) (l:List Int):Prop :=
 ∃ ad cap,v=.slice ad l.length cap∧l.length≤maxLen∧l.length * 8≤140737488355328∧∀ i (hi:i < l.length),∃ a:Addr,ad=some a∧a.block < w.heap.size∧w.cell? (a.add i)=some (.int .i64 l[i])
theorem qtp:(Tryz.prog.info? 3).map (fun i=>(i.zero,i.size,i.bytes))=some (some (.int .i64 0),1,8):=by kernel_rfl
open Go.RowKit
theorem znu (c op:Nat) (hop:op=61∨op=35) (n:Nat) (word:ByteArray) (pl own:Nat) (l r:Px.Ex) (ihl:qco c l) (ihr:qco c r):qco c ⟨op,n,word,pl,own,some l,some r⟩:=by
 intro k w ok q hx hok hl;obtain ⟨hq,kb,lq,rq,hkb,hne,hv,hkc,hxl,hxr⟩:=hx;obtain ⟨c0,c1,c2,c3,c4,c5,f⟩:=qb9 hv;have k0:w.cell? ⟨kb,0,none⟩=some (.pointer (some ⟨lq,0,none⟩)):=by simp[World.cell?,hkc]
 have hqc:=hok q hq;have hkbc:=hok kb hkb;have HL:Hid (LkAt w c k∧(ExAt w l _ lq∧ExAt w r _ rq)∧_∧_):=⟨hl,⟨hxl,hxr⟩,hv,hkc⟩;have HK:Hid (∀ i,(ok i∧i≠q∧i≠kb)→i < c):=fun i hi=>hok i hi.1
 have e1:Hid (Px.qao ⟨op,n,word,pl,own,some l,some r⟩ k=Px.binK op own (Px.qao l k).1 (Px.qao r (Px.qao l k).2)):=rfl;clear hl hv hkc hxl hxr hok;generalize hr1:Px.qao l k=ra at e1;have HR1:Hid (_):=hr1;clear hr1;generalize hr2:Px.qao r ra.2=rb at e1;have HR2:Hid (_):=hr2;clear hr2;have e2:Hid (Px.binK op own ra.1 rb=(98,if Px.qft ra.1 rb.1 then Px.say 6 own rb.2 else rb.2)):=by unfold Hid Px.binK;rw[if_pos hop]
 have e4:Hid (Px.qft ra.1 rb.1=(((ra.1:Int) != rb.1) && ((ra.1:Int) != 63) && ((rb.1:Int) != 63))):=by
  unfold Hid Px.qft;rw[Bool.eq_iff_iff];simp;omega
 have o1:((op:Int) == 110)=false:=by rw[beq_eq_false_iff_ne];omega
 have o2:((op:Int) == 116)=false:=by rw[beq_eq_false_iff_ne];omega
 have o3:((op:Int) == 119)=false:=by rw[beq_eq_false_iff_ne];omega
 have o4:((op:Int) == 33)=false:=by rw[beq_eq_false_iff_ne];omega
 have OR:Hid (_):=hop;clear hop;go_enter Tryz.func111,Tryz.ntmps111
 go_wp2_with fail;refine (ihl k _ _ lq HL.out.2.1.1 HK.out HL.out.1).mono ?_;rw[HR1.out];rintro e w1 ⟨rfl,l1,b1⟩;have hv1:w1.heap[q]?=_:=(b1.block q hqc).trans HL.out.2.2.1;have hk1:w1.heap[kb]?=_:=(b1.block kb hkbc).trans HL.out.2.2.2;have hx1:ExAt w1 r _ rq:=HL.out.2.1.2.keep fun i hi=>b1.block i (HK.out i hi)
 obtain ⟨d0,d1,d2,d3,d4,d5,df⟩:=qb9 hv1;have kk1:w1.cell? ⟨kb,1,none⟩=some (.pointer (some ⟨rq,0,none⟩)):=by simp[World.cell?,hk1]
 have L1:Hid (LkAt w1 c ra.2∧Below c w w1∧ExAt w1 r _ rq∧_):=⟨l1,b1,hx1,hv1⟩;clear l1 b1 hv1 hk1 hx1 c0 c1 c2 c3 c4 c5 f;go_wp2_with fail;refine (ihr ra.2 _ _ rq L1.out.2.2.1 HK.out L1.out.1).mono ?_;rw[HR2.out];rintro e w2 ⟨rfl,l2,b2⟩;have hv2:w2.heap[q]?=_:=(b2.block q hqc).trans L1.out.2.2.2;obtain ⟨f0,f1,f2,f3,f4,f5,ff⟩:=qb9 hv2;have L2:Hid (LkAt w2 c rb.2∧Below c w1 w2):=⟨l2,b2⟩;clear l2 b2 hv2 d0 d1 d2 d3 d4 d5 df;have fin1:∀ e w3,e=Ending.returned (.int .u8 98)→LkAt w3 c (if Px.qft ra.1 rb.1 then Px.say 6 own rb.2 else rb.2)→Below c w2 w3→e=.returned (.int .u8 ((Px.qao ⟨op,n,word,pl,own,some l,some r⟩ k).1:Int))∧LkAt w3 c (Px.qao ⟨op,n,word,pl,own,some l,some r⟩ k).2∧Below c w w3:=by
  intro e w3 he hl3 hb3;rw[e1.out,e2.out];exact ⟨he,hl3,(L1.out.2.1.trans L2.out.2).trans hb3⟩
 have FIN:Hid (_):=fin1;clear fin1;cases g1:((ra.1:Int) != rb.1)
 ·rcases OR.out with ho | ho
  ·have o5:((op:Int) == 61)=true:=by rw[ho];rfl
   go_wp2_with fail;go_ret;exact FIN.out _ _ rfl (by rw[e4.out,g1];exact L2.out.1) (Below.refl _ _)
  ·have o5:((op:Int) == 61)=false:=by rw[ho];rfl
   have o6:((op:Int) == 35)=true:=by rw[ho];rfl
   go_wp2_with fail;go_ret;exact FIN.out _ _ rfl (by rw[e4.out,g1];exact L2.out.1) (Below.refl _ _)
 ·cases g2:((ra.1:Int) != 63)
  ·rcases OR.out with ho | ho
   ·have o5:((op:Int) == 61)=true:=by rw[ho];rfl
    go_wp2_with fail;go_ret;exact FIN.out _ _ rfl (by rw[e4.out,g1,g2];exact L2.out.1) (Below.refl _ _)
   ·have o5:((op:Int) == 61)=false:=by rw[ho];rfl
    have o6:((op:Int) == 35)=true:=by rw[ho];rfl
    go_wp2_with fail;go_ret;exact FIN.out _ _ rfl (by rw[e4.out,g1,g2];exact L2.out.1) (Below.refl _ _)
  ·cases g3:((rb.1:Int) != 63)
   ·rcases OR.out with ho | ho
    ·have o5:((op:Int) == 61)=true:=by rw[ho];rfl
     go_wp2_with fail;go_ret;exact FIN.out _ _ rfl (by rw[e4.out,g1,g2,g3];exact L2.out.1) (Below.refl _ _)
    ·have o5:((op:Int) == 61)=false:=by rw[ho];rfl
     have o6:((op:Int) == 35)=true:=by rw[ho];rfl
     go_wp2_with fail;go_ret;exact FIN.out _ _ rfl (by rw[e4.out,g1,g2,g3];exact L2.out.1) (Below.refl _ _)
   ·rcases OR.out with ho | ho
    ·have o5:((op:Int) == 61)=true:=by rw[ho];rfl
     go_wp2_with fail;refine (qey c 6 own rb.2 _ L2.out.1).mono ?_;rintro e w3 ⟨rfl,l3,b3⟩;have L3:Hid (_∧_):=⟨l3,b3⟩;clear l3 b3;go_wp2_with fail;go_ret;exact FIN.out _ _ rfl (by rw[e4.out,g1,g2,g3];exact L3.out.1) L3.out.2
    ·have o5:((op:Int) == 61)=false:=by rw[ho];rfl
     have o6:((op:Int) == 35)=true:=by rw[ho];rfl
     go_wp2_with fail;refine (qey c 6 own rb.2 _ L2.out.1).mono ?_;rintro e w3 ⟨rfl,l3,b3⟩;have L3:Hid (_∧_):=⟨l3,b3⟩;clear l3 b3;go_wp2_with fail;go_ret;exact FIN.out _ _ rfl (by rw[e4.out,g1,g2,g3];exact L3.out.1) L3.out.2
theorem znw (c op:Nat) (hop:op=42∨op=47∨op=43∨op=45∨op=60) (n:Nat) (word:ByteArray) (pl own:Nat) (l r:Px.Ex) (ihl:qco c l) (ihr:qco c r):qco c ⟨op,n,word,pl,own,some l,some r⟩:=by
 intro k w ok q hx hok hl;obtain ⟨hq,kb,lq,rq,hkb,hne,hv,hkc,hxl,hxr⟩:=hx;obtain ⟨c0,c1,c2,c3,c4,c5,f⟩:=qb9 hv;have k0:w.cell? ⟨kb,0,none⟩=some (.pointer (some ⟨lq,0,none⟩)):=by simp[World.cell?,hkc]
 have hqc:=hok q hq;have hkbc:=hok kb hkb;have HL:Hid (LkAt w c k∧(ExAt w l _ lq∧ExAt w r _ rq)∧_∧_):=⟨hl,⟨hxl,hxr⟩,hv,hkc⟩;have HK:Hid (∀ i,(ok i∧i≠q∧i≠kb)→i < c):=fun i hi=>hok i hi.1
 have e1:Hid (Px.qao ⟨op,n,word,pl,own,some l,some r⟩ k=Px.binK op own (Px.qao l k).1 (Px.qao r (Px.qao l k).2)):=rfl;clear hl hv hkc hxl hxr hok;generalize hr1:Px.qao l k=ra at e1;have HR1:Hid (_):=hr1;clear hr1;generalize hr2:Px.qao r ra.2=rb at e1;have HR2:Hid (_):=hr2;clear hr2;have e2:Hid (Px.binK op own ra.1 rb=(if op=60 then 98 else 105,if Px.isK ra.1 105 && Px.isK rb.1 105 then rb.2 else Px.say 6 own rb.2)):=by unfold Hid Px.binK;rw[if_neg (by omega)]
 have o1:((op:Int) == 110)=false:=by rw[beq_eq_false_iff_ne];omega
 have o2:((op:Int) == 116)=false:=by rw[beq_eq_false_iff_ne];omega
 have o3:((op:Int) == 119)=false:=by rw[beq_eq_false_iff_ne];omega
 have o4:((op:Int) == 33)=false:=by rw[beq_eq_false_iff_ne];omega
 have o5:((op:Int) == 61)=false:=by rw[beq_eq_false_iff_ne];omega
 have o6:((op:Int) == 35)=false:=by rw[beq_eq_false_iff_ne];omega
 clear hop;go_enter Tryz.func111,Tryz.ntmps111
 go_wp2_with fail;refine (ihl k _ _ lq HL.out.2.1.1 HK.out HL.out.1).mono ?_;rw[HR1.out];rintro e w1 ⟨rfl,l1,b1⟩;have hv1:w1.heap[q]?=_:=(b1.block q hqc).trans HL.out.2.2.1;have hk1:w1.heap[kb]?=_:=(b1.block kb hkbc).trans HL.out.2.2.2;have hx1:ExAt w1 r _ rq:=HL.out.2.1.2.keep fun i hi=>b1.block i (HK.out i hi)
 obtain ⟨d0,d1,d2,d3,d4,d5,df⟩:=qb9 hv1;have kk1:w1.cell? ⟨kb,1,none⟩=some (.pointer (some ⟨rq,0,none⟩)):=by simp[World.cell?,hk1]
 have L1:Hid (LkAt w1 c ra.2∧Below c w w1∧ExAt w1 r _ rq∧_):=⟨l1,b1,hx1,hv1⟩;clear l1 b1 hv1 hk1 hx1 c0 c1 c2 c3 c4 c5 f;go_wp2_with fail;refine (ihr ra.2 _ _ rq L1.out.2.2.1 HK.out L1.out.1).mono ?_;rw[HR2.out];rintro e w2 ⟨rfl,l2,b2⟩;have hv2:w2.heap[q]?=_:=(b2.block q hqc).trans L1.out.2.2.2;obtain ⟨f0,f1,f2,f3,f4,f5,ff⟩:=qb9 hv2;have L2:Hid (LkAt w2 c rb.2∧Below c w1 w2∧_):=⟨l2,b2,hv2⟩;clear l2 b2 hv2 d0 d1 d2 d3 d4 d5 df;have fin1:∀ (e:Ending) (w3:World) (z:Nat),e=Ending.returned (.int .u8 (z:Int))→z=(if op=60 then 98 else 105)→LkAt w3 c (if Px.isK ra.1 105 && Px.isK rb.1 105 then rb.2 else Px.say 6 own rb.2)→Below c w2 w3→e=.returned (.int .u8 ((Px.qao ⟨op,n,word,pl,own,some l,some r⟩ k).1:Int))∧LkAt w3 c (Px.qao ⟨op,n,word,pl,own,some l,some r⟩ k).2∧Below c w w3:=by
  intro e w3 z he hz hl3 hb3;rw[e1.out,e2.out];subst hz;exact ⟨he,hl3,(L1.out.2.1.trans L2.out.2.1).trans hb3⟩
 have FIN:Hid (_):=fin1;clear fin1;cases g1:Px.isK ra.1 105
 ·by_cases ho:op=60
  ·have o7:((op:Int) == 60)=true:=by rw[ho];rfl
   have HO:Hid (_):=ho;clear ho;go_wp2_with (first | (go_at_call 113;refine (qdc _ 105 _).mono ?_;rintro e w' ⟨rfl,rfl⟩))
   refine (qey c 6 own rb.2 _ L2.out.1).mono ?_;rintro e w3 ⟨rfl,l3,b3⟩;have hv3:w3.heap[q]?=_:=(b3.block q hqc).trans L2.out.2.2;obtain ⟨x0,x1,x2,x3,x4,x5,xf⟩:=qb9 hv3;have L3:Hid (_∧_):=⟨l3,b3⟩;clear l3 b3 hv3;go_wp2_with fail;go_ret;exact FIN.out _ _ 98 rfl (by rw[if_pos HO.out]) (by rw[g1];exact L3.out.1) L3.out.2
  ·have o7:((op:Int) == 60)=false:=by rw[beq_eq_false_iff_ne];omega
   have HO:Hid (_):=ho;clear ho;go_wp2_with (first | (go_at_call 113;refine (qdc _ 105 _).mono ?_;rintro e w' ⟨rfl,rfl⟩))
   refine (qey c 6 own rb.2 _ L2.out.1).mono ?_;rintro e w3 ⟨rfl,l3,b3⟩;have hv3:w3.heap[q]?=_:=(b3.block q hqc).trans L2.out.2.2;obtain ⟨x0,x1,x2,x3,x4,x5,xf⟩:=qb9 hv3;have L3:Hid (_∧_):=⟨l3,b3⟩;clear l3 b3 hv3;go_wp2_with fail;go_ret;exact FIN.out _ _ 105 rfl (by rw[if_neg HO.out]) (by rw[g1];exact L3.out.1) L3.out.2
 ·cases g2:Px.isK rb.1 105
  ·by_cases ho:op=60
   ·have o7:((op:Int) == 60)=true:=by rw[ho];rfl
    have HO:Hid (_):=ho;clear ho;go_wp2_with (first | (go_at_call 113;refine (qdc _ 105 _).mono ?_;rintro e w' ⟨rfl,rfl⟩))
    refine (qey c 6 own rb.2 _ L2.out.1).mono ?_;rintro e w3 ⟨rfl,l3,b3⟩;have hv3:w3.heap[q]?=_:=(b3.block q hqc).trans L2.out.2.2;obtain ⟨x0,x1,x2,x3,x4,x5,xf⟩:=qb9 hv3;have L3:Hid (_∧_):=⟨l3,b3⟩;clear l3 b3 hv3;go_wp2_with fail;go_ret;exact FIN.out _ _ 98 rfl (by rw[if_pos HO.out]) (by rw[g1,g2];exact L3.out.1) L3.out.2
   ·have o7:((op:Int) == 60)=false:=by rw[beq_eq_false_iff_ne];omega
    have HO:Hid (_):=ho;clear ho;go_wp2_with (first | (go_at_call 113;refine (qdc _ 105 _).mono ?_;rintro e w' ⟨rfl,rfl⟩))
    refine (qey c 6 own rb.2 _ L2.out.1).mono ?_;rintro e w3 ⟨rfl,l3,b3⟩;have hv3:w3.heap[q]?=_:=(b3.block q hqc).trans L2.out.2.2;obtain ⟨x0,x1,x2,x3,x4,x5,xf⟩:=qb9 hv3;have L3:Hid (_∧_):=⟨l3,b3⟩;clear l3 b3 hv3;go_wp2_with fail;go_ret;exact FIN.out _ _ 105 rfl (by rw[if_neg HO.out]) (by rw[g1,g2];exact L3.out.1) L3.out.2
  ·by_cases ho:op=60
   ·have o7:((op:Int) == 60)=true:=by rw[ho];rfl
    have HO:Hid (_):=ho;clear ho;go_wp2_with (first | (go_at_call 113;refine (qdc _ 105 _).mono ?_;rintro e w' ⟨rfl,rfl⟩))
    go_ret;exact FIN.out _ _ 98 rfl (by rw[if_pos HO.out]) (by rw[g1,g2];exact L2.out.1) (Below.refl _ _)
   ·have o7:((op:Int) == 60)=false:=by rw[beq_eq_false_iff_ne];omega
    have HO:Hid (_):=ho;clear ho;go_wp2_with (first | (go_at_call 113;refine (qdc _ 105 _).mono ?_;rintro e w' ⟨rfl,rfl⟩))
    go_ret;exact FIN.out _ _ 105 rfl (by rw[if_neg HO.out]) (by rw[g1,g2];exact L2.out.1) (Below.refl _ _)
theorem qcr (c:Nat) (x:Px.Ex) (h:Px.WfE x):qco c x:=by
 match x,h with
 | ⟨op,n,word,pl,own,none,none⟩,h =>
  by_cases h1:op=119
  ·subst h1;exact zhq c n word pl own
  ·have h':op=110∨op=116∨op=119:=h;exact zhr c op n word pl own (by omega)
 | ⟨op,n,word,pl,own,some l,none⟩,h =>
  obtain ⟨h1,h2⟩:=(show op=33∧Px.WfE l from h);subst h1;exact znt c n word pl own l (qcr c l h2)
 | ⟨op,n,word,pl,own,some l,some r⟩,h =>
  obtain ⟨h1,h2,h3⟩:=(show (op=42∨op=47∨op=43∨op=45∨op=60∨op=61∨op=35)∧Px.WfE l∧Px.WfE r from h);by_cases h4:op=61∨op=35
  ·exact znu c op h4 n word pl own l r (qcr c l h2) (qcr c r h3)
  ·exact znw c op (by omega) n word pl own l r (qcr c l h2) (qcr c r h3)
open Go.RowKit
theorem SmsAt.get {w:World} {l:List Px.Sm} {ok:Nat→Prop} {qs:List Nat} (h:SmsAt w l ok qs) (k:Nat) (hk:k < l.length):∃ q,qs[k]?=some q∧SmAt w l[k] ok q:=by
 induction l generalizing qs k with
 | nil=>simp at hk
 | cons x l ih =>
  obtain ⟨q,qs',rfl,h1,h2⟩:=h.zem;cases k with
  | zero=>exact ⟨q,rfl,h1⟩
  | succ k =>
   obtain ⟨q',g1,g2⟩:=ih h2 k (by simpa using hk)
   exact ⟨q',g1,g2⟩
theorem SlAt.cell {w:World} {v:Value} {qs:List Nat} {ok:Nat→Prop} (h:SlAt w v qs ok) {k q:Nat} (hk:qs[k]?=some q):∃ g cap,v=.slice (some ⟨g,0,none⟩) qs.length cap∧ok g∧w.cell? ⟨g,k,none⟩=some (.pointer (some ⟨q,0,none⟩)):=by
 rcases h with ⟨h1,h2⟩ | ⟨g,cap,cur,h1,h2,h3,h4,h5,h6,h7⟩
 ·subst h2;simp at hk
 ·refine ⟨g,cap,h1,h2,?_⟩;have hl:k < qs.length:=(List.getElem?_eq_some_iff.1 hk).1;have e1:cur[k]?=(qs.map ptr)[k]?:=by
   rw[← h7,List.getElem?_take_of_lt hl];simp
  simp only[World.cell?,h3];rw[e1];simp[hk,ptr]
theorem SlAt.len {w:World} {v:Value} {qs:List Nat} {ok:Nat→Prop} (h:SlAt w v qs ok):∃ a c,v=.slice a qs.length c∧qs.length≤maxLen:=by
 rcases h with ⟨h1,h2⟩ | ⟨g,cap,cur,h1,h2,h3,h4,h5,h6,h7⟩
 ·subst h2;exact ⟨none,0,h1,by simp⟩
 ·exact ⟨_,cap,h1,by omega⟩
def qkj (c:Nat) (x:Px.Sm):Prop:=∀ (k:Px.Lk) (w:World) (ok:Nat→Prop) (q:Nat),SmAt w x ok q→(∀ i,ok i→i < c)→LkAt w c k→Px.WfH x→Px.WfS x.one→Px.WfS x.two→k.vars.length+1+Px.cnt x.one+Px.cnt x.two≤1000000 →
 Calls Tryz.prog 48 #[.pointer (some ⟨c,0,none⟩),.pointer (some ⟨q,0,none⟩)] w fun e w'=>e=.returned (.tuple #[])∧LkAt w' c (Px.qcc x k)∧Below c w w'
def qio (c:Nat) (l:List Px.Sm):Prop:=∀ (k:Px.Lk) (w:World) (ok:Nat→Prop) (v:Value) (qs:List Nat),SlAt w v qs ok→SmsAt w l ok qs→(∀ i,ok i→i < c)→LkAt w c k→Px.WfS l→k.vars.length+Px.cnt l≤1000000 →
 Calls Tryz.prog 30 #[.pointer (some ⟨c,0,none⟩),v] w fun e w'=>e=.returned (.tuple #[])∧LkAt w' c (Px.qap l k)∧Below c w w'
theorem qyx {l:List Px.Sm} (h:Px.WfS l) (k:Nat) (hk:k < l.length):Px.WfH l[k]∧Px.WfS l[k].one∧Px.WfS l[k].two:=by
 induction l generalizing k with
 | nil=>simp at hk
 | cons x l ih =>
  obtain ⟨h1,h2,h3,h4⟩:=Px.qd7.1 h;cases k with
  | zero=>exact ⟨h1,h2,h3⟩
  | succ k=>exact ih h4 k (by simpa using hk)
theorem qlk (c:Nat) (l:List Px.Sm) (hx:∀ i (hi:i < l.length),qkj c l[i]):qio c l:=by
 intro k w ok v qs hs hm hok hl hw hc;obtain ⟨va,vc,rfl,hml⟩:=hs.len;unfold maxLen at hml;have hlen:=hm.len;have H:Hid (SlAt w (.slice va qs.length vc) qs ok∧SmsAt w l ok qs∧(∀ i,ok i→i < c)∧LkAt w c k∧Px.WfS l):=⟨hs,hm,hok,hl,hw⟩;have HX:Hid (_):=hx;have HLen:Hid (_):=hlen;clear hs hm hok hl hw hx hlen;go_enter Tryz.func30,Tryz.ntmps30
 go_wp2_with fail;go_loopw [4] (fun i wr=>∃ n:Nat,n≤qs.length∧i=.int .i64 n∧Hid (Below c w wr∧∃ k',LkAt wr c k'∧Px.qap (l.drop n) k'=Px.qap l k∧k'.vars.length+Px.cnt (l.drop n)≤1000000)) (fun i _=>qs.length - (intOf i).toNat)
 case atStart=>exact ⟨0,by omega,rfl,Below.refl _ _,k,H.out.2.2.2.1,rfl,hc⟩
 case round =>
  obtain ⟨n,hn,rfl,hr⟩:=hrel;obtain ⟨hb,k',hk',he,hv⟩:=hr.out;clear hr;by_cases hlt:n < qs.length
  ·have hnl:n < l.length:=by have:=HLen.out;omega
   obtain ⟨q,hq1,hq2⟩:=H.out.2.1.get n hnl;obtain ⟨g,cap,hgv,hg,hcell⟩:=H.out.1.cell hq1;cases hgv;have hcr:wr.cell? ⟨g,n,none⟩=some (.pointer (some ⟨q,0,none⟩)):=by rw[hb.cell (p:=⟨g,n,none⟩) (H.out.2.2.1 g hg)];exact hcell
   have hq3:SmAt wr l[n] ok q:=hq2.keep fun i hi=>hb.block i (H.out.2.2.1 i hi)
   have hdrop:l.drop n=l[n]::l.drop (n+1):=List.drop_eq_getElem_cons hnl;rw[hdrop,Px.qdi] at he;rw[hdrop,Px.qik] at hv;have HH:Hid (Below c w wr∧LkAt wr c k'∧Px.qap (l.drop (n+1)) (Px.qcc l[n] k')=Px.qap l k∧SmAt wr l[n] ok q∧k'.vars.length+(1+Px.cnt l[n].one+Px.cnt l[n].two+Px.cnt (l.drop (n+1)))≤1000000):=⟨hb,hk',he,hq3,hv⟩;clear hb hk' he hq3 hcell hq2 hdrop hv;go_wp2_with fail;refine (HX.out n hnl k' _ ok q HH.out.2.2.2.1 H.out.2.2.1 HH.out.2.1 (qyx H.out.2.2.2.2 n hnl).1 (qyx H.out.2.2.2.2 n hnl).2.1 (qyx H.out.2.2.2.2 n hnl).2.2 ?hcnt).mono ?_
   case hcnt=>have:=HH.out.2.2.2.2;omega
   rintro e w1 ⟨rfl,l1,b1⟩;have L1:Hid (_∧_):=⟨l1,b1⟩;clear l1 b1;go_wp2_with fail;refine ⟨⟨n+1,by omega,by go_num,HH.out.1.trans L1.out.2,Px.qcc l[n] k',L1.out.1,HH.out.2.2.1,?_⟩,by simp[intOf];omega⟩
   have hvx:=Px.qdh [l[n]] k';rw[Px.qdi,Px.qhu,Px.qik,Px.qho] at hvx
   have:=HH.out.2.2.2.2
   omega
  ·have hnl:l.drop n=[]:=List.drop_of_length_le (by have:=HLen.out;omega)
   rw[hnl,Px.qhu] at he;have HH:Hid (Below c w wr∧LkAt wr c (Px.qap l k)):=⟨hb,by rw[← he];exact hk'⟩
   clear hb hk' he hnl hv;go_wp2_with fail;go_end0
   exact ⟨rfl,HH.out.2,HH.out.1⟩
end Ref
end Go.Proofs.YthanmfbakpcigaaGreatDoor
