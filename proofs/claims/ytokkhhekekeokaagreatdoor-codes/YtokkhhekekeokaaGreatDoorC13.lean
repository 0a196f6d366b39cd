import Derived.Test.YtokkhhekekeokaaGreatDoorC12
import Derived.Test.YtokkhhekekeokaaGreatDoorC11
set_option maxRecDepth 100000
namespace Go.Proofs.YtokkhhekekeokaaGreatDoor
open Go.RowKit Tryz
namespace Ref
open Px
theorem Dl (B c:Nat)(V:Vs)(l:List Sm)(hw:jM l)(hk:mZ V l):∀ i (hi:i < l.length),oz B c V 87 l[i]:=by
 match l with
 | []=>intro i hi;simp at hi
 | ⟨op,fD,pl,ex,gu,fZ,undo,n,gG,one,two⟩::rest =>
  obtain ⟨w1,w2,w3,w4⟩:=zi.1 hw;obtain ⟨k1,k2,k3,k4⟩:=zQ.1 hk;have hx:oz B c V 87 ⟨op,fD,pl,ex,gu,fZ,undo,n,gG,one,two⟩:=by
   dsimp only at w1 w2 w3 k1 k2 k3;have k1':=k1;rcases k1 with h | h | h | h | h | h
   ·exact Jx B c V _ h.1 w1.1 k1'
   ·exact J1 B c V _ h.1 (Ix B c V _ h.1 w1.1 k1')
   ·exact Iw B c V _ h.1 w1.1 k1' (Fw B c V one (Dl B c V one w2 (k2 (ak h.1)))).ok (Fw B c V two (Dl B c V two w3 (k3 (ak h.1)))).ok
   ·exact Kb B c V _ h (My B c V _ h (Fw B c V one (Dl B c V one w2 (k2 (ah (ak h))))).ok (Fw B c V two (Dl B c V two w3 (k3 (ah h)))).ok)
   ·exact Kd B c V _ h.1 h.2 (Fw B c V one (Dl B c V one w2 (k2 (ah (ah h.1)))))
   ·exact J0 B c V _ h
  intro i hi;cases i with
  | zero=>exact hx
  | succ i=>exact Dl B c V rest w4 k4 i (by simpa using hi)
theorem Qb (B c:Nat)(V:Vs)(l:List Sm)(hw:jM l)(hk:mZ V l):yh B c V l:=Fw B c V l (Dl B c V l hw hk)
theorem N0 (s:fq)(fK:List Int)(av:fC)(w:fu)(hs:s.size<=maxLen)(ha:jZ w av fK):Calls prog 6 #[.string s,av] w (ME s fK w) :=
 P8 (fun B c V l hw hk=>Qb B c V l hw hk) s fK av w hs ha
