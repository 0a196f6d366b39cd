import Derived.Test.YtnhkpbmplefnaaaGreatDoorP08
import Derived.Test.YtnhkpbmplefnaaaGreatDoorP15
import Derived.Test.YtnhkpbmplefnaaaGreatDoorC02
namespace Go.Proofs.YtnhkpbmplefnaaaGreatDoor
open Go.RowKit
namespace Law
theorem num_any (e:Int) (w:World):Calls Tryz.prog 14 #[.int .i64 e] w fun r w'=>r=.returned (.int .i64 e)∧w'=w:=by
 go_enter Tryz.func14,Tryz.ntmps14
 go_wp2_with fail
 go_ret
 exact ⟨rfl,rfl⟩
set_option maxRecDepth 100000 in
theorem checks_walk (E:Nat→Addr) (s:ByteArray) (w:World) (hs:s.size≤maxLen) (g:Lg.Gw w E) :
  Calls Tryz.prog 3 #[.string s] w fun e w'=>e=.returned (.bool true)∧Below w.heap.size w w':=by
 have H1:Hid (Calls Tryz.prog 12 #[.string s] w fun e w'=>e=.returned (.tuple #[.int .i64 ((Px.check s).1:Int),.int .i64 ((Px.check s).2:Int)])∧Below w.heap.size w w') :=
  Lg.check_any E (fun l hl c m B=>Lg.block_ok c m B E l hl) s w hs g
 have H2:Hid (∀ W,Calls Tryz.prog 13 #[.string s] W fun e w'=>e=.returned (.tuple #[.int .i64 ((Px.check s).1:Int),.int .i64 ((Px.check s).2:Int)])∧Below W.heap.size W w'):=fun W=>Ref.check_any s W hs
 clear g hs
 generalize Px.check s=r at *
 obtain ⟨a,b⟩:=r
 go_enter Tryz.func3,Tryz.ntmps3
 go_wp2_with fail
 refine H1.out.mono ?_
 rintro e w1 ⟨rfl,b1⟩
 go_wp2_with fail
 refine (H2.out _).mono ?_
 rintro e w2 ⟨rfl,b2⟩
 have HB:Hid (Below w.heap.size w w2):=b1.trans (b2.mono b1.size)
 clear b1 b2
 go_wp2_with fail
 refine (num_any _ _).mono ?_
 rintro e w3 ⟨rfl,rfl⟩
 go_wp2_with fail
 go_ret
 exact ⟨rfl,HB.out⟩
end Law
end Go.Proofs.YtnhkpbmplefnaaaGreatDoor
