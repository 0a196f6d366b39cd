/-
  NARROWER THAN 'FOR EVERY INPUT', by the rows' own cells (each row's printed sentence says how): Codes: laid · Hostile: laid.
  DERIVED. THE GIVEN ROWS OF THIS SEAT. 2 by the template 'for every input the law returns true; each argument reads behind the call as it read before'; 0 by the template 'total and deterministic' (their statements: YtokkhhekekeokaaGreatDoorTotals.lean).
  GIVEN WITH THE SEED: the statements are not yours to turn. If you find one false, say at which input.
  Laid BY PROGRAM, IN A SANDBOX (cutbox-rows.mjs): the forced cells as the released guide's own fill.sh prints them over the translation bdd6f2aef0fae6bc… (all of the seat's roots in one cut). By AI agents, Wed Nov 11 2026. No macro, syntax, notation, axiom, sorry.
-/
import Derived.Test.YtokkhhekekeokaaGreatDoorChecked
import GoSem.Claim
import GoSem.ClaimJoined
import GoSem.ClaimMapViews
import Derived.JoinedTies
import Derived.KernelRfl
namespace Go.Proofs.YtokkhhekekeokaaGreatDoor
/- THE CELL 'sum', in the pinned program and in every row, IS THE sha256 OF THE DUMP (.gsa) THAT YtokkhhekekeokaaGreatDoorProg.lean LOADS. Nothing in Lean hashes anything: it is a label: what it is worth is what the hold of that sum in a sandbox is worth. -/
noncomputable def Tryz.pinned : Pinned := { name := "ytokkhhekekeokaagreatdoor", sum := "bdd6f2aef0fae6bc322f0d0de9679c4d88dba275600ad23734bd2f3750bb31d4", checked := Tryz.checked }
namespace Rows
def none {H : Type} : Left H := { results := [], args := [] }

/- WHAT THE LISTED PACKAGE-LEVEL VARIABLES READ AS WHEN THE CALL BEGINS. Each datum BY PROGRAM (the guide's laid-datum.mjs) off the statement by which the dump's own 'gosem.cut.vars' lays the variable. In a bare row this is a premise. The card (YtokkhhekekeokaaGreatDoorCards.lean) ties it to the program's text. -/
def laid_errors_errorType {H : Type} : DataW H := .iface "internal/reflectlite.rtype" (.agg [.ptr (.lit (.string [101, 114, 114, 111, 114]))])
def laid_errand_lang_ErrLong {H : Type} : DataW H := .iface "*errors.errorString" (.ptr (.agg [.lit (.string [116, 104, 101, 32, 116, 101, 120, 116, 32, 105, 115, 32, 116, 111, 111, 32, 108, 111, 110, 103])]))
def laid_errand_lang_ErrText {H : Type} : DataW H := .iface "*errors.errorString" (.ptr (.agg [.lit (.string [116, 104, 101, 32, 116, 101, 120, 116, 32, 105, 115, 32, 110, 111, 32, 101, 114, 114, 97, 110, 100])]))
def laid_errand_lang_ErrNest {H : Type} : DataW H := .iface "*errors.errorString" (.ptr (.agg [.lit (.string [98, 108, 111, 99, 107, 115, 32, 97, 110, 100, 32, 98, 114, 97, 99, 107, 101, 116, 115, 32, 115, 116, 97, 110, 100, 32, 116, 111, 111, 32, 100, 101, 101, 112])]))
def laid_errand_lang_ErrCount {H : Type} : DataW H := .iface "*errors.errorString" (.ptr (.agg [.lit (.string [97, 32, 110, 117, 109, 98, 101, 114, 32, 116, 104, 97, 116, 32, 109, 97, 121, 32, 110, 111, 116, 32, 115, 116, 97, 110, 100, 32, 116, 104, 101, 114, 101])]))
def laid_errand_lang_ErrName {H : Type} : DataW H := .iface "*errors.errorString" (.ptr (.agg [.lit (.string [97, 32, 119, 111, 114, 100, 32, 116, 104, 97, 116, 32, 105, 115, 32, 103, 105, 118, 101, 110, 32, 110, 111, 119, 104, 101, 114, 101, 32, 97, 104, 101, 97, 100])]))
def laid_errand_lang_ErrType {H : Type} : DataW H := .iface "*errors.errorString" (.ptr (.agg [.lit (.string [110, 111, 116, 32, 111, 102, 32, 116, 104, 101, 32, 107, 105, 110, 100, 32, 116, 104, 97, 116, 32, 105, 116, 32, 109, 117, 115, 116, 32, 98, 101])]))
def laid_errand_lang_ops {H : Type} : DataW H := .agg [.agg [.lit (.string [43]), .lit (.int .i64 1), .lit (.int .i64 1), .lit (.int .i64 1)], .agg [.lit (.string [45]), .lit (.int .i64 1), .lit (.int .i64 1), .lit (.int .i64 1)], .agg [.lit (.string [42]), .lit (.int .i64 2), .lit (.int .i64 1), .lit (.int .i64 1)], .agg [.lit (.string [47]), .lit (.int .i64 2), .lit (.int .i64 1), .lit (.int .i64 1)], .agg [.lit (.string [60]), .lit (.int .i64 0), .lit (.int .i64 1), .lit (.int .i64 2)], .agg [.lit (.string [61]), .lit (.int .i64 0), .lit (.int .i64 0), .lit (.int .i64 2)], .agg [.lit (.string [35]), .lit (.int .i64 0), .lit (.int .i64 0), .lit (.int .i64 2)]]
def laid_errand_machine_ErrCode {H : Type} : DataW H := .iface "*errors.errorString" (.ptr (.agg [.lit (.string [116, 104, 105, 115, 32, 105, 115, 32, 110, 111, 32, 99, 111, 100, 101])]))
def laid_errand_machine_errFails {H : Type} : DataW H := .iface "*errors.errorString" (.ptr (.agg [.lit (.string [115, 111, 109, 101, 116, 104, 105, 110, 103, 32, 102, 97, 105, 108, 115])]))
def laid_errand_machine_errWaits {H : Type} : DataW H := .iface "*errors.errorString" (.ptr (.agg [.lit (.string [116, 104, 101, 114, 101, 32, 105, 115, 32, 110, 111, 32, 97, 110, 115, 119, 101, 114])]))
def laid_errand_machine_errAgain {H : Type} : DataW H := .iface "*errors.errorString" (.ptr (.agg [.lit (.string [116, 104, 101, 32, 97, 110, 115, 119, 101, 114, 32, 119, 97, 115, 32, 110, 111, 44, 32, 97, 110, 100, 32, 105, 116, 32, 105, 115, 32, 97, 115, 107, 101, 100, 32, 97, 103, 97, 105, 110])]))
def laid_errand_machine_errStuck {H : Type} : DataW H := .iface "*errors.errorString" (.ptr (.agg [.lit (.string [119, 104, 97, 116, 32, 119, 97, 115, 32, 100, 111, 110, 101, 32, 99, 97, 110, 39, 116, 32, 98, 101, 32, 117, 110, 100, 111, 110, 101])]))
def laid_errand_machine_kindOf {H : Type} : DataW H := .agg [.lit (.int .i64 4), .lit (.int .i64 5), .lit (.int .i64 6), .lit (.int .i64 7), .lit (.int .i64 8), .lit (.int .i64 9), .lit (.int .i64 10)]
def laid_errand_journal_ErrOther {H : Type} : DataW H := .iface "*errors.errorString" (.ptr (.agg [.lit (.string [105, 116, 32, 105, 115, 32, 97, 110, 111, 116, 104, 101, 114, 32, 111, 110, 101, 39, 115])]))
def laid_errand_journal_ErrFull {H : Type} : DataW H := .iface "*errors.errorString" (.ptr (.agg [.lit (.string [116, 104, 101, 32, 102, 105, 108, 101, 115, 32, 97, 114, 101, 32, 102, 117, 108, 108])]))

/-- 'errandlaw.Codes': WHATEVER THE INPUT: true; the input reads as it did. -/
def codesSpec : ChangeSpec := { name := "codes", fn := fun _ => fun
  | [d1, d2] => { results := [.lit (.bool true)], args := [d1, d2] }
  | _ => none }
def codesRow : OpenClaim := { program := "ytokkhhekekeokaagreatdoor", sum := "bdd6f2aef0fae6bc322f0d0de9679c4d88dba275600ad23734bd2f3750bb31d4", func := "errand/errandlaw.Codes", spec := "codes", inPlace := ["internal/bytealg.IndexByteString", "internal/reflectlite.ValueOf", "(internal/reflectlite.Value).Type", "(internal/reflectlite.Value).IsNil", "internal/reflectlite.TypeOf", "(internal/reflectlite.Value).Elem", "(internal/reflectlite.Value).Set"], unfollowed := true, recurses := true, named := ["errand/lang.ErrLong", "errand/lang.ErrText", "errand/lang.ErrNest", "errand/lang.ops", "errors.errorType", "errand/lang.ErrCount", "errand/lang.ErrName", "errand/lang.ErrType", "errand/machine.ErrCode", "errand/journal.ErrFull", "errand/journal.ErrOther", "errand/machine.kindOf", "errand/machine.errFails", "errand/machine.errWaits", "errand/machine.errAgain", "errand/machine.errStuck"], apart := false, laid := [("errors.errorType", laid_errors_errorType), ("errand/lang.ErrLong", laid_errand_lang_ErrLong), ("errand/lang.ErrText", laid_errand_lang_ErrText), ("errand/lang.ErrNest", laid_errand_lang_ErrNest), ("errand/lang.ErrCount", laid_errand_lang_ErrCount), ("errand/lang.ErrName", laid_errand_lang_ErrName), ("errand/lang.ErrType", laid_errand_lang_ErrType), ("errand/lang.ops", laid_errand_lang_ops), ("errand/machine.ErrCode", laid_errand_machine_ErrCode), ("errand/machine.errFails", laid_errand_machine_errFails), ("errand/machine.errWaits", laid_errand_machine_errWaits), ("errand/machine.errAgain", laid_errand_machine_errAgain), ("errand/machine.errStuck", laid_errand_machine_errStuck), ("errand/machine.kindOf", laid_errand_machine_kindOf), ("errand/journal.ErrOther", laid_errand_journal_ErrOther), ("errand/journal.ErrFull", laid_errand_journal_ErrFull)] }
def CodesSaid : Prop := codesRow.holds Tryz.pinned (OpenSpec.ofChange codesSpec)

/-- ITS FALSE NEIGHBOUR: 'it returns false'. Refute it at one input. -/
def codesWrong : ChangeSpec := { name := "codes", fn := fun _ => fun
  | [d1, d2] => { results := [.lit (.bool false)], args := [d1, d2] }
  | _ => none }
def CodesWrongFalsely : Prop := codesRow.holds Tryz.pinned (OpenSpec.ofChange codesWrong)

/-- 'errandlaw.Hostile': WHATEVER THE INPUT: true; the input reads as it did. -/
def hostileSpec : ChangeSpec := { name := "hostile", fn := fun _ => fun
  | [d1, d2, d3, d4, d5] => { results := [.lit (.bool true)], args := [d1, d2, d3, d4, d5] }
  | _ => none }
def hostileRow : OpenClaim := { program := "ytokkhhekekeokaagreatdoor", sum := "bdd6f2aef0fae6bc322f0d0de9679c4d88dba275600ad23734bd2f3750bb31d4", func := "errand/errandlaw.Hostile", spec := "hostile", inPlace := ["internal/bytealg.IndexByteString", "internal/reflectlite.ValueOf", "(internal/reflectlite.Value).Type", "(internal/reflectlite.Value).IsNil", "internal/reflectlite.TypeOf", "(internal/reflectlite.Value).Elem", "(internal/reflectlite.Value).Set"], unfollowed := true, recurses := true, named := ["errand/lang.ErrLong", "errand/lang.ErrText", "errand/lang.ErrNest", "errand/lang.ops", "errors.errorType", "errand/lang.ErrCount", "errand/lang.ErrName", "errand/lang.ErrType", "errand/machine.ErrCode", "errand/journal.ErrFull", "errand/journal.ErrOther", "errand/machine.kindOf", "errand/machine.errFails", "errand/machine.errWaits", "errand/machine.errAgain", "errand/machine.errStuck"], apart := false, laid := [("errors.errorType", laid_errors_errorType), ("errand/lang.ErrLong", laid_errand_lang_ErrLong), ("errand/lang.ErrText", laid_errand_lang_ErrText), ("errand/lang.ErrNest", laid_errand_lang_ErrNest), ("errand/lang.ErrCount", laid_errand_lang_ErrCount), ("errand/lang.ErrName", laid_errand_lang_ErrName), ("errand/lang.ErrType", laid_errand_lang_ErrType), ("errand/lang.ops", laid_errand_lang_ops), ("errand/machine.ErrCode", laid_errand_machine_ErrCode), ("errand/machine.errFails", laid_errand_machine_errFails), ("errand/machine.errWaits", laid_errand_machine_errWaits), ("errand/machine.errAgain", laid_errand_machine_errAgain), ("errand/machine.errStuck", laid_errand_machine_errStuck), ("errand/machine.kindOf", laid_errand_machine_kindOf), ("errand/journal.ErrOther", laid_errand_journal_ErrOther), ("errand/journal.ErrFull", laid_errand_journal_ErrFull)] }
def HostileSaid : Prop := hostileRow.holds Tryz.pinned (OpenSpec.ofChange hostileSpec)

/-- ITS FALSE NEIGHBOUR: 'it returns false'. Refute it at one input. -/
def hostileWrong : ChangeSpec := { name := "hostile", fn := fun _ => fun
  | [d1, d2, d3, d4, d5] => { results := [.lit (.bool false)], args := [d1, d2, d3, d4, d5] }
  | _ => none }
def HostileWrongFalsely : Prop := hostileRow.holds Tryz.pinned (OpenSpec.ofChange hostileWrong)

/- THE SECOND FORM. 'bulk': how many values and letters a reading holds, each counted each time it is reached (what is shared counts as often as it is met; a slice's spare places count too). A statement '..UptoSaid' is the law's where the arguments, and the package variables that the reading takes, are together of bulk at most 1048576: NARROWER than '..Said'. Prove '..Said' where nothing that the law and all that it calls make is longer than what came in: it says more and counts as full. Else prove '..UptoSaid'. A law counts once. -/
mutual
def uptoBulk {H : Type} : DataW H → Nat
  | .lit (.string bytes) => bytes.length + 1
  | .lit _ => 1
  | .nil => 1
  | .ptr d => uptoBulk d + 1
  | .slice elems spare => uptoBulkAll elems + uptoBulkAll spare + 1
  | .agg parts => uptoBulkAll parts + 1
  | .iface _ d => uptoBulk d + 1
  | .map entries => uptoBulkEntries entries + 1
  | .held _ => 1
def uptoBulkAll {H : Type} : List (DataW H) → Nat
  | [] => 0
  | d :: r => uptoBulk d + uptoBulkAll r
def uptoBulkEntries {H : Type} : List (Lit × DataW H) → Nat
  | [] => 0
  | x :: r => uptoBulkEntry x + uptoBulkEntries r
def uptoBulkEntry {H : Type} : Lit × DataW H → Nat
  | (.string bytes, d) => bytes.length + uptoBulk d + 1
  | (_, d) => uptoBulk d + 1
 end
def uptoSmall : (H : Type) → List (DataW H) → Bool := fun _ ds => decide (uptoBulkAll ds ≤ 1048576)
def OpenSpec.upto (s : _root_.Go.ChangeSpec) : _root_.Go.OpenSpec := { _root_.Go.OpenSpec.ofChange s with cond := some uptoSmall }

/-- 'errandlaw.Codes', WHERE WHAT IT READS IS OF BULK AT MOST 1048576: true; the input reads as it did. -/
def codesUptoRow : OpenClaim := { program := "ytokkhhekekeokaagreatdoor", sum := "bdd6f2aef0fae6bc322f0d0de9679c4d88dba275600ad23734bd2f3750bb31d4", func := "errand/errandlaw.Codes", spec := "codes", inPlace := ["internal/bytealg.IndexByteString", "internal/reflectlite.ValueOf", "(internal/reflectlite.Value).Type", "(internal/reflectlite.Value).IsNil", "internal/reflectlite.TypeOf", "(internal/reflectlite.Value).Elem", "(internal/reflectlite.Value).Set"], unfollowed := true, recurses := true, named := ["errand/lang.ErrLong", "errand/lang.ErrText", "errand/lang.ErrNest", "errand/lang.ops", "errors.errorType", "errand/lang.ErrCount", "errand/lang.ErrName", "errand/lang.ErrType", "errand/machine.ErrCode", "errand/journal.ErrFull", "errand/journal.ErrOther", "errand/machine.kindOf", "errand/machine.errFails", "errand/machine.errWaits", "errand/machine.errAgain", "errand/machine.errStuck"], apart := false, laid := [("errors.errorType", laid_errors_errorType), ("errand/lang.ErrLong", laid_errand_lang_ErrLong), ("errand/lang.ErrText", laid_errand_lang_ErrText), ("errand/lang.ErrNest", laid_errand_lang_ErrNest), ("errand/lang.ErrCount", laid_errand_lang_ErrCount), ("errand/lang.ErrName", laid_errand_lang_ErrName), ("errand/lang.ErrType", laid_errand_lang_ErrType), ("errand/lang.ops", laid_errand_lang_ops), ("errand/machine.ErrCode", laid_errand_machine_ErrCode), ("errand/machine.errFails", laid_errand_machine_errFails), ("errand/machine.errWaits", laid_errand_machine_errWaits), ("errand/machine.errAgain", laid_errand_machine_errAgain), ("errand/machine.errStuck", laid_errand_machine_errStuck), ("errand/machine.kindOf", laid_errand_machine_kindOf), ("errand/journal.ErrOther", laid_errand_journal_ErrOther), ("errand/journal.ErrFull", laid_errand_journal_ErrFull)], narrowed := true }
def CodesUptoSaid : Prop := codesUptoRow.holds Tryz.pinned (OpenSpec.upto codesSpec)

/-- 'errandlaw.Hostile', WHERE WHAT IT READS IS OF BULK AT MOST 1048576: true; the input reads as it did. -/
def hostileUptoRow : OpenClaim := { program := "ytokkhhekekeokaagreatdoor", sum := "bdd6f2aef0fae6bc322f0d0de9679c4d88dba275600ad23734bd2f3750bb31d4", func := "errand/errandlaw.Hostile", spec := "hostile", inPlace := ["internal/bytealg.IndexByteString", "internal/reflectlite.ValueOf", "(internal/reflectlite.Value).Type", "(internal/reflectlite.Value).IsNil", "internal/reflectlite.TypeOf", "(internal/reflectlite.Value).Elem", "(internal/reflectlite.Value).Set"], unfollowed := true, recurses := true, named := ["errand/lang.ErrLong", "errand/lang.ErrText", "errand/lang.ErrNest", "errand/lang.ops", "errors.errorType", "errand/lang.ErrCount", "errand/lang.ErrName", "errand/lang.ErrType", "errand/machine.ErrCode", "errand/journal.ErrFull", "errand/journal.ErrOther", "errand/machine.kindOf", "errand/machine.errFails", "errand/machine.errWaits", "errand/machine.errAgain", "errand/machine.errStuck"], apart := false, laid := [("errors.errorType", laid_errors_errorType), ("errand/lang.ErrLong", laid_errand_lang_ErrLong), ("errand/lang.ErrText", laid_errand_lang_ErrText), ("errand/lang.ErrNest", laid_errand_lang_ErrNest), ("errand/lang.ErrCount", laid_errand_lang_ErrCount), ("errand/lang.ErrName", laid_errand_lang_ErrName), ("errand/lang.ErrType", laid_errand_lang_ErrType), ("errand/lang.ops", laid_errand_lang_ops), ("errand/machine.ErrCode", laid_errand_machine_ErrCode), ("errand/machine.errFails", laid_errand_machine_errFails), ("errand/machine.errWaits", laid_errand_machine_errWaits), ("errand/machine.errAgain", laid_errand_machine_errAgain), ("errand/machine.errStuck", laid_errand_machine_errStuck), ("errand/machine.kindOf", laid_errand_machine_kindOf), ("errand/journal.ErrOther", laid_errand_journal_ErrOther), ("errand/journal.ErrFull", laid_errand_journal_ErrFull)], narrowed := true }
def HostileUptoSaid : Prop := hostileUptoRow.holds Tryz.pinned (OpenSpec.upto hostileSpec)

end Rows
end Go.Proofs.YtokkhhekekeokaaGreatDoor
