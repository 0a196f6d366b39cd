/-
  DERIVED. GIVEN WITH THE SEED: THE CARDS: each row of YtokkhhekekeokaaGreatDoorRows.lean that lists a variable, with what it lists TIED to the program's text (the seventh form; the later family's looks); each row that meets fmt, with fmt's text TOLD by the authors' own Lean function (tested against real Go, not proved from fmt's source: count such statements apart). THE CARD IS WHAT COUNTS. Prove the row's statement (the work); the ties are given (YtokkhhekekeokaaGreatDoorTie.lean); close each card by the builder's one call (the guide's Derived/Test/ToyasCard.lean, 'card_holds'). Laid BY PROGRAM, IN A SANDBOX (cutbox-door.mjs). By AI agents, Wed Nov 11 2026. No macro, syntax, notation, axiom, sorry.
-/
import Derived.Test.YtokkhhekekeokaaGreatDoorRows
import GoSem.ClaimSeven
namespace Go.Proofs.YtokkhhekekeokaaGreatDoor
namespace Rows

/-- THE TIED CARD OF 'errandlaw.Codes'. -/
def codesCard : Claim7 := { stood := { row := codesRow, standIns := [], harness := (true, "d49c0e7522b31b1f2f0bd810a7c3177533da3af077f37cd6ee581ea5ec2c15c4"), looks := true }, kinds := [], alts := [], laidByText := true, laidKinds := [.handle, .sentinel, .sentinel, .sentinel, .sentinel, .sentinel, .sentinel, .data, .sentinel, .sentinel, .sentinel, .sentinel, .sentinel, .data, .sentinel, .sentinel], laidTests := true, laidLooks := .later }
def CodesCardSaid : Prop := Claim7.holds Tryz.pinned (.plain (OpenSpec.ofChange codesSpec)) codesCard

/-- THE TIED CARD OF 'errandlaw.Hostile'. -/
def hostileCard : Claim7 := { stood := { row := hostileRow, standIns := [], harness := (true, "d49c0e7522b31b1f2f0bd810a7c3177533da3af077f37cd6ee581ea5ec2c15c4"), looks := true }, kinds := [], alts := [], laidByText := true, laidKinds := [.handle, .sentinel, .sentinel, .sentinel, .sentinel, .sentinel, .sentinel, .data, .sentinel, .sentinel, .sentinel, .sentinel, .sentinel, .data, .sentinel, .sentinel], laidTests := true, laidLooks := .later }
def HostileCardSaid : Prop := Claim7.holds Tryz.pinned (.plain (OpenSpec.ofChange hostileSpec)) hostileCard

/-- THE SECOND FORM's CARD OF 'errandlaw.Codes'. -/
def codesUptoCard : Claim7 := { stood := { row := codesUptoRow, standIns := [], harness := (true, "d49c0e7522b31b1f2f0bd810a7c3177533da3af077f37cd6ee581ea5ec2c15c4"), looks := true }, kinds := [], alts := [], laidByText := true, laidKinds := [.handle, .sentinel, .sentinel, .sentinel, .sentinel, .sentinel, .sentinel, .data, .sentinel, .sentinel, .sentinel, .sentinel, .sentinel, .data, .sentinel, .sentinel], laidTests := true, laidLooks := .later }
def CodesUptoCardSaid : Prop := Claim7.holds Tryz.pinned (.plain (OpenSpec.upto codesSpec)) codesUptoCard

/-- THE SECOND FORM's CARD OF 'errandlaw.Hostile'. -/
def hostileUptoCard : Claim7 := { stood := { row := hostileUptoRow, standIns := [], harness := (true, "d49c0e7522b31b1f2f0bd810a7c3177533da3af077f37cd6ee581ea5ec2c15c4"), looks := true }, kinds := [], alts := [], laidByText := true, laidKinds := [.handle, .sentinel, .sentinel, .sentinel, .sentinel, .sentinel, .sentinel, .data, .sentinel, .sentinel, .sentinel, .sentinel, .sentinel, .data, .sentinel, .sentinel], laidTests := true, laidLooks := .later }
def HostileUptoCardSaid : Prop := Claim7.holds Tryz.pinned (.plain (OpenSpec.upto hostileSpec)) hostileUptoCard
end Rows
end Go.Proofs.YtokkhhekekeokaaGreatDoor
