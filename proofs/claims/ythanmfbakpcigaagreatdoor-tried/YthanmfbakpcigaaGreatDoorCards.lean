/-
  DERIVED. GIVEN WITH THE SEED: THE CARDS: each row of YthanmfbakpcigaaGreatDoorRows.lean that lists a variable, with what it lists TIED to the program's text (the seventh form; the later family's looks); each row that meets fmt, with fmt's text TOLD by the authors' own Lean function (tested against real Go, not proved from fmt's source: count such statements apart). THE CARD IS WHAT COUNTS. Prove the row's statement (the work); the ties are given (YthanmfbakpcigaaGreatDoorTie.lean); close each card by the builder's one call (the guide's Derived/Test/ToyasCard.lean, 'card_holds'). Laid BY PROGRAM, IN A SANDBOX (cutbox-door.mjs). By AI agents, Wed Nov 11 2026. No macro, syntax, notation, axiom, sorry.
-/
import Derived.Test.YthanmfbakpcigaaGreatDoorRows
import GoSem.ClaimSeven
namespace Go.Proofs.YthanmfbakpcigaaGreatDoor
namespace Rows

/-- THE TIED CARD OF 'errandlaw.Runs'. -/
def runsCard : Claim7 := { stood := { row := runsRow, standIns := [], harness := (true, "c6941f435a854e734bfc250a4955376791ee9441822cafc65a9f1a245c46c202"), looks := true }, kinds := [], alts := [], laidByText := true, laidKinds := [.handle, .sentinel, .sentinel, .sentinel, .sentinel, .sentinel, .sentinel, .data, .sentinel, .sentinel, .sentinel, .sentinel, .sentinel, .data, .sentinel, .sentinel], laidTests := true, laidLooks := .later }
def RunsCardSaid : Prop := Claim7.holds Tryz.pinned (.plain (OpenSpec.ofChange runsSpec)) runsCard

/-- THE TIED CARD OF 'errandlaw.Onward'. -/
def onwardCard : Claim7 := { stood := { row := onwardRow, standIns := [], harness := (true, "c6941f435a854e734bfc250a4955376791ee9441822cafc65a9f1a245c46c202"), looks := true }, kinds := [], alts := [], laidByText := true, laidKinds := [.handle, .sentinel, .sentinel, .sentinel, .sentinel, .sentinel, .sentinel, .data, .sentinel, .sentinel, .sentinel, .sentinel, .sentinel, .data, .sentinel, .sentinel], laidTests := true, laidLooks := .later }
def OnwardCardSaid : Prop := Claim7.holds Tryz.pinned (.plain (OpenSpec.ofChange onwardSpec)) onwardCard

/-- THE TIED CARD OF 'errandlaw.Tried'. -/
def triedCard : Claim7 := { stood := { row := triedRow, standIns := [], harness := (true, "c6941f435a854e734bfc250a4955376791ee9441822cafc65a9f1a245c46c202"), looks := true }, kinds := [], alts := [], laidByText := true, laidKinds := [.handle, .sentinel, .sentinel, .sentinel, .sentinel, .sentinel, .sentinel, .data, .sentinel, .sentinel, .sentinel, .sentinel, .sentinel, .data, .sentinel, .sentinel], laidTests := true, laidLooks := .later }
def TriedCardSaid : Prop := Claim7.holds Tryz.pinned (.plain (OpenSpec.ofChange triedSpec)) triedCard

/-- THE SECOND FORM's CARD OF 'errandlaw.Runs'. -/
def runsUptoCard : Claim7 := { stood := { row := runsUptoRow, standIns := [], harness := (true, "c6941f435a854e734bfc250a4955376791ee9441822cafc65a9f1a245c46c202"), looks := true }, kinds := [], alts := [], laidByText := true, laidKinds := [.handle, .sentinel, .sentinel, .sentinel, .sentinel, .sentinel, .sentinel, .data, .sentinel, .sentinel, .sentinel, .sentinel, .sentinel, .data, .sentinel, .sentinel], laidTests := true, laidLooks := .later }
def RunsUptoCardSaid : Prop := Claim7.holds Tryz.pinned (.plain (OpenSpec.upto runsSpec)) runsUptoCard

/-- THE SECOND FORM's CARD OF 'errandlaw.Onward'. -/
def onwardUptoCard : Claim7 := { stood := { row := onwardUptoRow, standIns := [], harness := (true, "c6941f435a854e734bfc250a4955376791ee9441822cafc65a9f1a245c46c202"), looks := true }, kinds := [], alts := [], laidByText := true, laidKinds := [.handle, .sentinel, .sentinel, .sentinel, .sentinel, .sentinel, .sentinel, .data, .sentinel, .sentinel, .sentinel, .sentinel, .sentinel, .data, .sentinel, .sentinel], laidTests := true, laidLooks := .later }
def OnwardUptoCardSaid : Prop := Claim7.holds Tryz.pinned (.plain (OpenSpec.upto onwardSpec)) onwardUptoCard

/-- THE SECOND FORM's CARD OF 'errandlaw.Tried'. -/
def triedUptoCard : Claim7 := { stood := { row := triedUptoRow, standIns := [], harness := (true, "c6941f435a854e734bfc250a4955376791ee9441822cafc65a9f1a245c46c202"), looks := true }, kinds := [], alts := [], laidByText := true, laidKinds := [.handle, .sentinel, .sentinel, .sentinel, .sentinel, .sentinel, .sentinel, .data, .sentinel, .sentinel, .sentinel, .sentinel, .sentinel, .data, .sentinel, .sentinel], laidTests := true, laidLooks := .later }
def TriedUptoCardSaid : Prop := Claim7.holds Tryz.pinned (.plain (OpenSpec.upto triedSpec)) triedUptoCard
end Rows
end Go.Proofs.YthanmfbakpcigaaGreatDoor
