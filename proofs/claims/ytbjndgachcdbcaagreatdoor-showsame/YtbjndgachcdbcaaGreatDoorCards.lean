/-
  DERIVED. GIVEN WITH THE SEED: THE CARDS: each row of YtbjndgachcdbcaaGreatDoorRows.lean that lists a variable, with what it lists TIED to the program's text (the seventh form; the later family's looks); each row that meets fmt, with fmt's text TOLD by the authors' own Lean function (tested against real Go, not proved from fmt's source: count such statements apart). THE CARD IS WHAT COUNTS. Prove the row's statement (the work); the ties are given (YtbjndgachcdbcaaGreatDoorTie.lean); close each card by the builder's one call (the guide's Derived/Test/ToyasCard.lean, 'card_holds'). Laid BY PROGRAM, IN A SANDBOX (cutbox-door.mjs). By AI agents, Wed Nov 11 2026. No macro, syntax, notation, axiom, sorry.
-/
import Derived.Test.YtbjndgachcdbcaaGreatDoorRows
import GoSem.ClaimSeven
namespace Go.Proofs.YtbjndgachcdbcaaGreatDoor
namespace Rows

/-- THE TIED CARD OF 'hindcastlaw16.ShowFaults'. -/
def showFaultsCard : Claim7 := { stood := { row := showFaultsRow, standIns := [], harness := (true, "32b1a19e32f1af8f86f263ba319a7e85bd95fe0010ae9199f932815561ec96b0"), looks := true }, kinds := [], alts := [], laidByText := true, laidKinds := [.data, .data, .data, .data, .sentinel, .sentinel, .data, .data, .data, .data, .pinned], laidTests := true, laidLooks := .later }
def ShowFaultsCardSaid : Prop := Claim7.holds Tryz.pinned (.plain (OpenSpec.ofChange showFaultsSpec)) showFaultsCard

/-- THE TIED CARD OF 'hindcastlaw16.ShowEach'. -/
def showEachCard : Claim7 := { stood := { row := showEachRow, standIns := [], harness := (true, "32b1a19e32f1af8f86f263ba319a7e85bd95fe0010ae9199f932815561ec96b0"), looks := true }, kinds := [], alts := [], laidByText := true, laidKinds := [.data, .data, .data, .data, .sentinel, .sentinel, .data, .data, .data, .data, .pinned], laidTests := true, laidLooks := .later }
def ShowEachCardSaid : Prop := Claim7.holds Tryz.pinned (.plain (OpenSpec.ofChange showEachSpec)) showEachCard

/-- THE TIED CARD OF 'hindcastlaw16.ShowSame'. -/
def showSameCard : Claim7 := { stood := { row := showSameRow, standIns := [], harness := (true, "32b1a19e32f1af8f86f263ba319a7e85bd95fe0010ae9199f932815561ec96b0"), looks := true }, kinds := [], alts := [], laidByText := true, laidKinds := [.data, .data, .data, .data, .sentinel, .sentinel, .data, .data, .data, .data, .pinned], laidTests := true, laidLooks := .later }
def ShowSameCardSaid : Prop := Claim7.holds Tryz.pinned (.plain (OpenSpec.ofChange showSameSpec)) showSameCard

/-- THE TIED CARD OF 'hindcastlaw16.ShowSelects'. -/
def showSelectsCard : Claim7 := { stood := { row := showSelectsRow, standIns := [], harness := (true, "32b1a19e32f1af8f86f263ba319a7e85bd95fe0010ae9199f932815561ec96b0"), looks := true }, kinds := [], alts := [], laidByText := true, laidKinds := [.data, .data, .data, .data, .sentinel, .sentinel, .data, .data, .data, .data, .pinned], laidTests := true, laidLooks := .later }
def ShowSelectsCardSaid : Prop := Claim7.holds Tryz.pinned (.plain (OpenSpec.ofChange showSelectsSpec)) showSelectsCard

/-- THE TIED CARD OF 'hindcastlaw16.ShowNil'. -/
def showNilCard : Claim7 := { stood := { row := showNilRow, standIns := [], harness := (true, "32b1a19e32f1af8f86f263ba319a7e85bd95fe0010ae9199f932815561ec96b0"), looks := true }, kinds := [], alts := [], laidByText := true, laidKinds := [.data, .data, .data, .data, .sentinel, .sentinel, .data, .data, .data, .data, .pinned], laidTests := true, laidLooks := .later }
def ShowNilCardSaid : Prop := Claim7.holds Tryz.pinned (.plain (OpenSpec.ofChange showNilSpec)) showNilCard

/-- THE SECOND FORM's CARD OF 'hindcastlaw16.ShowFaults'. -/
def showFaultsUptoCard : Claim7 := { stood := { row := showFaultsUptoRow, standIns := [], harness := (true, "32b1a19e32f1af8f86f263ba319a7e85bd95fe0010ae9199f932815561ec96b0"), looks := true }, kinds := [], alts := [], laidByText := true, laidKinds := [.data, .data, .data, .data, .sentinel, .sentinel, .data, .data, .data, .data, .pinned], laidTests := true, laidLooks := .later }
def ShowFaultsUptoCardSaid : Prop := Claim7.holds Tryz.pinned (.plain (OpenSpec.upto showFaultsSpec)) showFaultsUptoCard

/-- THE SECOND FORM's CARD OF 'hindcastlaw16.ShowEach'. -/
def showEachUptoCard : Claim7 := { stood := { row := showEachUptoRow, standIns := [], harness := (true, "32b1a19e32f1af8f86f263ba319a7e85bd95fe0010ae9199f932815561ec96b0"), looks := true }, kinds := [], alts := [], laidByText := true, laidKinds := [.data, .data, .data, .data, .sentinel, .sentinel, .data, .data, .data, .data, .pinned], laidTests := true, laidLooks := .later }
def ShowEachUptoCardSaid : Prop := Claim7.holds Tryz.pinned (.plain (OpenSpec.upto showEachSpec)) showEachUptoCard

/-- THE SECOND FORM's CARD OF 'hindcastlaw16.ShowSame'. -/
def showSameUptoCard : Claim7 := { stood := { row := showSameUptoRow, standIns := [], harness := (true, "32b1a19e32f1af8f86f263ba319a7e85bd95fe0010ae9199f932815561ec96b0"), looks := true }, kinds := [], alts := [], laidByText := true, laidKinds := [.data, .data, .data, .data, .sentinel, .sentinel, .data, .data, .data, .data, .pinned], laidTests := true, laidLooks := .later }
def ShowSameUptoCardSaid : Prop := Claim7.holds Tryz.pinned (.plain (OpenSpec.upto showSameSpec)) showSameUptoCard

/-- THE SECOND FORM's CARD OF 'hindcastlaw16.ShowSelects'. -/
def showSelectsUptoCard : Claim7 := { stood := { row := showSelectsUptoRow, standIns := [], harness := (true, "32b1a19e32f1af8f86f263ba319a7e85bd95fe0010ae9199f932815561ec96b0"), looks := true }, kinds := [], alts := [], laidByText := true, laidKinds := [.data, .data, .data, .data, .sentinel, .sentinel, .data, .data, .data, .data, .pinned], laidTests := true, laidLooks := .later }
def ShowSelectsUptoCardSaid : Prop := Claim7.holds Tryz.pinned (.plain (OpenSpec.upto showSelectsSpec)) showSelectsUptoCard

/-- THE SECOND FORM's CARD OF 'hindcastlaw16.ShowNil'. -/
def showNilUptoCard : Claim7 := { stood := { row := showNilUptoRow, standIns := [], harness := (true, "32b1a19e32f1af8f86f263ba319a7e85bd95fe0010ae9199f932815561ec96b0"), looks := true }, kinds := [], alts := [], laidByText := true, laidKinds := [.data, .data, .data, .data, .sentinel, .sentinel, .data, .data, .data, .data, .pinned], laidTests := true, laidLooks := .later }
def ShowNilUptoCardSaid : Prop := Claim7.holds Tryz.pinned (.plain (OpenSpec.upto showNilSpec)) showNilUptoCard
end Rows
end Go.Proofs.YtbjndgachcdbcaaGreatDoor
