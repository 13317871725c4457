/-
  DERIVED. GIVEN WITH THE SEED: THE CARDS: each row of YtljofkfnmlhicaaDoorRows.lean that lists a variable, with what it lists TIED to the program's text (the seventh form; the later family's looks); each row that meets fmt, with fmt's text TOLD by the authors' own Lean function (tested against real Go, not proved from fmt's source: count such statements apart). THE CARD IS WHAT COUNTS. Prove the row's statement (the work); the ties are given (YtljofkfnmlhicaaDoorTie.lean); close each card by the builder's one call (the guide's Derived/Test/ToyasCard.lean, 'card_holds'). Laid BY PROGRAM, IN A SANDBOX (cutbox-door.mjs). By AI agents, Wed Nov 11 2026. No macro, syntax, notation, axiom, sorry.
-/
import Derived.Test.YtljofkfnmlhicaaDoorRows
import GoSem.ClaimSeven
namespace Go.Proofs.YtljofkfnmlhicaaDoor
namespace Rows

/-- THE TIED CARD OF 'hindcastlaw06.HeapLoads'. -/
def heapLoadsCard : Claim7 := { stood := { row := heapLoadsRow, standIns := [], harness := (true, "accdca8f067c26ca98cc12c3750531901e6cd8c6db01c621b6bd187c359b7c17"), looks := true }, kinds := [], alts := [], laidByText := true, laidKinds := [.data, .data, .data, .sentinel, .sentinel, .data, .data, .data], laidTests := true, laidLooks := .later }
def HeapLoadsCardSaid : Prop := Claim7.holds Tryd.pinned (.plain (OpenSpec.ofChange heapLoadsSpec)) heapLoadsCard

/-- THE TIED CARD OF 'hindcastlaw06.HeapBack'. -/
def heapBackCard : Claim7 := { stood := { row := heapBackRow, standIns := [], harness := (true, "accdca8f067c26ca98cc12c3750531901e6cd8c6db01c621b6bd187c359b7c17"), looks := true }, kinds := [], alts := [], laidByText := true, laidKinds := [.data, .data, .data, .sentinel, .sentinel, .data, .data, .data], laidTests := true, laidLooks := .later }
def HeapBackCardSaid : Prop := Claim7.holds Tryd.pinned (.plain (OpenSpec.ofChange heapBackSpec)) heapBackCard

/-- THE TIED CARD OF 'hindcastlaw06.HeapSet'. -/
def heapSetCard : Claim7 := { stood := { row := heapSetRow, standIns := [], harness := (true, "accdca8f067c26ca98cc12c3750531901e6cd8c6db01c621b6bd187c359b7c17"), looks := true }, kinds := [], alts := [], laidByText := true, laidKinds := [.data, .data, .data, .sentinel, .sentinel, .data, .data, .data], laidTests := true, laidLooks := .later }
def HeapSetCardSaid : Prop := Claim7.holds Tryd.pinned (.plain (OpenSpec.ofChange heapSetSpec)) heapSetCard

/-- THE TIED CARD OF 'hindcastlaw06.HeapFull'. -/
def heapFullCard : Claim7 := { stood := { row := heapFullRow, standIns := [], harness := (true, "accdca8f067c26ca98cc12c3750531901e6cd8c6db01c621b6bd187c359b7c17"), looks := true }, kinds := [], alts := [], laidByText := true, laidKinds := [.data, .data, .data, .sentinel, .sentinel, .data, .data, .data], laidTests := true, laidLooks := .later }
def HeapFullCardSaid : Prop := Claim7.holds Tryd.pinned (.plain (OpenSpec.ofChange heapFullSpec)) heapFullCard

/-- THE TIED CARD OF 'hindcastlaw06.HeapShows'. -/
def heapShowsCard : Claim7 := { stood := { row := heapShowsRow, standIns := [], harness := (true, "accdca8f067c26ca98cc12c3750531901e6cd8c6db01c621b6bd187c359b7c17"), looks := true }, kinds := [], alts := [], laidByText := true, laidKinds := [.data, .data, .data, .sentinel, .sentinel, .data, .data, .data], laidTests := true, laidLooks := .later }
def HeapShowsCardSaid : Prop := Claim7.holds Tryd.pinned (.plain (OpenSpec.ofChange heapShowsSpec)) heapShowsCard

/-- THE SECOND FORM's CARD OF 'hindcastlaw06.HeapLoads'. -/
def heapLoadsUptoCard : Claim7 := { stood := { row := heapLoadsUptoRow, standIns := [], harness := (true, "accdca8f067c26ca98cc12c3750531901e6cd8c6db01c621b6bd187c359b7c17"), looks := true }, kinds := [], alts := [], laidByText := true, laidKinds := [.data, .data, .data, .sentinel, .sentinel, .data, .data, .data], laidTests := true, laidLooks := .later }
def HeapLoadsUptoCardSaid : Prop := Claim7.holds Tryd.pinned (.plain (OpenSpec.upto heapLoadsSpec)) heapLoadsUptoCard

/-- THE SECOND FORM's CARD OF 'hindcastlaw06.HeapBack'. -/
def heapBackUptoCard : Claim7 := { stood := { row := heapBackUptoRow, standIns := [], harness := (true, "accdca8f067c26ca98cc12c3750531901e6cd8c6db01c621b6bd187c359b7c17"), looks := true }, kinds := [], alts := [], laidByText := true, laidKinds := [.data, .data, .data, .sentinel, .sentinel, .data, .data, .data], laidTests := true, laidLooks := .later }
def HeapBackUptoCardSaid : Prop := Claim7.holds Tryd.pinned (.plain (OpenSpec.upto heapBackSpec)) heapBackUptoCard

/-- THE SECOND FORM's CARD OF 'hindcastlaw06.HeapSet'. -/
def heapSetUptoCard : Claim7 := { stood := { row := heapSetUptoRow, standIns := [], harness := (true, "accdca8f067c26ca98cc12c3750531901e6cd8c6db01c621b6bd187c359b7c17"), looks := true }, kinds := [], alts := [], laidByText := true, laidKinds := [.data, .data, .data, .sentinel, .sentinel, .data, .data, .data], laidTests := true, laidLooks := .later }
def HeapSetUptoCardSaid : Prop := Claim7.holds Tryd.pinned (.plain (OpenSpec.upto heapSetSpec)) heapSetUptoCard

/-- THE SECOND FORM's CARD OF 'hindcastlaw06.HeapFull'. -/
def heapFullUptoCard : Claim7 := { stood := { row := heapFullUptoRow, standIns := [], harness := (true, "accdca8f067c26ca98cc12c3750531901e6cd8c6db01c621b6bd187c359b7c17"), looks := true }, kinds := [], alts := [], laidByText := true, laidKinds := [.data, .data, .data, .sentinel, .sentinel, .data, .data, .data], laidTests := true, laidLooks := .later }
def HeapFullUptoCardSaid : Prop := Claim7.holds Tryd.pinned (.plain (OpenSpec.upto heapFullSpec)) heapFullUptoCard

/-- THE SECOND FORM's CARD OF 'hindcastlaw06.HeapShows'. -/
def heapShowsUptoCard : Claim7 := { stood := { row := heapShowsUptoRow, standIns := [], harness := (true, "accdca8f067c26ca98cc12c3750531901e6cd8c6db01c621b6bd187c359b7c17"), looks := true }, kinds := [], alts := [], laidByText := true, laidKinds := [.data, .data, .data, .sentinel, .sentinel, .data, .data, .data], laidTests := true, laidLooks := .later }
def HeapShowsUptoCardSaid : Prop := Claim7.holds Tryd.pinned (.plain (OpenSpec.upto heapShowsSpec)) heapShowsUptoCard
end Rows
end Go.Proofs.YtljofkfnmlhicaaDoor
