/-
  DERIVED. GIVEN WITH THE SEED: THE CARDS: each row of YtkkgmodladgonaaDoorRows.lean that lists a variable, with what it lists TIED to the program's text (the seventh form; the later family's looks); each row that meets fmt, with fmt's text TOLD by the authors' own Lean function (tested against real Go, not proved from fmt's source: count such statements apart). THE CARD IS WHAT COUNTS. Prove the row's statement (the work); the ties are given (YtkkgmodladgonaaDoorTie.lean); close each card by the builder's one call (the guide's Derived/Test/ToyasCard.lean, 'card_holds'). Laid BY PROGRAM, IN A SANDBOX (cutbox-door.mjs). By AI agents, Wed Nov 11 2026. No macro, syntax, notation, axiom, sorry.
-/
import Derived.Test.YtkkgmodladgonaaDoorRows
import GoSem.ClaimSeven
namespace Go.Proofs.YtkkgmodladgonaaDoor
namespace Rows

/-- THE TIED CARD OF 'roquetlaw10.IndexKept'. -/
def indexKeptCard : Claim7 := { stood := { row := indexKeptRow, standIns := [], harness := (true, "66c9a1630a7509c26b893ce3e3517dc2f417bc7450bf5a371b3b0f0b89f4e51a"), looks := false }, kinds := [], alts := [], laidByText := true, laidKinds := [.data], laidTests := true, laidLooks := .later }
def IndexKeptCardSaid : Prop := Claim7.holds Tryd.pinned (.plain (OpenSpec.ofChange indexKeptSpec)) indexKeptCard

/-- THE TIED CARD OF 'roquetlaw10.IndexGrades'. -/
def indexGradesCard : Claim7 := { stood := { row := indexGradesRow, standIns := [], harness := (true, "66c9a1630a7509c26b893ce3e3517dc2f417bc7450bf5a371b3b0f0b89f4e51a"), looks := false }, kinds := [], alts := [], laidByText := true, laidKinds := [.data], laidTests := true, laidLooks := .later }
def IndexGradesCardSaid : Prop := Claim7.holds Tryd.pinned (.plain (OpenSpec.ofChange indexGradesSpec)) indexGradesCard

/-- THE TIED CARD OF 'roquetlaw10.IndexKnown'. -/
def indexKnownCard : Claim7 := { stood := { row := indexKnownRow, standIns := [], harness := (true, "66c9a1630a7509c26b893ce3e3517dc2f417bc7450bf5a371b3b0f0b89f4e51a"), looks := false }, kinds := [], alts := [], laidByText := true, laidKinds := [.data], laidTests := true, laidLooks := .later }
def IndexKnownCardSaid : Prop := Claim7.holds Tryd.pinned (.plain (OpenSpec.ofChange indexKnownSpec)) indexKnownCard

/-- THE SECOND FORM's CARD OF 'roquetlaw10.IndexKept'. -/
def indexKeptUptoCard : Claim7 := { stood := { row := indexKeptUptoRow, standIns := [], harness := (true, "66c9a1630a7509c26b893ce3e3517dc2f417bc7450bf5a371b3b0f0b89f4e51a"), looks := false }, kinds := [], alts := [], laidByText := true, laidKinds := [.data], laidTests := true, laidLooks := .later }
def IndexKeptUptoCardSaid : Prop := Claim7.holds Tryd.pinned (.plain (OpenSpec.upto indexKeptSpec)) indexKeptUptoCard

/-- THE SECOND FORM's CARD OF 'roquetlaw10.IndexGrades'. -/
def indexGradesUptoCard : Claim7 := { stood := { row := indexGradesUptoRow, standIns := [], harness := (true, "66c9a1630a7509c26b893ce3e3517dc2f417bc7450bf5a371b3b0f0b89f4e51a"), looks := false }, kinds := [], alts := [], laidByText := true, laidKinds := [.data], laidTests := true, laidLooks := .later }
def IndexGradesUptoCardSaid : Prop := Claim7.holds Tryd.pinned (.plain (OpenSpec.upto indexGradesSpec)) indexGradesUptoCard

/-- THE SECOND FORM's CARD OF 'roquetlaw10.IndexKnown'. -/
def indexKnownUptoCard : Claim7 := { stood := { row := indexKnownUptoRow, standIns := [], harness := (true, "66c9a1630a7509c26b893ce3e3517dc2f417bc7450bf5a371b3b0f0b89f4e51a"), looks := false }, kinds := [], alts := [], laidByText := true, laidKinds := [.data], laidTests := true, laidLooks := .later }
def IndexKnownUptoCardSaid : Prop := Claim7.holds Tryd.pinned (.plain (OpenSpec.upto indexKnownSpec)) indexKnownUptoCard
end Rows
end Go.Proofs.YtkkgmodladgonaaDoor
