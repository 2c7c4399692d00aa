/-
  DERIVED. GIVEN WITH THE SEED: THE CARDS: each row of YtkkgmodladgonaaGreatDoorRows.lean that lists a variable, with what it lists TIED to the program's text (the seventh form; the later family's looks); each row that meets fmt, with fmt's text TOLD by the authors' own Lean function (tested against real Go, not proved from fmt's source: count such statements apart). THE CARD IS WHAT COUNTS. Prove the row's statement (the work); the ties are given (YtkkgmodladgonaaGreatDoorTie.lean); close each card by the builder's one call (the guide's Derived/Test/ToyasCard.lean, 'card_holds'). Laid BY PROGRAM, IN A SANDBOX (cutbox-door.mjs). By AI agents, Wed Nov 11 2026. No macro, syntax, notation, axiom, sorry.
-/
import Derived.Test.YtkkgmodladgonaaGreatDoorRows
import GoSem.ClaimSeven
namespace Go.Proofs.YtkkgmodladgonaaGreatDoor
namespace Rows

/-- THE TIED CARD OF 'roquetlaw10.IndexCounts'. -/
def indexCountsCard : Claim7 := { stood := { row := indexCountsRow, standIns := [], harness := (true, "4fb9e474c7e0e782f470bbe365a47dcf3b3eea73ab8131b6ec642519748add22"), looks := false }, kinds := [], alts := [], laidByText := true, laidKinds := [.data, .data], laidTests := true, laidLooks := .later }
def IndexCountsCardSaid : Prop := Claim7.holds Tryz.pinned (.plain (OpenSpec.ofChange indexCountsSpec)) indexCountsCard

/-- THE SECOND FORM's CARD OF 'roquetlaw10.IndexCounts'. -/
def indexCountsUptoCard : Claim7 := { stood := { row := indexCountsUptoRow, standIns := [], harness := (true, "4fb9e474c7e0e782f470bbe365a47dcf3b3eea73ab8131b6ec642519748add22"), looks := false }, kinds := [], alts := [], laidByText := true, laidKinds := [.data, .data], laidTests := true, laidLooks := .later }
def IndexCountsUptoCardSaid : Prop := Claim7.holds Tryz.pinned (.plain (OpenSpec.upto indexCountsSpec)) indexCountsUptoCard
end Rows
end Go.Proofs.YtkkgmodladgonaaGreatDoor
