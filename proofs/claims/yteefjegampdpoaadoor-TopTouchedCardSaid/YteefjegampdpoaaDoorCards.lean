/-
  DERIVED. GIVEN WITH THE SEED: THE CARDS: each row of YteefjegampdpoaaDoorRows.lean that lists a variable, with what it lists TIED to the program's text (the seventh form; the later family's looks); each row that meets fmt, with fmt's text TOLD by the authors' own Lean function (tested against real Go, not proved from fmt's source: count such statements apart). THE CARD IS WHAT COUNTS. Prove the row's statement (the work); the ties are given (YteefjegampdpoaaDoorTie.lean); close each card by the builder's one call (the guide's Derived/Test/ToyasCard.lean, 'card_holds'). Laid BY PROGRAM, IN A SANDBOX (cutbox-door.mjs). By AI agents, Wed Nov 11 2026. No macro, syntax, notation, axiom, sorry.
-/
import Derived.Test.YteefjegampdpoaaDoorRows
import GoSem.ClaimSeven
namespace Go.Proofs.YteefjegampdpoaaDoor
namespace Rows

/-- THE TIED CARD OF 'roquetlaw02.LawnKnown'. -/
def lawnKnownCard : Claim7 := { stood := { row := lawnKnownRow, standIns := [], harness := (true, "7f92589c40a6179ed3347ff221b448aa084fcf6ac16594b07a678f534c2d480a"), looks := false }, kinds := [], alts := [], laidByText := true, laidKinds := [.data, .data, .data], laidTests := true, laidLooks := .later }
def LawnKnownCardSaid : Prop := Claim7.holds Tryd.pinned (.plain (OpenSpec.ofChange lawnKnownSpec)) lawnKnownCard

/-- THE TIED CARD OF 'roquettop.TopTouched'. -/
def topTouchedCard : Claim7 := { stood := { row := topTouchedRow, standIns := [], harness := (true, "7f92589c40a6179ed3347ff221b448aa084fcf6ac16594b07a678f534c2d480a"), looks := false }, kinds := [], alts := [], laidByText := true, laidKinds := [.data], laidTests := true, laidLooks := .later }
def TopTouchedCardSaid : Prop := Claim7.holds Tryd.pinned (.plain (OpenSpec.ofChange topTouchedSpec)) topTouchedCard

/-- THE SECOND FORM's CARD OF 'roquetlaw02.LawnKnown'. -/
def lawnKnownUptoCard : Claim7 := { stood := { row := lawnKnownUptoRow, standIns := [], harness := (true, "7f92589c40a6179ed3347ff221b448aa084fcf6ac16594b07a678f534c2d480a"), looks := false }, kinds := [], alts := [], laidByText := true, laidKinds := [.data, .data, .data], laidTests := true, laidLooks := .later }
def LawnKnownUptoCardSaid : Prop := Claim7.holds Tryd.pinned (.plain (OpenSpec.upto lawnKnownSpec)) lawnKnownUptoCard

/-- THE SECOND FORM's CARD OF 'roquettop.TopTouched'. -/
def topTouchedUptoCard : Claim7 := { stood := { row := topTouchedUptoRow, standIns := [], harness := (true, "7f92589c40a6179ed3347ff221b448aa084fcf6ac16594b07a678f534c2d480a"), looks := false }, kinds := [], alts := [], laidByText := true, laidKinds := [.data], laidTests := true, laidLooks := .later }
def TopTouchedUptoCardSaid : Prop := Claim7.holds Tryd.pinned (.plain (OpenSpec.upto topTouchedSpec)) topTouchedUptoCard
end Rows
end Go.Proofs.YteefjegampdpoaaDoor
