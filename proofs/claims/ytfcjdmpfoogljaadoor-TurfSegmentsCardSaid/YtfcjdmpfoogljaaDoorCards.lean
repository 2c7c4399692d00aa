/-
  DERIVED. GIVEN WITH THE SEED: THE CARDS: each row of YtfcjdmpfoogljaaDoorRows.lean that lists a variable, with what it lists TIED to the program's text (the seventh form; the later family's looks); each row that meets fmt, with fmt's text TOLD by the authors' own Lean function (tested against real Go, not proved from fmt's source: count such statements apart). THE CARD IS WHAT COUNTS. Prove the row's statement (the work); the ties are given (YtfcjdmpfoogljaaDoorTie.lean); close each card by the builder's one call (the guide's Derived/Test/ToyasCard.lean, 'card_holds'). Laid BY PROGRAM, IN A SANDBOX (cutbox-door.mjs). By AI agents, Wed Nov 11 2026. No macro, syntax, notation, axiom, sorry.
-/
import Derived.Test.YtfcjdmpfoogljaaDoorRows
import GoSem.ClaimSeven
namespace Go.Proofs.YtfcjdmpfoogljaaDoor
namespace Rows

/-- THE TIED CARD OF 'roquetlaw01.TurfNumbers'. -/
def turfNumbersCard : Claim7 := { stood := { row := turfNumbersRow, standIns := [], harness := (true, "84019b4aac58e5b90136ebc1bdd5f57b7a5fc68db4599d5cc9e95b48c06926a0"), looks := false }, kinds := [], alts := [], laidByText := true, laidKinds := [.data], laidTests := true, laidLooks := .later }
def TurfNumbersCardSaid : Prop := Claim7.holds Tryd.pinned (.plain (OpenSpec.ofChange turfNumbersSpec)) turfNumbersCard

/-- THE TIED CARD OF 'roquetlaw01.TurfSegments'. -/
def turfSegmentsCard : Claim7 := { stood := { row := turfSegmentsRow, standIns := [], harness := (true, "84019b4aac58e5b90136ebc1bdd5f57b7a5fc68db4599d5cc9e95b48c06926a0"), looks := false }, kinds := [], alts := [], laidByText := true, laidKinds := [.data], laidTests := true, laidLooks := .later }
def TurfSegmentsCardSaid : Prop := Claim7.holds Tryd.pinned (.plain (OpenSpec.ofChange turfSegmentsSpec)) turfSegmentsCard

/-- THE TIED CARD OF 'roquetlaw01.TurfRings'. -/
def turfRingsCard : Claim7 := { stood := { row := turfRingsRow, standIns := [], harness := (true, "84019b4aac58e5b90136ebc1bdd5f57b7a5fc68db4599d5cc9e95b48c06926a0"), looks := false }, kinds := [], alts := [], laidByText := true, laidKinds := [.data], laidTests := true, laidLooks := .later }
def TurfRingsCardSaid : Prop := Claim7.holds Tryd.pinned (.plain (OpenSpec.ofChange turfRingsSpec)) turfRingsCard

/-- THE TIED CARD OF 'roquetlaw01.TurfMoves'. -/
def turfMovesCard : Claim7 := { stood := { row := turfMovesRow, standIns := [], harness := (true, "84019b4aac58e5b90136ebc1bdd5f57b7a5fc68db4599d5cc9e95b48c06926a0"), looks := false }, kinds := [], alts := [], laidByText := true, laidKinds := [.data], laidTests := true, laidLooks := .later }
def TurfMovesCardSaid : Prop := Claim7.holds Tryd.pinned (.plain (OpenSpec.ofChange turfMovesSpec)) turfMovesCard

/-- THE TIED CARD OF 'roquetlaw01.TurfParts'. -/
def turfPartsCard : Claim7 := { stood := { row := turfPartsRow, standIns := [], harness := (true, "84019b4aac58e5b90136ebc1bdd5f57b7a5fc68db4599d5cc9e95b48c06926a0"), looks := false }, kinds := [], alts := [], laidByText := true, laidKinds := [.data], laidTests := true, laidLooks := .later }
def TurfPartsCardSaid : Prop := Claim7.holds Tryd.pinned (.plain (OpenSpec.ofChange turfPartsSpec)) turfPartsCard

/-- THE TIED CARD OF 'roquetlaw01.TurfRoots'. -/
def turfRootsCard : Claim7 := { stood := { row := turfRootsRow, standIns := [], harness := (true, "84019b4aac58e5b90136ebc1bdd5f57b7a5fc68db4599d5cc9e95b48c06926a0"), looks := false }, kinds := [], alts := [], laidByText := true, laidKinds := [.data], laidTests := true, laidLooks := .later }
def TurfRootsCardSaid : Prop := Claim7.holds Tryd.pinned (.plain (OpenSpec.ofChange turfRootsSpec)) turfRootsCard

/-- THE TIED CARD OF 'roquetlaw01.TurfNear'. -/
def turfNearCard : Claim7 := { stood := { row := turfNearRow, standIns := [], harness := (true, "84019b4aac58e5b90136ebc1bdd5f57b7a5fc68db4599d5cc9e95b48c06926a0"), looks := false }, kinds := [], alts := [], laidByText := true, laidKinds := [.data], laidTests := true, laidLooks := .later }
def TurfNearCardSaid : Prop := Claim7.holds Tryd.pinned (.plain (OpenSpec.ofChange turfNearSpec)) turfNearCard

/-- THE TIED CARD OF 'roquetlaw01.TurfRound'. -/
def turfRoundCard : Claim7 := { stood := { row := turfRoundRow, standIns := [], harness := (true, "84019b4aac58e5b90136ebc1bdd5f57b7a5fc68db4599d5cc9e95b48c06926a0"), looks := false }, kinds := [], alts := [], laidByText := true, laidKinds := [.data], laidTests := true, laidLooks := .later }
def TurfRoundCardSaid : Prop := Claim7.holds Tryd.pinned (.plain (OpenSpec.ofChange turfRoundSpec)) turfRoundCard

/-- THE TIED CARD OF 'roquetlaw01.TurfContact'. -/
def turfContactCard : Claim7 := { stood := { row := turfContactRow, standIns := [], harness := (true, "84019b4aac58e5b90136ebc1bdd5f57b7a5fc68db4599d5cc9e95b48c06926a0"), looks := false }, kinds := [], alts := [], laidByText := true, laidKinds := [.data], laidTests := true, laidLooks := .later }
def TurfContactCardSaid : Prop := Claim7.holds Tryd.pinned (.plain (OpenSpec.ofChange turfContactSpec)) turfContactCard

/-- THE TIED CARD OF 'roquetlaw01.TurfTowards'. -/
def turfTowardsCard : Claim7 := { stood := { row := turfTowardsRow, standIns := [], harness := (true, "84019b4aac58e5b90136ebc1bdd5f57b7a5fc68db4599d5cc9e95b48c06926a0"), looks := false }, kinds := [], alts := [], laidByText := true, laidKinds := [.data], laidTests := true, laidLooks := .later }
def TurfTowardsCardSaid : Prop := Claim7.holds Tryd.pinned (.plain (OpenSpec.ofChange turfTowardsSpec)) turfTowardsCard

/-- THE SECOND FORM's CARD OF 'roquetlaw01.TurfNumbers'. -/
def turfNumbersUptoCard : Claim7 := { stood := { row := turfNumbersUptoRow, standIns := [], harness := (true, "84019b4aac58e5b90136ebc1bdd5f57b7a5fc68db4599d5cc9e95b48c06926a0"), looks := false }, kinds := [], alts := [], laidByText := true, laidKinds := [.data], laidTests := true, laidLooks := .later }
def TurfNumbersUptoCardSaid : Prop := Claim7.holds Tryd.pinned (.plain (OpenSpec.upto turfNumbersSpec)) turfNumbersUptoCard

/-- THE SECOND FORM's CARD OF 'roquetlaw01.TurfSegments'. -/
def turfSegmentsUptoCard : Claim7 := { stood := { row := turfSegmentsUptoRow, standIns := [], harness := (true, "84019b4aac58e5b90136ebc1bdd5f57b7a5fc68db4599d5cc9e95b48c06926a0"), looks := false }, kinds := [], alts := [], laidByText := true, laidKinds := [.data], laidTests := true, laidLooks := .later }
def TurfSegmentsUptoCardSaid : Prop := Claim7.holds Tryd.pinned (.plain (OpenSpec.upto turfSegmentsSpec)) turfSegmentsUptoCard

/-- THE SECOND FORM's CARD OF 'roquetlaw01.TurfRings'. -/
def turfRingsUptoCard : Claim7 := { stood := { row := turfRingsUptoRow, standIns := [], harness := (true, "84019b4aac58e5b90136ebc1bdd5f57b7a5fc68db4599d5cc9e95b48c06926a0"), looks := false }, kinds := [], alts := [], laidByText := true, laidKinds := [.data], laidTests := true, laidLooks := .later }
def TurfRingsUptoCardSaid : Prop := Claim7.holds Tryd.pinned (.plain (OpenSpec.upto turfRingsSpec)) turfRingsUptoCard

/-- THE SECOND FORM's CARD OF 'roquetlaw01.TurfMoves'. -/
def turfMovesUptoCard : Claim7 := { stood := { row := turfMovesUptoRow, standIns := [], harness := (true, "84019b4aac58e5b90136ebc1bdd5f57b7a5fc68db4599d5cc9e95b48c06926a0"), looks := false }, kinds := [], alts := [], laidByText := true, laidKinds := [.data], laidTests := true, laidLooks := .later }
def TurfMovesUptoCardSaid : Prop := Claim7.holds Tryd.pinned (.plain (OpenSpec.upto turfMovesSpec)) turfMovesUptoCard

/-- THE SECOND FORM's CARD OF 'roquetlaw01.TurfParts'. -/
def turfPartsUptoCard : Claim7 := { stood := { row := turfPartsUptoRow, standIns := [], harness := (true, "84019b4aac58e5b90136ebc1bdd5f57b7a5fc68db4599d5cc9e95b48c06926a0"), looks := false }, kinds := [], alts := [], laidByText := true, laidKinds := [.data], laidTests := true, laidLooks := .later }
def TurfPartsUptoCardSaid : Prop := Claim7.holds Tryd.pinned (.plain (OpenSpec.upto turfPartsSpec)) turfPartsUptoCard

/-- THE SECOND FORM's CARD OF 'roquetlaw01.TurfRoots'. -/
def turfRootsUptoCard : Claim7 := { stood := { row := turfRootsUptoRow, standIns := [], harness := (true, "84019b4aac58e5b90136ebc1bdd5f57b7a5fc68db4599d5cc9e95b48c06926a0"), looks := false }, kinds := [], alts := [], laidByText := true, laidKinds := [.data], laidTests := true, laidLooks := .later }
def TurfRootsUptoCardSaid : Prop := Claim7.holds Tryd.pinned (.plain (OpenSpec.upto turfRootsSpec)) turfRootsUptoCard

/-- THE SECOND FORM's CARD OF 'roquetlaw01.TurfNear'. -/
def turfNearUptoCard : Claim7 := { stood := { row := turfNearUptoRow, standIns := [], harness := (true, "84019b4aac58e5b90136ebc1bdd5f57b7a5fc68db4599d5cc9e95b48c06926a0"), looks := false }, kinds := [], alts := [], laidByText := true, laidKinds := [.data], laidTests := true, laidLooks := .later }
def TurfNearUptoCardSaid : Prop := Claim7.holds Tryd.pinned (.plain (OpenSpec.upto turfNearSpec)) turfNearUptoCard

/-- THE SECOND FORM's CARD OF 'roquetlaw01.TurfRound'. -/
def turfRoundUptoCard : Claim7 := { stood := { row := turfRoundUptoRow, standIns := [], harness := (true, "84019b4aac58e5b90136ebc1bdd5f57b7a5fc68db4599d5cc9e95b48c06926a0"), looks := false }, kinds := [], alts := [], laidByText := true, laidKinds := [.data], laidTests := true, laidLooks := .later }
def TurfRoundUptoCardSaid : Prop := Claim7.holds Tryd.pinned (.plain (OpenSpec.upto turfRoundSpec)) turfRoundUptoCard

/-- THE SECOND FORM's CARD OF 'roquetlaw01.TurfContact'. -/
def turfContactUptoCard : Claim7 := { stood := { row := turfContactUptoRow, standIns := [], harness := (true, "84019b4aac58e5b90136ebc1bdd5f57b7a5fc68db4599d5cc9e95b48c06926a0"), looks := false }, kinds := [], alts := [], laidByText := true, laidKinds := [.data], laidTests := true, laidLooks := .later }
def TurfContactUptoCardSaid : Prop := Claim7.holds Tryd.pinned (.plain (OpenSpec.upto turfContactSpec)) turfContactUptoCard

/-- THE SECOND FORM's CARD OF 'roquetlaw01.TurfTowards'. -/
def turfTowardsUptoCard : Claim7 := { stood := { row := turfTowardsUptoRow, standIns := [], harness := (true, "84019b4aac58e5b90136ebc1bdd5f57b7a5fc68db4599d5cc9e95b48c06926a0"), looks := false }, kinds := [], alts := [], laidByText := true, laidKinds := [.data], laidTests := true, laidLooks := .later }
def TurfTowardsUptoCardSaid : Prop := Claim7.holds Tryd.pinned (.plain (OpenSpec.upto turfTowardsSpec)) turfTowardsUptoCard
end Rows
end Go.Proofs.YtfcjdmpfoogljaaDoor
