/-
  DERIVED. GIVEN WITH THE SEED: THE CARDS: each row of YtgjbdlahjbppoaaDoorRows.lean that lists a variable, with what it lists TIED to the program's text (the seventh form; the later family's looks); each row that meets fmt, with fmt's text TOLD by the authors' own Lean function (tested against real Go, not proved from fmt's source: count such statements apart). THE CARD IS WHAT COUNTS. Prove the row's statement (the work); the ties are given (YtgjbdlahjbppoaaDoorTie.lean); close each card by the builder's one call (the guide's Derived/Test/ToyasCard.lean, 'card_holds'). Laid BY PROGRAM, IN A SANDBOX (cutbox-door.mjs). By AI agents, Wed Nov 11 2026. No macro, syntax, notation, axiom, sorry.
-/
import Derived.Test.YtgjbdlahjbppoaaDoorRows
import GoSem.ClaimSeven
namespace Go.Proofs.YtgjbdlahjbppoaaDoor
namespace Rows

/-- THE TIED CARD OF 'roquettop.TopStraight'. -/
def topStraightCard : Claim7 := { stood := { row := topStraightRow, standIns := [], harness := (true, "2582a17e060a76528b75fbe28c2aa1f4c78d07d54c06d256d13933b7c84dcaae"), looks := false }, kinds := [], alts := [], laidByText := true, laidKinds := [.data], laidTests := true, laidLooks := .later }
def TopStraightCardSaid : Prop := Claim7.holds Tryd.pinned (.plain (OpenSpec.ofChange topStraightSpec)) topStraightCard

/-- THE TIED CARD OF 'roquettop.TopMeeting'. -/
def topMeetingCard : Claim7 := { stood := { row := topMeetingRow, standIns := [], harness := (true, "2582a17e060a76528b75fbe28c2aa1f4c78d07d54c06d256d13933b7c84dcaae"), looks := false }, kinds := [], alts := [], laidByText := true, laidKinds := [.data], laidTests := true, laidLooks := .later }
def TopMeetingCardSaid : Prop := Claim7.holds Tryd.pinned (.plain (OpenSpec.ofChange topMeetingSpec)) topMeetingCard

/-- THE TIED CARD OF 'roquettop.TopTouched'. -/
def topTouchedCard : Claim7 := { stood := { row := topTouchedRow, standIns := [], harness := (true, "2582a17e060a76528b75fbe28c2aa1f4c78d07d54c06d256d13933b7c84dcaae"), looks := false }, kinds := [], alts := [], laidByText := true, laidKinds := [.data], laidTests := true, laidLooks := .later }
def TopTouchedCardSaid : Prop := Claim7.holds Tryd.pinned (.plain (OpenSpec.ofChange topTouchedSpec)) topTouchedCard

/-- THE TIED CARD OF 'roquettop.TopInWay'. -/
def topInWayCard : Claim7 := { stood := { row := topInWayRow, standIns := [], harness := (true, "2582a17e060a76528b75fbe28c2aa1f4c78d07d54c06d256d13933b7c84dcaae"), looks := false }, kinds := [], alts := [], laidByText := true, laidKinds := [.data], laidTests := true, laidLooks := .later }
def TopInWayCardSaid : Prop := Claim7.holds Tryd.pinned (.plain (OpenSpec.ofChange topInWaySpec)) topInWayCard

/-- THE SECOND FORM's CARD OF 'roquettop.TopStraight'. -/
def topStraightUptoCard : Claim7 := { stood := { row := topStraightUptoRow, standIns := [], harness := (true, "2582a17e060a76528b75fbe28c2aa1f4c78d07d54c06d256d13933b7c84dcaae"), looks := false }, kinds := [], alts := [], laidByText := true, laidKinds := [.data], laidTests := true, laidLooks := .later }
def TopStraightUptoCardSaid : Prop := Claim7.holds Tryd.pinned (.plain (OpenSpec.upto topStraightSpec)) topStraightUptoCard

/-- THE SECOND FORM's CARD OF 'roquettop.TopMeeting'. -/
def topMeetingUptoCard : Claim7 := { stood := { row := topMeetingUptoRow, standIns := [], harness := (true, "2582a17e060a76528b75fbe28c2aa1f4c78d07d54c06d256d13933b7c84dcaae"), looks := false }, kinds := [], alts := [], laidByText := true, laidKinds := [.data], laidTests := true, laidLooks := .later }
def TopMeetingUptoCardSaid : Prop := Claim7.holds Tryd.pinned (.plain (OpenSpec.upto topMeetingSpec)) topMeetingUptoCard

/-- THE SECOND FORM's CARD OF 'roquettop.TopTouched'. -/
def topTouchedUptoCard : Claim7 := { stood := { row := topTouchedUptoRow, standIns := [], harness := (true, "2582a17e060a76528b75fbe28c2aa1f4c78d07d54c06d256d13933b7c84dcaae"), looks := false }, kinds := [], alts := [], laidByText := true, laidKinds := [.data], laidTests := true, laidLooks := .later }
def TopTouchedUptoCardSaid : Prop := Claim7.holds Tryd.pinned (.plain (OpenSpec.upto topTouchedSpec)) topTouchedUptoCard

/-- THE SECOND FORM's CARD OF 'roquettop.TopInWay'. -/
def topInWayUptoCard : Claim7 := { stood := { row := topInWayUptoRow, standIns := [], harness := (true, "2582a17e060a76528b75fbe28c2aa1f4c78d07d54c06d256d13933b7c84dcaae"), looks := false }, kinds := [], alts := [], laidByText := true, laidKinds := [.data], laidTests := true, laidLooks := .later }
def TopInWayUptoCardSaid : Prop := Claim7.holds Tryd.pinned (.plain (OpenSpec.upto topInWaySpec)) topInWayUptoCard
end Rows
end Go.Proofs.YtgjbdlahjbppoaaDoor
