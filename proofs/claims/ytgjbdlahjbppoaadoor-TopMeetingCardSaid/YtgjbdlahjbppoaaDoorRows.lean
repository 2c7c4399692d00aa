/-
  NARROWER THAN 'FOR EVERY INPUT', by the rows' own cells (each row's printed sentence says how): TopStraight: laid · TopMeeting: laid · TopTouched: laid · TopInWay: laid.
  DERIVED. THE GIVEN ROWS OF THIS SEAT. 4 by the template 'for every input the law returns true; each argument reads behind the call as it read before'; 0 by the template 'total and deterministic' (their statements: YtgjbdlahjbppoaaDoorTotals.lean).
  GIVEN WITH THE SEED: the statements are not yours to turn. If you find one false, say at which input.
  Laid BY PROGRAM, IN A SANDBOX (cutbox-rows.mjs): the forced cells as the released guide's own fill.sh prints them over the translation 38bbc833b039b4c8… (all of the seat's roots in one cut). By AI agents, Wed Nov 11 2026. No macro, syntax, notation, axiom, sorry.
-/
import Derived.Test.YtgjbdlahjbppoaaDoorChecked
import GoSem.Claim
import GoSem.ClaimJoined
import GoSem.ClaimMapViews
import Derived.JoinedTies
import Derived.KernelRfl
namespace Go.Proofs.YtgjbdlahjbppoaaDoor
/- THE CELL 'sum', in the pinned program and in every row, IS THE sha256 OF THE DUMP (.gsa) THAT YtgjbdlahjbppoaaDoorProg.lean LOADS. Nothing in Lean hashes anything: it is a label: what it is worth is what the hold of that sum in a sandbox is worth. -/
noncomputable def Tryd.pinned : Pinned := { name := "ytgjbdlahjbppoaadoor", sum := "38bbc833b039b4c8e5cceb29804e7486a0884f7718ba23c102de786d19e3aba0", checked := Tryd.checked }
namespace Rows
def none {H : Type} : Left H := { results := [], args := [] }

/- WHAT THE LISTED PACKAGE-LEVEL VARIABLES READ AS WHEN THE CALL BEGINS. Each datum BY PROGRAM (the guide's laid-datum.mjs) off the statement by which the dump's own 'gosem.cut.vars' lays the variable. In a bare row this is a premise. The card (YtgjbdlahjbppoaaDoorCards.lean) ties it to the program's text. -/
def laid_roquet_game_codes {H : Type} : DataW H := .agg [.agg [.lit (.int .i64 12), .agg [.lit (.int .i64 0), .lit (.int .i64 0)], .lit (.bool true), .lit (.bool true), .lit (.bool false)], .agg [.lit (.int .i64 12), .agg [.lit (.int .i64 7), .lit (.int .i64 10)], .lit (.bool true), .lit (.bool false), .lit (.bool false)], .agg [.lit (.int .i64 6), .agg [.lit (.int .i64 0), .lit (.int .i64 0)], .lit (.bool true), .lit (.bool true), .lit (.bool false)], .agg [.lit (.int .i64 12), .agg [.lit (.int .i64 0), .lit (.int .i64 0)], .lit (.bool false), .lit (.bool false), .lit (.bool true)]]

/-- 'roquettop.TopStraight': WHATEVER THE INPUT: true; the input reads as it did. -/
def topStraightSpec : ChangeSpec := { name := "topStraight", fn := fun _ => fun
  | [d1, d2, d3, d4] => { results := [.lit (.bool true)], args := [d1, d2, d3, d4] }
  | _ => none }
def topStraightRow : OpenClaim := { program := "ytgjbdlahjbppoaadoor", sum := "38bbc833b039b4c8e5cceb29804e7486a0884f7718ba23c102de786d19e3aba0", func := "roquet/roquettop.TopStraight", spec := "topStraight", unfollowed := true, recurses := true, named := ["roquet/game.codes"], apart := false, laid := [("roquet/game.codes", laid_roquet_game_codes)] }
def TopStraightSaid : Prop := topStraightRow.holds Tryd.pinned (OpenSpec.ofChange topStraightSpec)

/-- ITS FALSE NEIGHBOUR: 'it returns false'. Refute it at one input. -/
def topStraightWrong : ChangeSpec := { name := "topStraight", fn := fun _ => fun
  | [d1, d2, d3, d4] => { results := [.lit (.bool false)], args := [d1, d2, d3, d4] }
  | _ => none }
def TopStraightWrongFalsely : Prop := topStraightRow.holds Tryd.pinned (OpenSpec.ofChange topStraightWrong)

/-- 'roquettop.TopMeeting': WHATEVER THE INPUT: true; the input reads as it did. -/
def topMeetingSpec : ChangeSpec := { name := "topMeeting", fn := fun _ => fun
  | [d1, d2, d3, d4, d5, d6, d7] => { results := [.lit (.bool true)], args := [d1, d2, d3, d4, d5, d6, d7] }
  | _ => none }
def topMeetingRow : OpenClaim := { program := "ytgjbdlahjbppoaadoor", sum := "38bbc833b039b4c8e5cceb29804e7486a0884f7718ba23c102de786d19e3aba0", func := "roquet/roquettop.TopMeeting", spec := "topMeeting", unfollowed := true, recurses := true, named := ["roquet/game.codes"], apart := false, laid := [("roquet/game.codes", laid_roquet_game_codes)] }
def TopMeetingSaid : Prop := topMeetingRow.holds Tryd.pinned (OpenSpec.ofChange topMeetingSpec)

/-- ITS FALSE NEIGHBOUR: 'it returns false'. Refute it at one input. -/
def topMeetingWrong : ChangeSpec := { name := "topMeeting", fn := fun _ => fun
  | [d1, d2, d3, d4, d5, d6, d7] => { results := [.lit (.bool false)], args := [d1, d2, d3, d4, d5, d6, d7] }
  | _ => none }
def TopMeetingWrongFalsely : Prop := topMeetingRow.holds Tryd.pinned (OpenSpec.ofChange topMeetingWrong)

/-- 'roquettop.TopTouched': WHATEVER THE INPUT: true; the input reads as it did. -/
def topTouchedSpec : ChangeSpec := { name := "topTouched", fn := fun _ => fun
  | [d1, d2, d3] => { results := [.lit (.bool true)], args := [d1, d2, d3] }
  | _ => none }
def topTouchedRow : OpenClaim := { program := "ytgjbdlahjbppoaadoor", sum := "38bbc833b039b4c8e5cceb29804e7486a0884f7718ba23c102de786d19e3aba0", func := "roquet/roquettop.TopTouched", spec := "topTouched", unfollowed := true, recurses := true, named := ["roquet/game.codes"], apart := false, laid := [("roquet/game.codes", laid_roquet_game_codes)] }
def TopTouchedSaid : Prop := topTouchedRow.holds Tryd.pinned (OpenSpec.ofChange topTouchedSpec)

/-- ITS FALSE NEIGHBOUR: 'it returns false'. Refute it at one input. -/
def topTouchedWrong : ChangeSpec := { name := "topTouched", fn := fun _ => fun
  | [d1, d2, d3] => { results := [.lit (.bool false)], args := [d1, d2, d3] }
  | _ => none }
def TopTouchedWrongFalsely : Prop := topTouchedRow.holds Tryd.pinned (OpenSpec.ofChange topTouchedWrong)

/-- 'roquettop.TopInWay': WHATEVER THE INPUT: true; the input reads as it did. -/
def topInWaySpec : ChangeSpec := { name := "topInWay", fn := fun _ => fun
  | [d1, d2, d3, d4] => { results := [.lit (.bool true)], args := [d1, d2, d3, d4] }
  | _ => none }
def topInWayRow : OpenClaim := { program := "ytgjbdlahjbppoaadoor", sum := "38bbc833b039b4c8e5cceb29804e7486a0884f7718ba23c102de786d19e3aba0", func := "roquet/roquettop.TopInWay", spec := "topInWay", unfollowed := true, recurses := true, named := ["roquet/game.codes"], apart := false, laid := [("roquet/game.codes", laid_roquet_game_codes)] }
def TopInWaySaid : Prop := topInWayRow.holds Tryd.pinned (OpenSpec.ofChange topInWaySpec)

/-- ITS FALSE NEIGHBOUR: 'it returns false'. Refute it at one input. -/
def topInWayWrong : ChangeSpec := { name := "topInWay", fn := fun _ => fun
  | [d1, d2, d3, d4] => { results := [.lit (.bool false)], args := [d1, d2, d3, d4] }
  | _ => none }
def TopInWayWrongFalsely : Prop := topInWayRow.holds Tryd.pinned (OpenSpec.ofChange topInWayWrong)

/- THE SECOND FORM. 'bulk': how many values and letters a reading holds, each counted each time it is reached (what is shared counts as often as it is met; a slice's spare places count too). A statement '..UptoSaid' is the law's where the arguments, and the package variables that the reading takes, are together of bulk at most 1048576: NARROWER than '..Said'. Prove '..Said' where nothing that the law and all that it calls make is longer than what came in: it says more and counts as full. Else prove '..UptoSaid'. A law counts once. -/
mutual
def uptoBulk {H : Type} : DataW H → Nat
  | .lit (.string bytes) => bytes.length + 1
  | .lit _ => 1
  | .nil => 1
  | .ptr d => uptoBulk d + 1
  | .slice elems spare => uptoBulkAll elems + uptoBulkAll spare + 1
  | .agg parts => uptoBulkAll parts + 1
  | .iface _ d => uptoBulk d + 1
  | .map entries => uptoBulkEntries entries + 1
  | .held _ => 1
def uptoBulkAll {H : Type} : List (DataW H) → Nat
  | [] => 0
  | d :: r => uptoBulk d + uptoBulkAll r
def uptoBulkEntries {H : Type} : List (Lit × DataW H) → Nat
  | [] => 0
  | x :: r => uptoBulkEntry x + uptoBulkEntries r
def uptoBulkEntry {H : Type} : Lit × DataW H → Nat
  | (.string bytes, d) => bytes.length + uptoBulk d + 1
  | (_, d) => uptoBulk d + 1
 end
def uptoSmall : (H : Type) → List (DataW H) → Bool := fun _ ds => decide (uptoBulkAll ds ≤ 1048576)
def OpenSpec.upto (s : _root_.Go.ChangeSpec) : _root_.Go.OpenSpec := { _root_.Go.OpenSpec.ofChange s with cond := some uptoSmall }

/-- 'roquettop.TopStraight', WHERE WHAT IT READS IS OF BULK AT MOST 1048576: true; the input reads as it did. -/
def topStraightUptoRow : OpenClaim := { program := "ytgjbdlahjbppoaadoor", sum := "38bbc833b039b4c8e5cceb29804e7486a0884f7718ba23c102de786d19e3aba0", func := "roquet/roquettop.TopStraight", spec := "topStraight", unfollowed := true, recurses := true, named := ["roquet/game.codes"], apart := false, laid := [("roquet/game.codes", laid_roquet_game_codes)], narrowed := true }
def TopStraightUptoSaid : Prop := topStraightUptoRow.holds Tryd.pinned (OpenSpec.upto topStraightSpec)

/-- 'roquettop.TopMeeting', WHERE WHAT IT READS IS OF BULK AT MOST 1048576: true; the input reads as it did. -/
def topMeetingUptoRow : OpenClaim := { program := "ytgjbdlahjbppoaadoor", sum := "38bbc833b039b4c8e5cceb29804e7486a0884f7718ba23c102de786d19e3aba0", func := "roquet/roquettop.TopMeeting", spec := "topMeeting", unfollowed := true, recurses := true, named := ["roquet/game.codes"], apart := false, laid := [("roquet/game.codes", laid_roquet_game_codes)], narrowed := true }
def TopMeetingUptoSaid : Prop := topMeetingUptoRow.holds Tryd.pinned (OpenSpec.upto topMeetingSpec)

/-- 'roquettop.TopTouched', WHERE WHAT IT READS IS OF BULK AT MOST 1048576: true; the input reads as it did. -/
def topTouchedUptoRow : OpenClaim := { program := "ytgjbdlahjbppoaadoor", sum := "38bbc833b039b4c8e5cceb29804e7486a0884f7718ba23c102de786d19e3aba0", func := "roquet/roquettop.TopTouched", spec := "topTouched", unfollowed := true, recurses := true, named := ["roquet/game.codes"], apart := false, laid := [("roquet/game.codes", laid_roquet_game_codes)], narrowed := true }
def TopTouchedUptoSaid : Prop := topTouchedUptoRow.holds Tryd.pinned (OpenSpec.upto topTouchedSpec)

/-- 'roquettop.TopInWay', WHERE WHAT IT READS IS OF BULK AT MOST 1048576: true; the input reads as it did. -/
def topInWayUptoRow : OpenClaim := { program := "ytgjbdlahjbppoaadoor", sum := "38bbc833b039b4c8e5cceb29804e7486a0884f7718ba23c102de786d19e3aba0", func := "roquet/roquettop.TopInWay", spec := "topInWay", unfollowed := true, recurses := true, named := ["roquet/game.codes"], apart := false, laid := [("roquet/game.codes", laid_roquet_game_codes)], narrowed := true }
def TopInWayUptoSaid : Prop := topInWayUptoRow.holds Tryd.pinned (OpenSpec.upto topInWaySpec)

end Rows
end Go.Proofs.YtgjbdlahjbppoaaDoor
