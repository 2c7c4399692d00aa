/-
  No cell of these rows narrows 'for every input' (looked for: loops, veiled, ifaces, maps, wideKeys, modest, calm, conditions, laid).
  DERIVED. THE GIVEN ROWS OF THIS SEAT. 3 by the template 'for every input the law returns true; each argument reads behind the call as it read before'; 0 by the template 'total and deterministic' (their statements: YtnapkmimllipjaaTotals.lean).
  GIVEN WITH THE SEED: the statements are not yours to turn. If you find one false, say at which input.
  Laid BY PROGRAM, IN A SANDBOX (cutbox-rows.mjs): the forced cells as the released guide's own fill.sh prints them over the translation 87013d8d532021e2… (all of the seat's roots in one cut). By AI agents, Wed Nov 11 2026. No macro, syntax, notation, axiom, sorry.
-/
import Derived.Test.YtnapkmimllipjaaChecked
import GoSem.Claim
import GoSem.ClaimJoined
import GoSem.ClaimMapViews
import Derived.JoinedTies
import Derived.KernelRfl
namespace Go.Proofs.Ytnapkmimllipjaa
/- THE CELL 'sum', in the pinned program and in every row, IS THE sha256 OF THE DUMP (.gsa) THAT YtnapkmimllipjaaProg.lean LOADS. Nothing in Lean hashes anything: it is a label: what it is worth is what the hold of that sum in a sandbox is worth. -/
noncomputable def Try.pinned : Pinned := { name := "ytnapkmimllipjaa", sum := "87013d8d532021e29eca7dff6164b2ebfbf924fa72e6478bbde7d957e24dfa0a", checked := Try.checked }
namespace Rows
def none {H : Type} : Left H := { results := [], args := [] }

/-- 'roquetlaw09.TacticsChances': WHATEVER THE INPUT: true; the input reads as it did. -/
def tacticsChancesSpec : ChangeSpec := { name := "tacticsChances", fn := fun _ => fun
  | [d1, d2, d3, d4] => { results := [.lit (.bool true)], args := [d1, d2, d3, d4] }
  | _ => none }
def tacticsChancesRow : OpenClaim := { program := "ytnapkmimllipjaa", sum := "87013d8d532021e29eca7dff6164b2ebfbf924fa72e6478bbde7d957e24dfa0a", func := "roquet/roquetlaw09.TacticsChances", spec := "tacticsChances", unfollowed := true, recurses := true, plainKeys := false, apart := false }
def TacticsChancesSaid : Prop := tacticsChancesRow.holds Try.pinned (OpenSpec.ofChange tacticsChancesSpec)

/-- ITS FALSE NEIGHBOUR: 'it returns false'. Refute it at one input. -/
def tacticsChancesWrong : ChangeSpec := { name := "tacticsChances", fn := fun _ => fun
  | [d1, d2, d3, d4] => { results := [.lit (.bool false)], args := [d1, d2, d3, d4] }
  | _ => none }
def TacticsChancesWrongFalsely : Prop := tacticsChancesRow.holds Try.pinned (OpenSpec.ofChange tacticsChancesWrong)

/-- 'roquetlaw09.TacticsRecord': WHATEVER THE INPUT: true; the input reads as it did. -/
def tacticsRecordSpec : ChangeSpec := { name := "tacticsRecord", fn := fun _ => fun
  | [d1, d2, d3, d4] => { results := [.lit (.bool true)], args := [d1, d2, d3, d4] }
  | _ => none }
def tacticsRecordRow : OpenClaim := { program := "ytnapkmimllipjaa", sum := "87013d8d532021e29eca7dff6164b2ebfbf924fa72e6478bbde7d957e24dfa0a", func := "roquet/roquetlaw09.TacticsRecord", spec := "tacticsRecord", unfollowed := true, recurses := true, plainKeys := false, apart := false }
def TacticsRecordSaid : Prop := tacticsRecordRow.holds Try.pinned (OpenSpec.ofChange tacticsRecordSpec)

/-- ITS FALSE NEIGHBOUR: 'it returns false'. Refute it at one input. -/
def tacticsRecordWrong : ChangeSpec := { name := "tacticsRecord", fn := fun _ => fun
  | [d1, d2, d3, d4] => { results := [.lit (.bool false)], args := [d1, d2, d3, d4] }
  | _ => none }
def TacticsRecordWrongFalsely : Prop := tacticsRecordRow.holds Try.pinned (OpenSpec.ofChange tacticsRecordWrong)

/-- 'roquetlaw09.TacticsLists': WHATEVER THE INPUT: true; the input reads as it did. -/
def tacticsListsSpec : ChangeSpec := { name := "tacticsLists", fn := fun _ => fun
  | [d1, d2, d3] => { results := [.lit (.bool true)], args := [d1, d2, d3] }
  | _ => none }
def tacticsListsRow : OpenClaim := { program := "ytnapkmimllipjaa", sum := "87013d8d532021e29eca7dff6164b2ebfbf924fa72e6478bbde7d957e24dfa0a", func := "roquet/roquetlaw09.TacticsLists", spec := "tacticsLists", unfollowed := true, recurses := true, plainKeys := false, apart := false }
def TacticsListsSaid : Prop := tacticsListsRow.holds Try.pinned (OpenSpec.ofChange tacticsListsSpec)

/-- ITS FALSE NEIGHBOUR: 'it returns false'. Refute it at one input. -/
def tacticsListsWrong : ChangeSpec := { name := "tacticsLists", fn := fun _ => fun
  | [d1, d2, d3] => { results := [.lit (.bool false)], args := [d1, d2, d3] }
  | _ => none }
def TacticsListsWrongFalsely : Prop := tacticsListsRow.holds Try.pinned (OpenSpec.ofChange tacticsListsWrong)

/- THE SECOND FORM. 'bulk': how many values and letters a reading holds, each counted each time it is reached (what is shared counts as often as it is met; a slice's spare places count too). A statement '..UptoSaid' is the law's where the arguments, and the package variables that the reading takes, are together of bulk at most 1048576: NARROWER than '..Said'. Prove '..Said' where nothing that the law and all that it calls make is longer than what came in: it says more and counts as full. Else prove '..UptoSaid'. A law counts once. -/
mutual
def uptoBulk {H : Type} : DataW H → Nat
  | .lit (.string bytes) => bytes.length + 1
  | .lit _ => 1
  | .nil => 1
  | .ptr d => uptoBulk d + 1
  | .slice elems spare => uptoBulkAll elems + uptoBulkAll spare + 1
  | .agg parts => uptoBulkAll parts + 1
  | .iface _ d => uptoBulk d + 1
  | .map entries => uptoBulkEntries entries + 1
  | .held _ => 1
def uptoBulkAll {H : Type} : List (DataW H) → Nat
  | [] => 0
  | d :: r => uptoBulk d + uptoBulkAll r
def uptoBulkEntries {H : Type} : List (Lit × DataW H) → Nat
  | [] => 0
  | x :: r => uptoBulkEntry x + uptoBulkEntries r
def uptoBulkEntry {H : Type} : Lit × DataW H → Nat
  | (.string bytes, d) => bytes.length + uptoBulk d + 1
  | (_, d) => uptoBulk d + 1
 end
def uptoSmall : (H : Type) → List (DataW H) → Bool := fun _ ds => decide (uptoBulkAll ds ≤ 1048576)
def OpenSpec.upto (s : _root_.Go.ChangeSpec) : _root_.Go.OpenSpec := { _root_.Go.OpenSpec.ofChange s with cond := some uptoSmall }

/-- 'roquetlaw09.TacticsChances', WHERE WHAT IT READS IS OF BULK AT MOST 1048576: true; the input reads as it did. -/
def tacticsChancesUptoRow : OpenClaim := { program := "ytnapkmimllipjaa", sum := "87013d8d532021e29eca7dff6164b2ebfbf924fa72e6478bbde7d957e24dfa0a", func := "roquet/roquetlaw09.TacticsChances", spec := "tacticsChances", unfollowed := true, recurses := true, plainKeys := false, apart := false, narrowed := true }
def TacticsChancesUptoSaid : Prop := tacticsChancesUptoRow.holds Try.pinned (OpenSpec.upto tacticsChancesSpec)

/-- 'roquetlaw09.TacticsRecord', WHERE WHAT IT READS IS OF BULK AT MOST 1048576: true; the input reads as it did. -/
def tacticsRecordUptoRow : OpenClaim := { program := "ytnapkmimllipjaa", sum := "87013d8d532021e29eca7dff6164b2ebfbf924fa72e6478bbde7d957e24dfa0a", func := "roquet/roquetlaw09.TacticsRecord", spec := "tacticsRecord", unfollowed := true, recurses := true, plainKeys := false, apart := false, narrowed := true }
def TacticsRecordUptoSaid : Prop := tacticsRecordUptoRow.holds Try.pinned (OpenSpec.upto tacticsRecordSpec)

/-- 'roquetlaw09.TacticsLists', WHERE WHAT IT READS IS OF BULK AT MOST 1048576: true; the input reads as it did. -/
def tacticsListsUptoRow : OpenClaim := { program := "ytnapkmimllipjaa", sum := "87013d8d532021e29eca7dff6164b2ebfbf924fa72e6478bbde7d957e24dfa0a", func := "roquet/roquetlaw09.TacticsLists", spec := "tacticsLists", unfollowed := true, recurses := true, plainKeys := false, apart := false, narrowed := true }
def TacticsListsUptoSaid : Prop := tacticsListsUptoRow.holds Try.pinned (OpenSpec.upto tacticsListsSpec)

end Rows
end Go.Proofs.Ytnapkmimllipjaa
