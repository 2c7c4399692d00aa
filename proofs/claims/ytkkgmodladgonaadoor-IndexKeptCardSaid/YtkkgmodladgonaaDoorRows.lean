/-
  NARROWER THAN 'FOR EVERY INPUT', by the rows' own cells (each row's printed sentence says how): IndexKept: laid · IndexGrades: laid · IndexKnown: laid.
  DERIVED. THE GIVEN ROWS OF THIS SEAT. 3 by the template 'for every input the law returns true; each argument reads behind the call as it read before'; 0 by the template 'total and deterministic' (their statements: YtkkgmodladgonaaDoorTotals.lean).
  GIVEN WITH THE SEED: the statements are not yours to turn. If you find one false, say at which input.
  Laid BY PROGRAM, IN A SANDBOX (cutbox-rows.mjs): the forced cells as the released guide's own fill.sh prints them over the translation b0e59b77a741b3f7… (all of the seat's roots in one cut). By AI agents, Wed Nov 11 2026. No macro, syntax, notation, axiom, sorry.
-/
import Derived.Test.YtkkgmodladgonaaDoorChecked
import GoSem.Claim
import GoSem.ClaimJoined
import GoSem.ClaimMapViews
import Derived.JoinedTies
import Derived.KernelRfl
namespace Go.Proofs.YtkkgmodladgonaaDoor
/- THE CELL 'sum', in the pinned program and in every row, IS THE sha256 OF THE DUMP (.gsa) THAT YtkkgmodladgonaaDoorProg.lean LOADS. Nothing in Lean hashes anything: it is a label: what it is worth is what the hold of that sum in a sandbox is worth. -/
noncomputable def Tryd.pinned : Pinned := { name := "ytkkgmodladgonaadoor", sum := "b0e59b77a741b3f7459be9ddb5a219b60f487c8e0ce0c820b845fbc38d74a04f", checked := Tryd.checked }
namespace Rows
def none {H : Type} : Left H := { results := [], args := [] }

/- WHAT THE LISTED PACKAGE-LEVEL VARIABLES READ AS WHEN THE CALL BEGINS. Each datum BY PROGRAM (the guide's laid-datum.mjs) off the statement by which the dump's own 'gosem.cut.vars' lays the variable. In a bare row this is a premise. The card (YtkkgmodladgonaaDoorCards.lean) ties it to the program's text. -/
def laid_roquet_index_gains {H : Type} : DataW H := .agg [.lit (.int .i64 10), .lit (.int .i64 9), .lit (.int .i64 8), .lit (.int .i64 7), .lit (.int .i64 6), .lit (.int .i64 6), .lit (.int .i64 5), .lit (.int .i64 5), .lit (.int .i64 4), .lit (.int .i64 4), .lit (.int .i64 3), .lit (.int .i64 3), .lit (.int .i64 3), .lit (.int .i64 2), .lit (.int .i64 2), .lit (.int .i64 2), .lit (.int .i64 1), .lit (.int .i64 1), .lit (.int .i64 1), .lit (.int .i64 1)]

/-- 'roquetlaw10.IndexKept': WHATEVER THE INPUT: true; the input reads as it did. -/
def indexKeptSpec : ChangeSpec := { name := "indexKept", fn := fun _ => fun
  | [d1, d2, d3, d4] => { results := [.lit (.bool true)], args := [d1, d2, d3, d4] }
  | _ => none }
def indexKeptRow : OpenClaim := { program := "ytkkgmodladgonaadoor", sum := "b0e59b77a741b3f7459be9ddb5a219b60f487c8e0ce0c820b845fbc38d74a04f", func := "roquet/roquetlaw10.IndexKept", spec := "indexKept", unfollowed := true, recurses := true, named := ["roquet/index.gains"], plainKeys := false, apart := false, laid := [("roquet/index.gains", laid_roquet_index_gains)] }
def IndexKeptSaid : Prop := indexKeptRow.holds Tryd.pinned (OpenSpec.ofChange indexKeptSpec)

/-- ITS FALSE NEIGHBOUR: 'it returns false'. Refute it at one input. -/
def indexKeptWrong : ChangeSpec := { name := "indexKept", fn := fun _ => fun
  | [d1, d2, d3, d4] => { results := [.lit (.bool false)], args := [d1, d2, d3, d4] }
  | _ => none }
def IndexKeptWrongFalsely : Prop := indexKeptRow.holds Tryd.pinned (OpenSpec.ofChange indexKeptWrong)

/-- 'roquetlaw10.IndexGrades': WHATEVER THE INPUT: true; the input reads as it did. -/
def indexGradesSpec : ChangeSpec := { name := "indexGrades", fn := fun _ => fun
  | [d1, d2, d3] => { results := [.lit (.bool true)], args := [d1, d2, d3] }
  | _ => none }
def indexGradesRow : OpenClaim := { program := "ytkkgmodladgonaadoor", sum := "b0e59b77a741b3f7459be9ddb5a219b60f487c8e0ce0c820b845fbc38d74a04f", func := "roquet/roquetlaw10.IndexGrades", spec := "indexGrades", unfollowed := true, recurses := true, named := ["roquet/index.gains"], plainKeys := false, apart := false, laid := [("roquet/index.gains", laid_roquet_index_gains)] }
def IndexGradesSaid : Prop := indexGradesRow.holds Tryd.pinned (OpenSpec.ofChange indexGradesSpec)

/-- ITS FALSE NEIGHBOUR: 'it returns false'. Refute it at one input. -/
def indexGradesWrong : ChangeSpec := { name := "indexGrades", fn := fun _ => fun
  | [d1, d2, d3] => { results := [.lit (.bool false)], args := [d1, d2, d3] }
  | _ => none }
def IndexGradesWrongFalsely : Prop := indexGradesRow.holds Tryd.pinned (OpenSpec.ofChange indexGradesWrong)

/-- 'roquetlaw10.IndexKnown': WHATEVER THE INPUT: true; the input reads as it did. -/
def indexKnownSpec : ChangeSpec := { name := "indexKnown", fn := fun _ => fun
  | [] => { results := [.lit (.bool true)], args := [] }
  | _ => none }
def indexKnownRow : OpenClaim := { program := "ytkkgmodladgonaadoor", sum := "b0e59b77a741b3f7459be9ddb5a219b60f487c8e0ce0c820b845fbc38d74a04f", func := "roquet/roquetlaw10.IndexKnown", spec := "indexKnown", unfollowed := true, recurses := true, named := ["roquet/index.gains"], plainKeys := false, apart := false, laid := [("roquet/index.gains", laid_roquet_index_gains)] }
def IndexKnownSaid : Prop := indexKnownRow.holds Tryd.pinned (OpenSpec.ofChange indexKnownSpec)

/-- ITS FALSE NEIGHBOUR: 'it returns false'. Refute it at one input. -/
def indexKnownWrong : ChangeSpec := { name := "indexKnown", fn := fun _ => fun
  | [] => { results := [.lit (.bool false)], args := [] }
  | _ => none }
def IndexKnownWrongFalsely : Prop := indexKnownRow.holds Tryd.pinned (OpenSpec.ofChange indexKnownWrong)

/- THE SECOND FORM. 'bulk': how many values and letters a reading holds, each counted each time it is reached (what is shared counts as often as it is met; a slice's spare places count too). A statement '..UptoSaid' is the law's where the arguments, and the package variables that the reading takes, are together of bulk at most 1048576: NARROWER than '..Said'. Prove '..Said' where nothing that the law and all that it calls make is longer than what came in: it says more and counts as full. Else prove '..UptoSaid'. A law counts once. -/
mutual
def uptoBulk {H : Type} : DataW H → Nat
  | .lit (.string bytes) => bytes.length + 1
  | .lit _ => 1
  | .nil => 1
  | .ptr d => uptoBulk d + 1
  | .slice elems spare => uptoBulkAll elems + uptoBulkAll spare + 1
  | .agg parts => uptoBulkAll parts + 1
  | .iface _ d => uptoBulk d + 1
  | .map entries => uptoBulkEntries entries + 1
  | .held _ => 1
def uptoBulkAll {H : Type} : List (DataW H) → Nat
  | [] => 0
  | d :: r => uptoBulk d + uptoBulkAll r
def uptoBulkEntries {H : Type} : List (Lit × DataW H) → Nat
  | [] => 0
  | x :: r => uptoBulkEntry x + uptoBulkEntries r
def uptoBulkEntry {H : Type} : Lit × DataW H → Nat
  | (.string bytes, d) => bytes.length + uptoBulk d + 1
  | (_, d) => uptoBulk d + 1
 end
def uptoSmall : (H : Type) → List (DataW H) → Bool := fun _ ds => decide (uptoBulkAll ds ≤ 1048576)
def OpenSpec.upto (s : _root_.Go.ChangeSpec) : _root_.Go.OpenSpec := { _root_.Go.OpenSpec.ofChange s with cond := some uptoSmall }

/-- 'roquetlaw10.IndexKept', WHERE WHAT IT READS IS OF BULK AT MOST 1048576: true; the input reads as it did. -/
def indexKeptUptoRow : OpenClaim := { program := "ytkkgmodladgonaadoor", sum := "b0e59b77a741b3f7459be9ddb5a219b60f487c8e0ce0c820b845fbc38d74a04f", func := "roquet/roquetlaw10.IndexKept", spec := "indexKept", unfollowed := true, recurses := true, named := ["roquet/index.gains"], plainKeys := false, apart := false, laid := [("roquet/index.gains", laid_roquet_index_gains)], narrowed := true }
def IndexKeptUptoSaid : Prop := indexKeptUptoRow.holds Tryd.pinned (OpenSpec.upto indexKeptSpec)

/-- 'roquetlaw10.IndexGrades', WHERE WHAT IT READS IS OF BULK AT MOST 1048576: true; the input reads as it did. -/
def indexGradesUptoRow : OpenClaim := { program := "ytkkgmodladgonaadoor", sum := "b0e59b77a741b3f7459be9ddb5a219b60f487c8e0ce0c820b845fbc38d74a04f", func := "roquet/roquetlaw10.IndexGrades", spec := "indexGrades", unfollowed := true, recurses := true, named := ["roquet/index.gains"], plainKeys := false, apart := false, laid := [("roquet/index.gains", laid_roquet_index_gains)], narrowed := true }
def IndexGradesUptoSaid : Prop := indexGradesUptoRow.holds Tryd.pinned (OpenSpec.upto indexGradesSpec)

/-- 'roquetlaw10.IndexKnown', WHERE WHAT IT READS IS OF BULK AT MOST 1048576: true; the input reads as it did. -/
def indexKnownUptoRow : OpenClaim := { program := "ytkkgmodladgonaadoor", sum := "b0e59b77a741b3f7459be9ddb5a219b60f487c8e0ce0c820b845fbc38d74a04f", func := "roquet/roquetlaw10.IndexKnown", spec := "indexKnown", unfollowed := true, recurses := true, named := ["roquet/index.gains"], plainKeys := false, apart := false, laid := [("roquet/index.gains", laid_roquet_index_gains)], narrowed := true }
def IndexKnownUptoSaid : Prop := indexKnownUptoRow.holds Tryd.pinned (OpenSpec.upto indexKnownSpec)

end Rows
end Go.Proofs.YtkkgmodladgonaaDoor
