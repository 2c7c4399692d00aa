/-
  What every statement of the seat asks of the program.
-/
import Derived.Test.YtlgabdamgalngaaKit
set_option linter.unusedVariables false
namespace Go.Proofs.Ytlgabdamgalngaa
open Go Go.ChangeShapes Go.WideShapes Go.ChangeAt Go.RowKit
theorem own : ownKnob Try.prog.godebug = none := by kernel_rfl
theorem laidOut : laidOutB Try.prog = true := by kernel_rfl
/-- A world for the witnesses. -/
noncomputable def laidWorld (os : Os) : World := World.holding Try.prog os ⟨#[], #[], []⟩
end Go.Proofs.Ytlgabdamgalngaa
