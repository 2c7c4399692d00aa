/-
  Contracts of layer 1: wide products.
-/
import Derived.Test.YtlgabdamgalngaaA
import Derived.Test.YtlgabdamgalngaaGrow
import Derived.Test.YtlgabdamgalngaaShelf
set_option linter.unusedVariables false
set_option linter.unusedSimpArgs false
namespace Go.Proofs.Ytlgabdamgalngaa
open Go.ChangeShapes Go.WideShapes Go.ChangeAt Go.RowKit

/-- What 'Wide' takes. -/
def wideIn (a b c d : Int) : Prop := (0 ≤ a ∧ a ≤ 4611686018427387904) ∧ (0 ≤ b ∧ b ≤ 4611686018427387904) ∧ (0 ≤ c ∧ c ≤ 4611686018427387904) ∧ (0 ≤ d ∧ d ≤ 4611686018427387904)
end Go.Proofs.Ytlgabdamgalngaa
