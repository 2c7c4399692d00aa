/-
  Contracts of the geometry of layer 1: how far a place is to the left, and ahead.
-/
import Derived.Test.YtlgabdamgalngaaA
import Derived.Test.YtlgabdamgalngaaGrow
set_option linter.unusedVariables false
set_option linter.unusedSimpArgs false
namespace Go.Proofs.Ytlgabdamgalngaa
open Go.ChangeShapes Go.WideShapes Go.ChangeAt Go.RowKit

end Go.Proofs.Ytlgabdamgalngaa
