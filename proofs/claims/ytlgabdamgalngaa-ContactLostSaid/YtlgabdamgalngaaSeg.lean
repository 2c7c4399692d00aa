/-
  Contracts of layer 1: segments.
-/
import Derived.Test.YtlgabdamgalngaaMathB
import Derived.Test.YtlgabdamgalngaaB
import Derived.Test.YtlgabdamgalngaaD
import Derived.Test.YtlgabdamgalngaaWide
set_option linter.unusedVariables false
set_option linter.unusedSimpArgs false
namespace Go.Proofs.Ytlgabdamgalngaa
open Go.ChangeShapes Go.WideShapes Go.ChangeAt Go.RowKit

theorem sq_call (x y u v : Int) (w : World) (h1 : M.In x y) (h2 : M.In u v) :
    Calls Try.prog 103 #[.agg #[.int .i64 x, .int .i64 y], .agg #[.int .i64 u, .int .i64 v]] w fun e w' => e = .returned (.int .i64 (M.sq x y u v)) ∧ Below w.heap.size w w' := by
  unfold M.In at h1 h2
  exact square_any x y u v w (by omega) (by omega) (by omega) (by omega) (by omega) (by omega) (by omega) (by omega)
/-- The three ways of 'lies'. -/
def liesPost (x y u v p q : Int) (w : World) : Prop := True
end Go.Proofs.Ytlgabdamgalngaa
