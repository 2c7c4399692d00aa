/-
  Contracts of the law's own helpers: moved places.
-/
import Derived.Test.YtfcjdmpfoogljaaDoorKitB
set_option linter.unusedVariables false
set_option linter.unusedSimpArgs false
namespace Go.Proofs.YtfcjdmpfoogljaaDoor
open Go.ChangeShapes Go.WideShapes Go.ChangeAt Go.RowKit

set_option maxHeartbeats 1000000 in
theorem move_any (x y b c : Int) (w : World) (x1 : -4194304 ≤ x) (x2 : x ≤ 4194304) (y1 : -4194304 ≤ y) (y2 : y ≤ 4194304) (h1 : -32768 ≤ b) (h2 : b ≤ 32767) (h3 : -32768 ≤ c) (h4 : c ≤ 32767) :
    Calls Tryd.prog 43 #[.agg #[.int .i64 x, .int .i64 y], .agg #[.int .i16 b, .int .i16 c]] w fun e w' => e = .returned (.agg #[.int .i64 (x + b), .int .i64 (y + c)]) ∧ Below w.heap.size w w' := by
  go_enter Tryd.func43, Tryd.ntmps43
  go_wp2
  go_returns
  exact ⟨rfl, by go_grown⟩
end Go.Proofs.YtfcjdmpfoogljaaDoor
