/-
  Contracts of the law's own helpers: places of spots, amounts.
-/
import Derived.Test.YtfcjdmpfoogljaaDoorMathB
import Derived.Test.YtfcjdmpfoogljaaDoorGrow
import Derived.Test.YtfcjdmpfoogljaaDoorA
import Derived.Lib.MinMax
set_option linter.unusedVariables false
set_option linter.unusedSimpArgs false
namespace Go.Proofs.YtfcjdmpfoogljaaDoor
open Go.ChangeShapes Go.WideShapes Go.ChangeAt Go.RowKit

/-- The scale. -/
def M.scale (s : Int) : Int := 1 + s % 64
theorem M.scale_bd (s : Int) : 1 ≤ M.scale s ∧ M.scale s ≤ 64 := by unfold M.scale; omega
theorem M.at_bd (x s : Int) (h1 : -32768 ≤ x) (h2 : x ≤ 32767) : -2097152 ≤ x * M.scale s ∧ x * M.scale s ≤ 2097152 := by
  obtain ⟨h3, h4⟩ := M.scale_bd s
  obtain ⟨h5, h6⟩ := M.mul_bd x (M.scale s) 32768 64 (by omega) (by omega) (by omega) (by omega)
  omega
theorem M.at_in (x y s : Int) (h1 : -32768 ≤ x) (h2 : x ≤ 32767) (h3 : -32768 ≤ y) (h4 : y ≤ 32767) : M.In (x * M.scale s) (y * M.scale s) := by
  have := M.at_bd x s h1 h2
  have := M.at_bd y s h3 h4
  exact ⟨⟨by omega, by omega⟩, ⟨by omega, by omega⟩⟩

set_option maxHeartbeats 1000000 in
theorem at_any (x y s : Int) (w : World) (h1 : -32768 ≤ x) (h2 : x ≤ 32767) (h3 : -32768 ≤ y) (h4 : y ≤ 32767) (s1 : 0 ≤ s) (s2 : s ≤ 255) :
    Calls Tryd.prog 42 #[.agg #[.int .i16 x, .int .i16 y], .int .u8 s] w fun e w' => e = .returned (.agg #[.int .i64 (x * M.scale s), .int .i64 (y * M.scale s)]) ∧ Below w.heap.size w w' := by
  obtain ⟨a1, a2⟩ := M.at_bd x s h1 h2
  obtain ⟨a3, a4⟩ := M.at_bd y s h3 h4
  obtain ⟨a5, a6⟩ := M.scale_bd s
  unfold M.scale at *
  go_enter Tryd.func42, Tryd.ntmps42
  go_wp2
  go_returns
  exact ⟨rfl, by go_grown⟩
theorem abs_any (x : Int) (w : World) (h1 : -9223372036854775807 ≤ x) (h2 : x ≤ 9223372036854775807) :
    Calls Tryd.prog 44 #[.int .i64 x] w fun e w' => e = .returned (.int .i64 (max x (-x))) ∧ w = w' := by
  go_enter Tryd.func44, Tryd.ntmps44
  go_wp2
  go_returns
  exact ⟨rfl, rfl⟩
end Go.Proofs.YtfcjdmpfoogljaaDoor
