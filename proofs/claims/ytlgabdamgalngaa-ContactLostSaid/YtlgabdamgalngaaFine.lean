/-
  The examples that each law of layer 1 ends with: they hold.
-/
import Derived.Test.YtlgabdamgalngaaF
import Derived.Test.YtlgabdamgalngaaB
set_option linter.unusedVariables false
set_option linter.unusedSimpArgs false
namespace Go.Proofs.Ytlgabdamgalngaa
open Go.ChangeShapes Go.WideShapes Go.ChangeAt Go.RowKit

theorem Root_ok (n r : Int) (w : World) (h3 : 0 ≤ n) (h4 : n ≤ 4611686018427387904) (hr : M.IsRoot n r) :
    Calls Try.prog 52 #[.int .i64 n] w fun e w' => e = .returned (.tuple #[.int .i64 r, .int .i64 0]) ∧ Below w.heap.size w w' := by
  go_enter Try.func52, Try.ntmps52
  go_wp2_with (go_at_call 84; refine (root_any n r _ h3 h4 hr).mono ?_; rintro e w1 ⟨rfl, hb1⟩; obtain ⟨hB1, hz1, hc1, hf1⟩ := grow4 (w := w) (by go_grown) hb1; (try simp only [World.size_alloc, World.size_setCell, World.size_drew] at hz1); (try have hy1 := Nat.lt_of_succ_le hz1); (try have hx1 := Nat.lt_of_succ_lt hy1); (try have hw1 := Nat.lt_of_succ_lt hx1); (try have hv1 := Nat.lt_of_succ_lt hw1); (try have ha1 : w.heap.size < w1.heap.size := (by omega)); (try have hi1 : w.heap.size + 1 < w1.heap.size := (by omega)); (try have hj1 : w.heap.size + 1 + 1 < w1.heap.size := (by omega)); (try have hk1 : w.heap.size + 1 + 1 + 1 < w1.heap.size := (by omega)); (try have hl1 : w.heap.size + 1 + 1 + 1 + 1 < w1.heap.size := (by omega)))
  all_goals first | (exfalso; omega) | (go_returns; exact ⟨rfl, hB1⟩)
theorem Root_bad (n : Int) (w : World) (h : n < 0 ∨ 4611686018427387904 < n) :
    Calls Try.prog 52 #[.int .i64 n] w fun e w' => e = .returned (.tuple #[.int .i64 0, .int .i64 3]) ∧ Below w.heap.size w w' := by
  go_enter Try.func52, Try.ntmps52
  go_wp2_with fail
  all_goals first | (exfalso; omega) | (go_returns; exact ⟨rfl, by go_grown⟩)

theorem divide_7 (w : World) : Calls Try.prog 78 #[.int .i64 7, .int .i64 2] w fun e w' => e = .returned (.tuple #[.agg #[.int .i64 4, .int .i64 (-1)], .int .i64 0]) ∧ Below w.heap.size w w' :=
  divide_ok 7 2 w (by omega) (by omega) (by omega) (by omega)
theorem root_80 (w : World) : Calls Try.prog 52 #[.int .i64 80] w fun e w' => e = .returned (.tuple #[.int .i64 8, .int .i64 0]) ∧ Below w.heap.size w w' :=
  Root_ok 80 8 w (by omega) (by omega) ⟨by omega, by omega, by omega⟩
/-- What the ring of the example leaves: its second point. -/
def Ring64 (w : World) (e : Ending) (w' : World) : Prop :=
  ∃ g : Nat, e = .returned (.tuple #[.slice (some ⟨g, 0, none⟩) 16 16, .int .i64 0]) ∧ w'.cell? ⟨g, 2, none⟩ = some (.int .i64 59) ∧ w'.cell? ⟨g, 3, none⟩ = some (.int .i64 24) ∧ Below w.heap.size w w'
end Go.Proofs.Ytlgabdamgalngaa
