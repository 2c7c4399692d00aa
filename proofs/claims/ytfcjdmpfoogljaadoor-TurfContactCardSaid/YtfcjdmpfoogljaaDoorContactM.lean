/-
  Mathematics of TurfContact.
-/
import Derived.Test.YtfcjdmpfoogljaaDoorMove
import Derived.Test.YtfcjdmpfoogljaaDoorKitB
import Derived.Test.YtfcjdmpfoogljaaDoorFine
set_option linter.unusedVariables false
set_option linter.unusedSimpArgs false
namespace Go.Proofs.YtfcjdmpfoogljaaDoor
open Go.ChangeShapes Go.WideShapes Go.ChangeAt Go.RowKit

theorem M.near_abs {x y m : Int} (h : M.near x y m = true) : max x (-x) ≤ m ∧ max y (-y) ≤ m ∧ x * x + y * y ≤ m * m := by
  obtain ⟨h1, h2, h3, h4, h5⟩ := M.near_of h
  exact ⟨by omega, by omega, h5⟩
theorem M.far_abs {x y m : Int} (h : M.near x y m = false) : m < max x (-x) ∨ (max x (-x) ≤ m ∧ m < max y (-y)) ∨ (max x (-x) ≤ m ∧ max y (-y) ≤ m ∧ m * m < x * x + y * y) := by
  have k := M.near_not h
  by_cases h1 : m < max x (-x)
  · exact .inl h1
  · by_cases h2 : m < max y (-y)
    · exact .inr (.inl ⟨by omega, h2⟩)
    · refine .inr (.inr ⟨by omega, by omega, ?_⟩)
      have h3 : -m ≤ x ∧ x ≤ m ∧ -m ≤ y ∧ y ≤ m := by omega
      by_cases h4 : x * x + y * y ≤ m * m
      · exact absurd ⟨h3.1, h3.2.1, h3.2.2.1, h3.2.2.2, h4⟩ k
      · omega

end Go.Proofs.YtfcjdmpfoogljaaDoor
