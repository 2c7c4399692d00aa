/-
  TurfSegments: whatever the places, the law returns true (its walk).
-/
import Derived.Test.YtlgabdamgalngaaSegR
import Derived.Test.YtlgabdamgalngaaFine
set_option linter.unusedVariables false
set_option linter.unusedSimpArgs false
namespace Go.Proofs.Ytlgabdamgalngaa
open Go.ChangeShapes Go.WideShapes Go.ChangeAt Go.RowKit

theorem In_of {x y : Int} (h : inB x y = true) : M.In x y := of_decide_eq_true (p := (-4194304 ≤ x ∧ x ≤ 4194304) ∧ (-4194304 ≤ y ∧ y ≤ 4194304)) h
theorem chkDisc_cases (x y r : Int) : (chkDisc x y r = 0 ∧ M.In x y ∧ 1 ≤ r ∧ r ≤ 65536) ∨ chkDisc x y r = 2 := by
  by_cases h : chkDisc x y r = 0
  · exact .inl ⟨h, chkDisc_in h⟩
  · exact .inr (chkDisc_two h)

/-! The program's 'Touch'. -/
/-! The reference. -/
theorem in3 {x y u v p q : Int} (h : ¬ (M.In x y ∧ M.In u v ∧ M.In p q)) : inB x y = false ∨ (inB x y = true ∧ inB u v = false) ∨ (inB x y = true ∧ inB u v = true ∧ inB p q = false) := by
  cases k1 : inB x y
  · exact .inl rfl
  · cases k2 : inB u v
    · exact .inr (.inl ⟨rfl, rfl⟩)
    · exact .inr (.inr ⟨rfl, rfl, inB_no (fun k => h ⟨In_of k1, In_of k2, k⟩)⟩)
/-! Both sides. -/
/-- Two calls answer alike, whatever the world. -/
def Both (f g : FuncId) (args : Array Value) (v : Value) : Prop :=
  (∀ w : World, Calls Try.prog f args w fun e w' => e = .returned v ∧ Below w.heap.size w w') ∧ (∀ w : World, Calls Try.prog g args w fun e w' => e = .returned v ∧ Below w.heap.size w w')
end Go.Proofs.Ytlgabdamgalngaa
