/-
  The plain numbers of layer 1: places and segments. No program is named here.
-/
import Derived.Test.YtlgabdamgalngaaMath
set_option linter.unusedVariables false
set_option linter.unusedSimpArgs false
namespace Go.Proofs.Ytlgabdamgalngaa.M

/-- A valid place. -/
def In (x y : Int) : Prop := (-4194304 ≤ x ∧ x ≤ 4194304) ∧ (-4194304 ≤ y ∧ y ≤ 4194304)
theorem chk_cases (ps : List (Int × Int)) : (chk ps = 0 ∧ ∀ p ∈ ps, In p.1 p.2) ∨ (chk ps = 2 ∧ ∃ p ∈ ps, ¬ In p.1 p.2) := by
  unfold chk okAll
  by_cases h : ps.all (fun p => fits p.1 && fits p.2) = true
  · rw [if_pos h]
    rw [List.all_eq_true] at h
    refine .inl ⟨rfl, fun p hp => ?_⟩
    have := h p hp
    simp [fits] at this
    unfold In
    omega
  · rw [if_neg h]
    rw [Bool.not_eq_true, List.all_eq_false] at h
    obtain ⟨p, hp, hn⟩ := h
    refine .inr ⟨rfl, p, hp, fun hi => hn ?_⟩
    unfold In at hi
    simp [fits, hi]
theorem sq_bd {x y u v : Int} (h1 : In x y) (h2 : In u v) : 0 ≤ sq x y u v ∧ sq x y u v ≤ 140737488355328 := by
  unfold In at h1 h2
  obtain ⟨a1, a2⟩ := mul_bd (u - x) (u - x) 8388608 8388608 (by omega) (by omega) (by omega) (by omega)
  obtain ⟨b1, b2⟩ := mul_bd (v - y) (v - y) 8388608 8388608 (by omega) (by omega) (by omega) (by omega)
  have c1 := sq_nonneg (u - x)
  have c2 := sq_nonneg (v - y)
  unfold sq
  omega
theorem left_bd {x y u v p q : Int} (h1 : In x y) (h2 : In u v) (h3 : In p q) : -140737488355328 ≤ left x y u v p q ∧ left x y u v p q ≤ 140737488355328 := by
  unfold In at h1 h2 h3
  obtain ⟨a1, a2⟩ := mul_bd (u - x) (q - y) 8388608 8388608 (by omega) (by omega) (by omega) (by omega)
  obtain ⟨b1, b2⟩ := mul_bd (v - y) (p - x) 8388608 8388608 (by omega) (by omega) (by omega) (by omega)
  unfold left
  omega
theorem ahead_bd {x y u v p q : Int} (h1 : In x y) (h2 : In u v) (h3 : In p q) : -140737488355328 ≤ ahead x y u v p q ∧ ahead x y u v p q ≤ 140737488355328 := by
  unfold In at h1 h2 h3
  obtain ⟨a1, a2⟩ := mul_bd (u - x) (p - x) 8388608 8388608 (by omega) (by omega) (by omega) (by omega)
  obtain ⟨b1, b2⟩ := mul_bd (v - y) (q - y) 8388608 8388608 (by omega) (by omega) (by omega) (by omega)
  unfold ahead
  omega
/-- How a place lies to a segment. -/
def liesV (x y u v p q r : Int) : Int :=
  if ahead x y u v p q ≤ 0 then cmp (sq x y p q) (r * r)
  else if sq x y u v ≤ ahead x y u v p q then cmp (sq u v p q) (r * r)
  else cmp (left x y u v p q * left x y u v p q) (r * r * sq x y u v)
theorem neg_sq (a : Int) : -a * -a = a * a := by grind
end Go.Proofs.Ytlgabdamgalngaa.M
