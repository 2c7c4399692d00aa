/-
  Mathematics of places towards another one.
-/
import Derived.Test.YtfcjdmpfoogljaaDoorMathB
set_option linter.unusedVariables false
namespace Go.Proofs.YtfcjdmpfoogljaaDoor.M

theorem whole_bd (n d B : Int) (hd : 1 ≤ d) (h1 : -B ≤ n) (h2 : n ≤ B) (hB : 0 ≤ B) : -(B + 1) ≤ whole n d ∧ whole n d ≤ B + 1 := by
  have e := whole_rest n d
  have r1 := rest_lo n d (by omega)
  have r2 := rest_hi n d (by omega)
  generalize whole n d = q at *
  generalize rest n d = r at *
  constructor
  · by_cases h : q ≤ -1
    · have k : (-(2 * q + 1)) * 1 ≤ (-(2 * q + 1)) * d := Int.mul_le_mul_of_nonneg_left hd (by omega)
      have k2 : (-(2 * q + 1)) * d = -(2 * (q * d)) - d := by grind
      omega
    · omega
  · by_cases h : 1 ≤ q
    · have k : (2 * q - 1) * 1 ≤ (2 * q - 1) * d := Int.mul_le_mul_of_nonneg_left hd (by omega)
      have k2 : (2 * q - 1) * d = 2 * (q * d) - d := by grind
      omega
    · omega
theorem sq_pos {x y u v : Int} (h : ¬ (x = u ∧ y = v)) : 1 ≤ sq x y u v := by
  unfold sq
  have h1 := sq_nonneg (u - x)
  have h2 := sq_nonneg (v - y)
  by_cases hx : x = u
  · have hy : v - y ≠ 0 := by omega
    rcases Int.lt_or_gt_of_ne hy with k | k
    · have : 1 * 1 ≤ (-(v - y)) * (-(v - y)) := Int.mul_le_mul (by omega) (by omega) (by omega) (by omega)
      have e : (-(v - y)) * (-(v - y)) = (v - y) * (v - y) := by grind
      omega
    · have : 1 * 1 ≤ (v - y) * (v - y) := Int.mul_le_mul (by omega) (by omega) (by omega) (by omega)
      omega
  · have hy : u - x ≠ 0 := by omega
    rcases Int.lt_or_gt_of_ne hy with k | k
    · have : 1 * 1 ≤ (-(u - x)) * (-(u - x)) := Int.mul_le_mul (by omega) (by omega) (by omega) (by omega)
      have e : (-(u - x)) * (-(u - x)) = (u - x) * (u - x) := by grind
      omega
    · have : 1 * 1 ≤ (u - x) * (u - x) := Int.mul_le_mul (by omega) (by omega) (by omega) (by omega)
      omega
theorem root_bd {s d : Int} (h : 1 ≤ s) (h2 : s ≤ 140737488355328) (hr : IsRoot (4096 * s) d) : 64 ≤ d ∧ d ≤ 1073741824 := by
  obtain ⟨h3, h4, h5⟩ := hr
  constructor
  · rcases lt_or_ge' d 64 with k | k
    · have := sq_le (a := d + 1) (b := 64) (by omega) (by omega)
      omega
    · exact k
  · rcases lt_or_ge' 1073741824 d with k | k
    · have := sq_le (a := 1073741825) (b := d) (by omega) (by omega)
      omega
    · exact k
/-- A coordinate of the place towards another one. -/
def tow (p q l d : Int) : Int := q + whole (64 * (p - q) * l) d
theorem way_bd (p q l : Int) (h1 : -4194304 ≤ p ∧ p ≤ 4194304) (h2 : -4194304 ≤ q ∧ q ≤ 4194304) (l1 : 0 ≤ l) (l2 : l ≤ 4194304) : -2251799813685248 ≤ 64 * (p - q) * l ∧ 64 * (p - q) * l ≤ 2251799813685248 := by
  have := mul_bd (64 * (p - q)) l 536870912 4194304 (by omega) (by omega) (by omega) (by omega)
  omega
end Go.Proofs.YtfcjdmpfoogljaaDoor.M
