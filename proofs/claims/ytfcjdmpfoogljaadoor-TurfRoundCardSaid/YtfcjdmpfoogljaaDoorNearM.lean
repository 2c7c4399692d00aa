/-
  Mathematics of TurfNear: how a place lies to a segment.
-/
import Derived.Test.YtfcjdmpfoogljaaDoorMathB
set_option linter.unusedVariables false
namespace Go.Proofs.YtfcjdmpfoogljaaDoor.M

theorem cmp_neg_iff {a b : Int} : cmp a b < 0 ↔ a < b := by
  unfold cmp
  split <;> (try split) <;> omega
theorem cmp_nonneg {a b : Int} (h : 0 ≤ cmp a b) : b ≤ a := by
  unfold cmp at h
  split at h
  · omega
  · omega
theorem cmp_pos {a b : Int} (h : 0 < cmp a b) : b < a := by
  unfold cmp at h
  split at h
  · omega
  · split at h
    · assumption
    · omega
theorem cmp_zero {a b : Int} (h : cmp a b = 0) : a = b := by
  unfold cmp at h
  split at h
  · omega
  · split at h <;> omega

theorem sq_swap (x y u v : Int) : sq x y u v = sq u v x y := by unfold sq; grind
theorem liesV_back (x y u v p q r : Int) : liesV u v x y p q r = liesV x y u v p q r := by
  have e1 : ahead u v x y p q = sq x y u v - ahead x y u v p q := by unfold ahead sq; grind
  have e2 : left u v x y p q = -left x y u v p q := by unfold left; grind
  have e3 : sq u v x y = sq x y u v := sq_swap _ _ _ _
  have e4 : -left x y u v p q * -left x y u v p q = left x y u v p q * left x y u v p q := neg_sq _
  have s0 : 0 ≤ sq x y u v := by
    have := sq_nonneg (u - x)
    have := sq_nonneg (v - y)
    unfold sq; omega
  unfold liesV
  rw [e1, e2, e3, e4]
  by_cases h1 : ahead x y u v p q ≤ 0
  · rw [if_pos h1]
    by_cases h2 : sq x y u v ≤ ahead x y u v p q
    · rw [if_pos (by omega)]
      -- both ends are one
      have z : sq x y u v = 0 := by omega
      have hx := sq_nonneg (u - x)
      have hy := sq_nonneg (v - y)
      have zx : (u - x) * (u - x) = 0 := by unfold sq at z; omega
      have zy : (v - y) * (v - y) = 0 := by unfold sq at z; omega
      have zx' : u - x = 0 := by rcases Int.mul_eq_zero.1 zx with k | k <;> exact k
      have zy' : v - y = 0 := by rcases Int.mul_eq_zero.1 zy with k | k <;> exact k
      have ux : u = x := by omega
      have vy : v = y := by omega
      rw [ux, vy]
    · rw [if_neg (by omega), if_pos (by omega)]
  · rw [if_neg h1]
    by_cases h2 : sq x y u v ≤ ahead x y u v p q
    · rw [if_pos (by omega), if_pos h2]
    · rw [if_neg (by omega), if_neg (by omega), if_neg h2]
theorem liesV_move (x y u v p q r b c : Int) : liesV (x + b) (y + c) (u + b) (v + c) (p + b) (q + c) r = liesV x y u v p q r := by
  have e1 : ahead (x + b) (y + c) (u + b) (v + c) (p + b) (q + c) = ahead x y u v p q := by unfold ahead; grind
  have e2 : left (x + b) (y + c) (u + b) (v + c) (p + b) (q + c) = left x y u v p q := by unfold left; grind
  have e3 : sq (x + b) (y + c) (u + b) (v + c) = sq x y u v := by unfold sq; grind
  have e4 : sq (x + b) (y + c) (p + b) (q + c) = sq x y p q := by unfold sq; grind
  have e5 : sq (u + b) (v + c) (p + b) (q + c) = sq u v p q := by unfold sq; grind
  unfold liesV
  rw [e1, e2, e3, e4, e5]

/-- Fifteen times the way from p to the point k fifteenths along. -/
theorem lies_far (x y u v p q n k : Int) (k0 : 0 ≤ k) (k1 : k ≤ 15) :
    let X := 15 * (x - p) + k * (u - x)
    let Y := 15 * (y - q) + k * (v - y)
    (0 ≤ liesV x y u v p q n → 15 * n * 15 * n ≤ X * X + Y * Y) ∧ (0 < liesV x y u v p q n → 15 * n * 15 * n < X * X + Y * Y) := by
  intro X Y
  have main : ∃ A B m : Int, 0 < m ∧ liesV x y u v p q n = cmp A B ∧ (225 * A ≤ m * (X * X + Y * Y)) ∧ B = m * (n * n) := by
    unfold liesV
    by_cases h1 : ahead x y u v p q ≤ 0
    · rw [if_pos h1]
      refine ⟨sq x y p q, n * n, 1, by omega, rfl, ?_, by omega⟩
      have id : X * X + Y * Y = 225 * sq x y p q - 30 * (k * ahead x y u v p q) + (k * (u - x)) * (k * (u - x)) + (k * (v - y)) * (k * (v - y)) := by
        simp only [X, Y]; unfold sq ahead; grind
      have a1 : k * ahead x y u v p q ≤ k * 0 := Int.mul_le_mul_of_nonneg_left h1 k0
      have a2 := sq_nonneg (k * (u - x))
      have a3 := sq_nonneg (k * (v - y))
      omega
    · rw [if_neg h1]
      by_cases h2 : sq x y u v ≤ ahead x y u v p q
      · rw [if_pos h2]
        refine ⟨sq u v p q, n * n, 1, by omega, rfl, ?_, by omega⟩
        have id : X * X + Y * Y = 225 * sq u v p q + 30 * ((15 - k) * (ahead x y u v p q - sq x y u v)) + ((15 - k) * (u - x)) * ((15 - k) * (u - x)) + ((15 - k) * (v - y)) * ((15 - k) * (v - y)) := by
          simp only [X, Y]; unfold sq ahead; grind
        have a1 : 0 ≤ (15 - k) * (ahead x y u v p q - sq x y u v) := Int.mul_nonneg (by omega) (by omega)
        have a2 := sq_nonneg ((15 - k) * (u - x))
        have a3 := sq_nonneg ((15 - k) * (v - y))
        omega
      · rw [if_neg h2]
        refine ⟨left x y u v p q * left x y u v p q, n * n * sq x y u v, sq x y u v, by omega, rfl, ?_, by grind⟩
        have id : sq x y u v * (X * X + Y * Y) = 225 * (left x y u v p q * left x y u v p q) + (X * (u - x) + Y * (v - y)) * (X * (u - x) + Y * (v - y)) := by
          simp only [X, Y]; unfold sq left; grind
        have a2 := sq_nonneg (X * (u - x) + Y * (v - y))
        omega
  obtain ⟨A, B, m, hm, hl, hA, hB⟩ := main
  rw [hl]
  have e : 15 * n * 15 * n = 225 * (n * n) := by grind
  rw [e]
  constructor
  · intro h
    have := cmp_nonneg h
    have x1 : m * (225 * (n * n)) ≤ m * (X * X + Y * Y) := by
      have : m * (225 * (n * n)) = 225 * (m * (n * n)) := by grind
      omega
    exact Int.le_of_mul_le_mul_left x1 hm
  · intro h
    have := cmp_pos h
    have x1 : m * (225 * (n * n)) < m * (X * X + Y * Y) := by
      have : m * (225 * (n * n)) = 225 * (m * (n * n)) := by grind
      omega
    exact Int.lt_of_mul_lt_mul_left x1 (by omega)
theorem lies_at (x y p q : Int) (h : liesV x y x y p q 0 = 0) : x = p ∧ y = q := by
  have e : ahead x y x y p q = 0 := by unfold ahead; grind
  unfold liesV at h
  rw [e, if_pos (by omega)] at h
  have z := cmp_zero h
  unfold sq at z
  have hx := sq_nonneg (p - x)
  have hy := sq_nonneg (q - y)
  have zx : (p - x) * (p - x) = 0 := by omega
  have zy : (q - y) * (q - y) = 0 := by omega
  have zx' : p - x = 0 := by rcases Int.mul_eq_zero.1 zx with k | k <;> exact k
  have zy' : q - y = 0 := by rcases Int.mul_eq_zero.1 zy with k | k <;> exact k
  omega
theorem liesV_bd (x y u v p q r : Int) : -1 ≤ liesV x y u v p q r ∧ liesV x y u v p q r ≤ 1 := by
  unfold liesV
  split
  · exact cmp_bd _ _
  · split
    · exact cmp_bd _ _
    · exact cmp_bd _ _
end Go.Proofs.YtfcjdmpfoogljaaDoor.M
