/-
  Mathematics of TurfTowards: how far a place towards another one is.
-/
import Derived.Test.YtfcjdmpfoogljaaDoorTowM
set_option linter.unusedVariables false
namespace Go.Proofs.YtfcjdmpfoogljaaDoor.M

/-- From q towards p: far enough away from q that the rounded root matters little. -/
theorem tow_far (X Y n d s : Int) (hs : s = X * X + Y * Y) (hr : IsRoot (4096 * s) d) (hd : 1 ≤ d) (n0 : 0 ≤ n) (hn : n * n ≤ 256 * s) :
    let a := whole (64 * X * n) d
    let b := whole (64 * Y * n) d
    a * a + b * b ≤ (n + 2) * (n + 2) ∧ (2 ≤ n → (n - 2) * (n - 2) ≤ a * a + b * b) ∧ (2 ≤ n → 0 < a * X + b * Y) := by
  intro a b
  have ea : a * d + rest (64 * X * n) d = 64 * X * n := whole_rest _ _
  have eb : b * d + rest (64 * Y * n) d = 64 * Y * n := whole_rest _ _
  have r1 := rest_lo (64 * X * n) d (by omega)
  have r2 := rest_hi (64 * X * n) d (by omega)
  have r3 := rest_lo (64 * Y * n) d (by omega)
  have r4 := rest_hi (64 * Y * n) d (by omega)
  generalize rest (64 * X * n) d = ρ at *
  generalize rest (64 * Y * n) d = σ at *
  generalize a = a at *
  generalize b = b at *
  obtain ⟨h0, h1, h2⟩ := hr
  -- 4 n is at most d
  have h4n : 4 * n ≤ d := by
    rcases lt_or_ge' d (4 * n) with k | k
    · have k2 := sq_le (a := d + 1) (b := 4 * n) (by omega) (by omega)
      have k3 : 4 * n * (4 * n) = 16 * (n * n) := by grind
      omega
    · exact k
  have eS : 4096 * s = (64 * X) * (64 * X) + (64 * Y) * (64 * Y) := by rw [hs]; grind
  rw [eS] at h1 h2
  have ea' : a * d + ρ = 64 * X * n := ea
  have eb' : b * d + σ = 64 * Y * n := eb
  have hX : ∃ P, P = 64 * X := ⟨_, rfl⟩
  have hY : ∃ Q, Q = 64 * Y := ⟨_, rfl⟩
  obtain ⟨P, hP⟩ := hX
  obtain ⟨Q, hQ⟩ := hY
  rw [← hP, ← hQ] at h1 h2
  rw [← hP] at ea'
  rw [← hQ] at eb'
  have p0 := sq_nonneg P
  have q0 := sq_nonneg Q
  have bd : ∀ z : Int, z * z < (d + 1) * (d + 1) → -d ≤ z ∧ z ≤ d := by
    intro z hz
    constructor
    · rcases lt_or_ge' z (-d) with k | k
      · have := sq_le (a := d + 1) (b := -z) (by omega) (by omega)
        have e : -z * -z = z * z := by grind
        omega
      · exact k
    · rcases lt_or_ge' d z with k | k
      · have := sq_le (a := d + 1) (b := z) (by omega) (by omega)
        omega
      · exact k
  obtain ⟨p1, p2⟩ := bd P (by omega)
  obtain ⟨q1, q2⟩ := bd Q (by omega)
  obtain ⟨c1, c2⟩ := mul_bd P (2 * ρ) d d p1 p2 (by omega) (by omega)
  obtain ⟨c3, c4⟩ := mul_bd Q (2 * σ) d d q1 q2 (by omega) (by omega)
  obtain ⟨c5, c6⟩ := mul_bd (2 * ρ) (2 * ρ) d d (by omega) (by omega) (by omega) (by omega)
  obtain ⟨c7, c8⟩ := mul_bd (2 * σ) (2 * σ) d d (by omega) (by omega) (by omega) (by omega)
  have g1 := sq_nonneg ρ
  have g2 := sq_nonneg σ
  -- the sum of the crossed rests
  have hW : ∃ W, W = P * (2 * ρ) + Q * (2 * σ) := ⟨_, rfl⟩
  obtain ⟨W, hW⟩ := hW
  have w1 : -(2 * (d * d)) ≤ W := by omega
  have w2 : W ≤ 2 * (d * d) := by omega
  have hT : ∃ T, T = P * P + Q * Q := ⟨_, rfl⟩
  obtain ⟨T, hT⟩ := hT
  rw [← hT] at h1 h2
  have id1 : d * d * (a * a + b * b) = n * n * T - n * W + (ρ * ρ + σ * σ) := by grind
  have e5 : 2 * ρ * (2 * ρ) = 4 * (ρ * ρ) := by grind
  have e6 : 2 * σ * (2 * σ) = 4 * (σ * σ) := by grind
  have t2 : T ≤ d * d + 2 * d := by have : (d + 1) * (d + 1) = d * d + 2 * d + 1 := by grind
                                    omega
  have m1 : n * n * T ≤ n * n * (d * d + 2 * d) := Int.mul_le_mul_of_nonneg_left t2 (sq_nonneg n)
  have m2 : n * n * (d * d) ≤ n * n * T := Int.mul_le_mul_of_nonneg_left h1 (sq_nonneg n)
  have m3 : n * W ≤ n * (2 * (d * d)) := Int.mul_le_mul_of_nonneg_left w2 n0
  have m4 : n * -(2 * (d * d)) ≤ n * W := Int.mul_le_mul_of_nonneg_left w1 n0
  have m5 : n * d * (4 * n) ≤ n * d * d := Int.mul_le_mul_of_nonneg_left h4n (Int.mul_nonneg n0 h0)
  have d0 : 0 < d * d := Int.mul_pos (by omega) (by omega)
  have nd : 0 ≤ n * (d * d) := Int.mul_nonneg n0 (by omega)
  refine ⟨?_, fun k2 => ?_, fun k2 => ?_⟩
  · refine Int.le_of_mul_le_mul_left (a := d * d) ?_ d0
    have x1 : d * d * ((n + 2) * (n + 2)) = n * n * (d * d) + 4 * (n * (d * d)) + 4 * (d * d) := by grind
    have x2 : n * n * (d * d + 2 * d) = n * n * (d * d) + 2 * (n * n * d) := by grind
    have x3 : n * d * (4 * n) = 4 * (n * n * d) := by grind
    have x4 : n * d * d = n * (d * d) := by grind
    have x5 : n * -(2 * (d * d)) = -(2 * (n * (d * d))) := by grind
    have x6 : n * (2 * (d * d)) = 2 * (n * (d * d)) := by grind
    omega
  · refine Int.le_of_mul_le_mul_left (a := d * d) ?_ d0
    have x1 : d * d * ((n - 2) * (n - 2)) = n * n * (d * d) - 4 * (n * (d * d)) + 4 * (d * d) := by grind
    have x6 : n * (2 * (d * d)) = 2 * (n * (d * d)) := by grind
    have x7 : 2 * (d * d) ≤ n * (d * d) := Int.mul_le_mul_of_nonneg_right k2 (by omega)
    omega
  · have id2 : 2 * d * (a * P + b * Q) = 2 * (n * T) - W := by grind
    have x7 : 2 * (d * d) ≤ n * (d * d) := Int.mul_le_mul_of_nonneg_right k2 (by omega)
    have x8 : n * (d * d) ≤ n * T := Int.mul_le_mul_of_nonneg_left h1 n0
    have x9 : a * P + b * Q = 64 * (a * X + b * Y) := by rw [hP, hQ]; grind
    rcases lt_or_ge' 0 (a * X + b * Y) with k | k
    · exact k
    · have := Int.mul_le_mul_of_nonneg_left (c := 2 * d) (show a * P + b * Q ≤ 0 by omega) (by omega)
      omega
theorem tow_facts (p0 p1 q0 q1 n d : Int) (h1 : In p0 p1) (h2 : In q0 q1) (he : ¬ (p0 = q0 ∧ p1 = q1)) (hr : IsRoot (4096 * sq p0 p1 q0 q1) d) (n0 : 0 ≤ n) (hn : n * n ≤ 256 * sq p0 p1 q0 q1) :
    max 0 (n - 2) * max 0 (n - 2) ≤ sq (tow p0 q0 n d) (tow p1 q1 n d) q0 q1 ∧ sq (tow p0 q0 n d) (tow p1 q1 n d) q0 q1 ≤ (n + 2) * (n + 2) ∧
    (n < 4 ∨ 0 < (tow p0 q0 n d - q0) * (p0 - q0) + (tow p1 q1 n d - q1) * (p1 - q1)) := by
  have s1 := sq_bd h1 h2
  have s2 := sq_pos he
  have d1 := root_bd s2 s1.2 hr
  have hs : sq p0 p1 q0 q1 = (p0 - q0) * (p0 - q0) + (p1 - q1) * (p1 - q1) := by unfold sq; grind
  obtain ⟨k1, k2, k3⟩ := tow_far (p0 - q0) (p1 - q1) n d _ hs hr (by omega) n0 hn
  have e1 : tow p0 q0 n d - q0 = whole (64 * (p0 - q0) * n) d := by unfold tow; omega
  have e2 : tow p1 q1 n d - q1 = whole (64 * (p1 - q1) * n) d := by unfold tow; omega
  have e3 : sq (tow p0 q0 n d) (tow p1 q1 n d) q0 q1 = whole (64 * (p0 - q0) * n) d * whole (64 * (p0 - q0) * n) d + whole (64 * (p1 - q1) * n) d * whole (64 * (p1 - q1) * n) d := by
    rw [← e1, ← e2]; unfold sq; grind
  rw [e3, e1, e2]
  refine ⟨?_, k1, ?_⟩
  · by_cases h : 2 ≤ n
    · rw [show max 0 (n - 2) = n - 2 by omega]
      exact k2 h
    · rw [show max 0 (n - 2) = 0 by omega]
      have := sq_nonneg (whole (64 * (p0 - q0) * n) d)
      have := sq_nonneg (whole (64 * (p1 - q1) * n) d)
      omega
  · by_cases h : 4 ≤ n
    · exact .inr (k3 (by omega))
    · exact .inl (by omega)
end Go.Proofs.YtfcjdmpfoogljaaDoor.M
