/-
  Layer 3: how great the numbers of a kick are, as both sides write them.
-/
import Derived.Test.YtlgabdamgalngaaCtN
set_option linter.unusedVariables false
set_option linter.unusedSimpArgs false
namespace Go.Proofs.Ytlgabdamgalngaa.M
theorem mul_bd' {a b A B C : Int} (hC : A * B = C) (h1 : -A ≤ a ∧ a ≤ A) (h2 : -B ≤ b ∧ b ≤ B) : -C ≤ a * b ∧ a * b ≤ C := by
  subst hC
  exact mul_bd a b A B h1.1 h1.2 h2.1 h2.2
theorem kick_debts {ux uy wx wy sq b r d : Int} (hs : sq = wx * wx + wy * wy) (hp : 0 < sq) (b1 : 1 ≤ b) (b2 : b ≤ 1000) (r1 : 0 ≤ r) (r2 : r ≤ 950) (d1 : 0 ≤ d) (d2 : d ≤ 300)
    (x1 : -(b * 16777216) ≤ ux) (x2 : ux ≤ b * 16777216) (y1 : -(b * 16777216) ≤ uy) (y2 : uy ≤ b * 16777216) (w1 : -70000 ≤ wx) (w2 : wx ≤ 70000) (w3 : -70000 ≤ wy) (w4 : wy ≤ 70000) :
    ((-1174405120000000 ≤ ux * wx ∧ ux * wx ≤ 1174405120000000) ∧ (-1174405120000000 ≤ uy * wy ∧ uy * wy ≤ 1174405120000000) ∧ (-1174405120000000 ≤ wx * uy ∧ wx * uy ≤ 1174405120000000) ∧ (-1174405120000000 ≤ wy * ux ∧ wy * ux ≤ 1174405120000000)) ∧
    ((-50000000000 ≤ (ux * wx + uy * wy).tdiv sq ∧ (ux * wx + uy * wy).tdiv sq ≤ 50000000000) ∧ (-50000000000 ≤ (wx * uy - wy * ux).tdiv sq ∧ (wx * uy - wy * ux).tdiv sq ≤ 50000000000) ∧
    (-97500000000000 ≤ (1000 + r) * (ux * wx + uy * wy).tdiv sq ∧ (1000 + r) * (ux * wx + uy * wy).tdiv sq ≤ 97500000000000) ∧ (-97500000000000 ≤ d * (wx * uy - wy * ux).tdiv sq ∧ d * (wx * uy - wy * ux).tdiv sq ≤ 97500000000000) ∧
    (-97500000000000 ≤ (1000 + r) * (ux * wx + uy * wy).tdiv sq * wx ∧ (1000 + r) * (ux * wx + uy * wy).tdiv sq * wx ≤ 97500000000000) ∧ (-97500000000000 ≤ (1000 + r) * (ux * wx + uy * wy).tdiv sq * wy ∧ (1000 + r) * (ux * wx + uy * wy).tdiv sq * wy ≤ 97500000000000) ∧
    (-97500000000000 ≤ d * (wx * uy - wy * ux).tdiv sq * wx ∧ d * (wx * uy - wy * ux).tdiv sq * wx ≤ 97500000000000) ∧ (-97500000000000 ≤ d * (wx * uy - wy * ux).tdiv sq * wy ∧ d * (wx * uy - wy * ux).tdiv sq * wy ≤ 97500000000000)) ∧
    ((-50331648 ≤ ((1000 + r) * (ux * wx + uy * wy).tdiv sq * wx - d * (wx * uy - wy * ux).tdiv sq * wy).tdiv (1000 * b) ∧ ((1000 + r) * (ux * wx + uy * wy).tdiv sq * wx - d * (wx * uy - wy * ux).tdiv sq * wy).tdiv (1000 * b) ≤ 50331648) ∧
     (-50331648 ≤ ((1000 + r) * (ux * wx + uy * wy).tdiv sq * wy + d * (wx * uy - wy * ux).tdiv sq * wx).tdiv (1000 * b) ∧ ((1000 + r) * (ux * wx + uy * wy).tdiv sq * wy + d * (wx * uy - wy * ux).tdiv sq * wx).tdiv (1000 * b) ≤ 50331648)) := by
  have ⟨k1, k2, k3, k4, k5, k6, kx, ky⟩ := kick_rng hs hp b1 b2 r1 r2 d1 d2 x1 x2 y1 y2
  have ex : k0x ux uy wx wy sq b r d = ((1000 + r) * hh ux uy wx wy sq * wx - d * kk ux uy wx wy sq * wy).tdiv (1000 * b) := rfl
  have ey : k0y ux uy wx wy sq b r d = ((1000 + r) * hh ux uy wx wy sq * wy + d * kk ux uy wx wy sq * wx).tdiv (1000 * b) := rfl
  rw [ex] at kx
  rw [ey] at ky
  clear ex ey
  unfold hh at k1 k2 k5 kx ky
  unfold kk at k3 k4 k6 kx ky
  have hr : -1950 ≤ 1000 + r ∧ 1000 + r ≤ 1950 := by omega
  have hd : -1950 ≤ d ∧ d ≤ 1950 := by omega
  have hux : -16777216000 ≤ ux ∧ ux ≤ 16777216000 := by omega
  have huy : -16777216000 ≤ uy ∧ uy ≤ 16777216000 := by omega
  refine ⟨⟨mul_bd' (by decide) hux ⟨w1, w2⟩, mul_bd' (by decide) huy ⟨w3, w4⟩, mul_bd' (by decide) ⟨w1, w2⟩ huy, mul_bd' (by decide) ⟨w3, w4⟩ hux⟩, ⟨k5, k6, mul_bd' (by decide) hr k5, mul_bd' (by decide) hd k6, ?_, ?_, ?_, ?_⟩, kx, ky⟩
  · rw [Int.mul_assoc]; exact mul_bd' (by decide) hr k1
  · rw [Int.mul_assoc]; exact mul_bd' (by decide) hr k2
  · rw [Int.mul_assoc]; exact mul_bd' (by decide) hd k3
  · rw [Int.mul_assoc]; exact mul_bd' (by decide) hd k4
theorem kick_forms (ux uy wx wy b r d sq : Int) :
    uy * wx = wx * uy ∧ ux * wy = wy * ux ∧ (uy * wx - ux * wy).tdiv sq = (wx * uy - wy * ux).tdiv sq ∧
    (1000 + r) * wx * (ux * wx + uy * wy).tdiv sq = (1000 + r) * (ux * wx + uy * wy).tdiv sq * wx ∧ (1000 + r) * wy * (ux * wx + uy * wy).tdiv sq = (1000 + r) * (ux * wx + uy * wy).tdiv sq * wy ∧
    d * wx * (uy * wx - ux * wy).tdiv sq = d * (wx * uy - wy * ux).tdiv sq * wx ∧ d * wy * (uy * wx - ux * wy).tdiv sq = d * (wx * uy - wy * ux).tdiv sq * wy ∧
    ((1000 + r) * wx * (ux * wx + uy * wy).tdiv sq - d * wy * (uy * wx - ux * wy).tdiv sq).tdiv (1000 * b) = ((1000 + r) * (ux * wx + uy * wy).tdiv sq * wx - d * (wx * uy - wy * ux).tdiv sq * wy).tdiv (1000 * b) ∧
    ((1000 + r) * wy * (ux * wx + uy * wy).tdiv sq + d * wx * (uy * wx - ux * wy).tdiv sq).tdiv (1000 * b) = ((1000 + r) * (ux * wx + uy * wy).tdiv sq * wy + d * (wx * uy - wy * ux).tdiv sq * wx).tdiv (1000 * b) := by
  have a1 : uy * wx = wx * uy := Int.mul_comm _ _
  have a2 : ux * wy = wy * ux := Int.mul_comm _ _
  have a3 : (uy * wx - ux * wy).tdiv sq = (wx * uy - wy * ux).tdiv sq := by rw [a1, a2]
  have sw : ∀ p q s : Int, p * q * s = p * s * q := fun p q s => by grind
  have a4 := sw (1000 + r) wx ((ux * wx + uy * wy).tdiv sq)
  have a5 := sw (1000 + r) wy ((ux * wx + uy * wy).tdiv sq)
  have a6 : d * wx * (uy * wx - ux * wy).tdiv sq = d * (wx * uy - wy * ux).tdiv sq * wx := by rw [a3, sw]
  have a7 : d * wy * (uy * wx - ux * wy).tdiv sq = d * (wx * uy - wy * ux).tdiv sq * wy := by rw [a3, sw]
  exact ⟨a1, a2, a3, a4, a5, a6, a7, by rw [a4, a7], by rw [a5, a6]⟩
theorem kick_small {wx wy r d : Int} (r1 : 0 ≤ r) (r2 : r ≤ 950) (d1 : 0 ≤ d) (d2 : d ≤ 300) (w1 : -70000 ≤ wx) (w2 : wx ≤ 70000) (w3 : -70000 ≤ wy) (w4 : wy ≤ 70000) :
    (0 ≤ wx * wx ∧ wx * wx ≤ 4900000000) ∧ (0 ≤ wy * wy ∧ wy * wy ≤ 4900000000) ∧ (-136500000 ≤ (1000 + r) * wx ∧ (1000 + r) * wx ≤ 136500000) ∧ (-136500000 ≤ (1000 + r) * wy ∧ (1000 + r) * wy ≤ 136500000) ∧
    (-136500000 ≤ d * wx ∧ d * wx ≤ 136500000) ∧ (-136500000 ≤ d * wy ∧ d * wy ≤ 136500000) := by
  have a1 := sq_mono w1 w2
  have a2 := sq_mono w3 w4
  have a3 := sq_nonneg wx
  have a4 := sq_nonneg wy
  exact ⟨by omega, by omega, mul_bd' (A := 1950) (B := 70000) (by decide) (by omega) (by omega), mul_bd' (A := 1950) (B := 70000) (by decide) (by omega) (by omega), mul_bd' (A := 1950) (B := 70000) (by decide) (by omega) (by omega), mul_bd' (A := 1950) (B := 70000) (by decide) (by omega) (by omega)⟩
end Go.Proofs.Ytlgabdamgalngaa.M
