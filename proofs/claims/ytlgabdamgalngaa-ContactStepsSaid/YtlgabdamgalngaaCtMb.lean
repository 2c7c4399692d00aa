/-
  Layer 3: the plain mathematics of mirrors, of straight meetings, and of what fades.
-/
import Derived.Test.YtlgabdamgalngaaCtMa
set_option linter.unusedVariables false
set_option linter.unusedSimpArgs false
namespace Go.Proofs.Ytlgabdamgalngaa.M
/-! Mirrors. -/
theorem tooB_swap (b ux uy x y : Int) : tooB b uy ux y x = tooB b ux uy x y := by
  unfold tooB
  have e1 : 2 * (uy * y + ux * x) = 2 * (ux * x + uy * y) := by omega
  have e2 : b * (y * y + x * x) = b * (x * x + y * y) := by rw [Int.add_comm]
  rw [e1, e2]
theorem hv_swap (b ux uy : Int) : ∀ (n : Nat) (x y : Int), (hv n b uy ux y x).1 = (hv n b ux uy x y).2 ∧ (hv n b uy ux y x).2 = (hv n b ux uy x y).1
  | 0, x, y => ⟨rfl, rfl⟩
  | n + 1, x, y => by
    simp only [hv]
    rw [tooB_swap b ux uy x y]
    cases tooB b ux uy x y with
    | false => exact ⟨rfl, rfl⟩
    | true => exact hv_swap b ux uy n _ _
theorem tooB_neg (b ux uy x y : Int) : tooB b (-ux) uy (-x) y = tooB b ux uy x y := by
  unfold tooB
  have e1 : -ux * -x = ux * x := by grind
  have e2 : -x * -x = x * x := by grind
  rw [e1, e2]
theorem hv_neg (b ux uy : Int) : ∀ (n : Nat) (x y : Int), (hv n b (-ux) uy (-x) y).1 = -(hv n b ux uy x y).1 ∧ (hv n b (-ux) uy (-x) y).2 = (hv n b ux uy x y).2
  | 0, x, y => ⟨rfl, rfl⟩
  | n + 1, x, y => by
    simp only [hv]
    rw [tooB_neg b ux uy x y]
    cases tooB b ux uy x y with
    | false => exact ⟨rfl, rfl⟩
    | true =>
      simp only [if_true]
      rw [Int.neg_tdiv]
      exact hv_neg b ux uy n _ _
theorem k0_swap (ux uy wx wy sq b r d : Int) : k0x uy ux wy wx sq b r d = k0y ux uy wx wy sq b r d ∧ k0y uy ux wy wx sq b r d = k0x ux uy wx wy sq b r d := by
  unfold k0x k0y hh kk
  have e1 : uy * wy + ux * wx = ux * wx + uy * wy := Int.add_comm _ _
  have e2 : (wy * ux - wx * uy).tdiv sq = -(wx * uy - wy * ux).tdiv sq := by
    rw [← Int.neg_tdiv]
    congr 1
    omega
  rw [e1, e2]
  generalize (ux * wx + uy * wy).tdiv sq = h
  generalize (wx * uy - wy * ux).tdiv sq = k
  constructor
  · congr 1; grind
  · congr 1; grind
theorem k0_neg (ux uy wx wy sq b r d : Int) : k0x (-ux) uy (-wx) wy sq b r d = -k0x ux uy wx wy sq b r d ∧ k0y (-ux) uy (-wx) wy sq b r d = k0y ux uy wx wy sq b r d := by
  unfold k0x k0y hh kk
  have e1 : -ux * -wx + uy * wy = ux * wx + uy * wy := by grind
  have e2 : (-wx * uy - wy * -ux).tdiv sq = -(wx * uy - wy * ux).tdiv sq := by
    rw [← Int.neg_tdiv]
    congr 1
    grind
  rw [e1, e2]
  generalize (ux * wx + uy * wy).tdiv sq = h
  generalize (wx * uy - wy * ux).tdiv sq = k
  constructor
  · rw [← Int.neg_tdiv]; congr 1; grind
  · congr 1; grind
theorem k_swap (ux uy wx wy sq b r d : Int) : kx uy ux wy wx sq b r d = ky ux uy wx wy sq b r d ∧ ky uy ux wy wx sq b r d = kx ux uy wx wy sq b r d := by
  unfold kx ky hvx hvy
  obtain ⟨e1, e2⟩ := k0_swap ux uy wx wy sq b r d
  rw [e1, e2]
  have h := hv_swap b ux uy ((k0y ux uy wx wy sq b r d).natAbs + (k0x ux uy wx wy sq b r d).natAbs) (k0x ux uy wx wy sq b r d) (k0y ux uy wx wy sq b r d)
  rw [h.1, h.2, Nat.add_comm]
  exact ⟨rfl, rfl⟩
theorem k_neg (ux uy wx wy sq b r d : Int) : kx (-ux) uy (-wx) wy sq b r d = -kx ux uy wx wy sq b r d ∧ ky (-ux) uy (-wx) wy sq b r d = ky ux uy wx wy sq b r d := by
  unfold kx ky hvx hvy
  obtain ⟨e1, e2⟩ := k0_neg ux uy wx wy sq b r d
  rw [e1, e2, Int.natAbs_neg]
  exact hv_neg b ux uy _ _ _
theorem sq_swap (x y u v : Int) : sq y x v u = sq x y u v := by unfold sq; omega
theorem sq_neg (x y u v : Int) : sq (-x) y (-u) v = sq x y u v := by unfold sq; grind
theorem btw_neg {x N : Int} : btw (-x) (-N) N = btw x (-N) N := by
  have : (btw (-x) (-N) N = true) ↔ (btw x (-N) N = true) := by rw [btw_iff, btw_iff]; omega
  cases h : btw (-x) (-N) N <;> cases k : btw x (-N) N <;> simp_all
theorem mot_swap (m r a b u v : Int) : motB m r b a v u 0 0 = motB m r a b u v 0 0 := by
  unfold motB placeB momB
  rw [Bool.and_comm (btw b _ _), Bool.and_comm (btw v _ _)]
theorem mot_neg (m r a b u v : Int) : motB m r (-a) b (-u) v 0 0 = motB m r a b u v 0 0 := by
  unfold motB placeB momB
  rw [btw_neg, btw_neg]
theorem KE_swap (m1 r1 a1 b1 u1 v1 m2 r2 a2 b2 u2 v2 rb dg : Int) : KE m1 r1 b1 a1 v1 u1 0 0 m2 r2 b2 a2 v2 u2 0 0 rb dg = KE m1 r1 a1 b1 u1 v1 0 0 m2 r2 a2 b2 u2 v2 0 0 rb dg := by
  unfold KE
  rw [mot_swap m1 r1 a1 b1 u1 v1, mot_swap m2 r2 a2 b2 u2 v2, sq_swap a1 b1 a2 b2, Int.add_comm ((m2 * v1 - m1 * v2) * (b2 - b1))]
theorem KE_neg (m1 r1 a1 b1 u1 v1 m2 r2 a2 b2 u2 v2 rb dg : Int) : KE m1 r1 (-a1) b1 (-u1) v1 0 0 m2 r2 (-a2) b2 (-u2) v2 0 0 rb dg = KE m1 r1 a1 b1 u1 v1 0 0 m2 r2 a2 b2 u2 v2 0 0 rb dg := by
  unfold KE
  have e : (m2 * -u1 - m1 * -u2) * (-a2 - -a1) = (m2 * u1 - m1 * u2) * (a2 - a1) := by grind
  rw [mot_neg m1, mot_neg m2, sq_neg, e]
theorem K_swap (m1 r1 a1 b1 u1 v1 m2 r2 a2 b2 u2 v2 rb dg : Int) : KX m1 r1 b1 a1 v1 u1 0 0 m2 r2 b2 a2 v2 u2 0 0 rb dg = KY m1 r1 a1 b1 u1 v1 0 0 m2 r2 a2 b2 u2 v2 0 0 rb dg ∧ KY m1 r1 b1 a1 v1 u1 0 0 m2 r2 b2 a2 v2 u2 0 0 rb dg = KX m1 r1 a1 b1 u1 v1 0 0 m2 r2 a2 b2 u2 v2 0 0 rb dg := by
  unfold KX KY
  rw [KE_swap, sq_swap]
  obtain ⟨e1, e2⟩ := k_swap (m2 * u1 - m1 * u2) (m2 * v1 - m1 * v2) (a2 - a1) (b2 - b1) (sq a1 b1 a2 b2) (m1 + m2) rb dg
  rw [e1, e2]
  exact ⟨rfl, rfl⟩
theorem K_neg (m1 r1 a1 b1 u1 v1 m2 r2 a2 b2 u2 v2 rb dg : Int) : KX m1 r1 (-a1) b1 (-u1) v1 0 0 m2 r2 (-a2) b2 (-u2) v2 0 0 rb dg = -KX m1 r1 a1 b1 u1 v1 0 0 m2 r2 a2 b2 u2 v2 0 0 rb dg ∧ KY m1 r1 (-a1) b1 (-u1) v1 0 0 m2 r2 (-a2) b2 (-u2) v2 0 0 rb dg = KY m1 r1 a1 b1 u1 v1 0 0 m2 r2 a2 b2 u2 v2 0 0 rb dg := by
  unfold KX KY
  rw [KE_neg, sq_neg]
  have eu : m2 * -u1 - m1 * -u2 = -(m2 * u1 - m1 * u2) := by grind
  have ew : -a2 - -a1 = -(a2 - a1) := by omega
  rw [eu, ew]
  obtain ⟨e1, e2⟩ := k_neg (m2 * u1 - m1 * u2) (m2 * v1 - m1 * v2) (a2 - a1) (b2 - b1) (sq a1 b1 a2 b2) (m1 + m2) rb dg
  rw [e1, e2]
  split
  · exact ⟨rfl, rfl⟩
  · exact ⟨rfl, rfl⟩

/-! Straight meetings. -/
theorem straight {M R p r : Int} (hM : 400 ≤ M ∧ M ≤ 500) (hR : 1000 ≤ R ∧ R ≤ 4096) (hp : 0 < p ∧ p ≤ 16777216) (hr : 0 ≤ r ∧ r ≤ 950) :
    ∃ X, kx (M * p - M * 0) (M * 0 - M * 0) (2 * R - 0) (0 - 0) (sq 0 0 (2 * R) 0) (M + M) r 0 = X ∧ ky (M * p - M * 0) (M * 0 - M * 0) (2 * R - 0) (0 - 0) (sq 0 0 (2 * R) 0) (M + M) r 0 = 0 ∧ 0 ≤ X ∧ X ≤ p ∧ (1000 + r) * p ≤ 2000 * X + 48000 := by
  have es : sq 0 0 (2 * R) 0 = 2 * R * (2 * R) := by unfold sq; simp
  rw [es, Int.mul_zero, Int.sub_zero, Int.sub_zero, Int.sub_zero]
  have hMp : 0 < M * p := Int.mul_pos (by omega) (by omega)
  -- how far along
  have eh : hh (M * p) 0 (2 * R) 0 (2 * R * (2 * R)) = M * p / (2 * R) := by
    unfold hh
    rw [Int.zero_mul, Int.add_zero, Int.tdiv_eq_ediv_of_nonneg (Int.mul_nonneg (by omega) (by omega))]
    rw [Int.mul_ediv_mul_of_pos_left _ _ (by omega)]
  have ek : kk (M * p) 0 (2 * R) 0 (2 * R * (2 * R)) = 0 := by unfold kk; simp
  have ex : k0x (M * p) 0 (2 * R) 0 (2 * R * (2 * R)) (M + M) r 0 = ((1000 + r) * (M * p / (2 * R)) * (2 * R)) / (1000 * (M + M)) := by
    unfold k0x
    rw [eh, ek]
    simp only [Int.mul_zero, Int.zero_mul, Int.sub_zero]
    have hh0 : 0 ≤ M * p / (2 * R) := Int.ediv_nonneg (by omega) (by omega)
    rw [Int.tdiv_eq_ediv_of_nonneg (Int.mul_nonneg (Int.mul_nonneg (by omega) hh0) (by omega))]
  have ey : k0y (M * p) 0 (2 * R) 0 (2 * R * (2 * R)) (M + M) r 0 = 0 := by
    unfold k0y
    rw [eh, ek]
    simp
  have f1 := Int.ediv_mul_le (M * p) (b := 2 * R) (by omega)
  have f2 := Int.lt_ediv_add_one_mul_self (M * p) (b := 2 * R) (by omega)
  have hh0 : 0 ≤ M * p / (2 * R) := Int.ediv_nonneg (by omega) (by omega)
  generalize M * p / (2 * R) = h at *
  have hA : (1000 + r) * h * (2 * R) = (1000 + r) * (h * (2 * R)) := Int.mul_assoc _ _ _
  have g0 : 0 ≤ h * (2 * R) := Int.mul_nonneg hh0 (by omega)
  have g1 : (1000 + r) * (h * (2 * R)) ≤ (1000 + r) * (M * p) := Int.mul_le_mul_of_nonneg_left f1 (by omega)
  have e0 : (h + 1) * (2 * R) = h * (2 * R) + 2 * R := by grind
  have g2 : (1000 + r) * (M * p - 2 * R) ≤ (1000 + r) * (h * (2 * R)) := Int.mul_le_mul_of_nonneg_left (by omega) (by omega)
  have t1 := Int.ediv_mul_le ((1000 + r) * (h * (2 * R))) (b := 1000 * (M + M)) (by omega)
  have t2 := Int.lt_ediv_add_one_mul_self ((1000 + r) * (h * (2 * R))) (b := 1000 * (M + M)) (by omega)
  have x0 : 0 ≤ (1000 + r) * (h * (2 * R)) / (1000 * (M + M)) := Int.ediv_nonneg (Int.mul_nonneg (by omega) g0) (by omega)
  rw [hA] at ex
  generalize (1000 + r) * (h * (2 * R)) / (1000 * (M + M)) = X at *
  have e3 : X * (1000 * (M + M)) = 2000 * X * M := by grind
  have e4 : (X + 1) * (1000 * (M + M)) = (2000 * X + 2000) * M := by grind
  have e5 : (1000 + r) * (M * p) = (1000 + r) * p * M := by grind
  have e6 : (1000 + r) * (M * p - 2 * R) = (1000 + r) * p * M - (1000 + r) * (2 * R) := by grind
  have r1 : (1000 + r) * (2 * R) ≤ 1950 * 8192 := Int.mul_le_mul (by omega) (by omega) (by omega) (by omega)
  have u1 : 2000 * X * M ≤ (1000 + r) * p * M := by omega
  have u2 : 2000 * X ≤ (1000 + r) * p := Int.le_of_mul_le_mul_right u1 (by omega)
  have u3 : (1000 + r) * p ≤ 1950 * p := Int.mul_le_mul_of_nonneg_right (by omega) (by omega)
  have l1 : (1000 + r) * p * M < (2000 * X + 2000) * M + 15974400 := by omega
  have l2 : (1000 + r) * p * M < (2000 * X + 2000 + 39936) * M := by
    have : (2000 * X + 2000 + 39936) * M = (2000 * X + 2000) * M + 39936 * M := by grind
    omega
  have l3 : (1000 + r) * p < 2000 * X + 2000 + 39936 := Int.lt_of_mul_lt_mul_right l2 (by omega)
  have hX : X ≤ p := by omega
  have ht : tooB (M + M) (M * p) 0 X 0 = false := by
    unfold tooB
    simp only [Int.mul_zero, Int.add_zero, decide_eq_false_iff_not]
    have a1 : X * X ≤ p * X := Int.mul_le_mul_of_nonneg_right hX x0
    have a2 : M * (X * X) ≤ M * (p * X) := Int.mul_le_mul_of_nonneg_left a1 (by omega)
    have a3 : (M + M) * (X * X) = 2 * (M * (X * X)) := by grind
    have a4 : 2 * (M * p * X) = 2 * (M * (p * X)) := by grind
    omega
  refine ⟨X, ?_, ?_, x0, hX, by omega⟩
  · unfold kx
    rw [ex, ey]
    exact (hv_stop ht).1
  · unfold ky
    rw [ex, ey]
    exact (hv_stop ht).2
end Go.Proofs.Ytlgabdamgalngaa.M
