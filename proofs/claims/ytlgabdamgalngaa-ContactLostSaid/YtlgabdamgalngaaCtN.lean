/-
  Layer 3: how great the numbers of a kick are.
-/
import Derived.Test.YtlgabdamgalngaaCtK
import Derived.Test.YtlgabdamgalngaaMath
set_option linter.unusedVariables false
set_option linter.unusedSimpArgs false
namespace Go.Proofs.Ytlgabdamgalngaa.M
theorem of_sq {a b : Int} (hb : 0 ≤ b) (h : a * a ≤ b * b) : -b ≤ a ∧ a ≤ b := by
  constructor
  · rcases Int.lt_or_le a (-b) with h1 | h1
    · exfalso
      have : b * b < -a * -a := Int.mul_lt_mul' (by omega) (by omega) hb (by omega)
      have e : -a * -a = a * a := by grind
      omega
    · exact h1
  · rcases Int.lt_or_le b a with h1 | h1
    · exfalso
      have : b * b < a * a := Int.mul_lt_mul' (by omega) h1 hb (by omega)
      omega
    · exact h1
theorem tdiv_mul_sq (p q : Int) (hq : 0 < q) : (p.tdiv q * q) * (p.tdiv q * q) ≤ p * p := by
  rcases Int.lt_or_le p 0 with h | h
  · have e : p.tdiv q = -((-p) / q) := by rw [← Int.tdiv_eq_ediv_of_nonneg (by omega), Int.neg_tdiv]; omega
    have h1 : 0 ≤ (-p) / q := Int.ediv_nonneg (by omega) (by omega)
    have h2 : (-p) / q * q ≤ -p := Int.ediv_mul_le _ (by omega)
    have h3 : 0 ≤ (-p) / q * q := Int.mul_nonneg h1 (by omega)
    rw [e]
    have e2 : (-((-p) / q) * q) * (-((-p) / q) * q) = ((-p) / q * q) * ((-p) / q * q) := by grind
    have e3 : p * p = -p * -p := by grind
    rw [e2, e3]
    exact Int.mul_le_mul h2 h2 h3 (by omega)
  · have e : p.tdiv q = p / q := Int.tdiv_eq_ediv_of_nonneg h
    have h1 : 0 ≤ p / q := Int.ediv_nonneg h (by omega)
    have h2 : p / q * q ≤ p := Int.ediv_mul_le _ (by omega)
    have h3 : 0 ≤ p / q * q := Int.mul_nonneg h1 (by omega)
    rw [e]
    exact Int.mul_le_mul h2 h2 h3 h
theorem hk_le (ux uy wx wy sq : Int) (hs : sq = wx * wx + wy * wy) (hp : 0 < sq) :
    (hh ux uy wx wy sq * hh ux uy wx wy sq + kk ux uy wx wy sq * kk ux uy wx wy sq) * sq ≤ ux * ux + uy * uy := by
  have h1 := tdiv_mul_sq (ux * wx + uy * wy) sq hp
  have h2 := tdiv_mul_sq (wx * uy - wy * ux) sq hp
  unfold hh kk
  generalize (ux * wx + uy * wy).tdiv sq = h at *
  generalize (wx * uy - wy * ux).tdiv sq = k at *
  have e1 : (h * h + k * k) * sq * sq = (h * sq) * (h * sq) + (k * sq) * (k * sq) := by grind
  have e2 : (ux * ux + uy * uy) * sq = (ux * wx + uy * wy) * (ux * wx + uy * wy) + (wx * uy - wy * ux) * (wx * uy - wy * ux) := by subst hs; grind
  exact Int.le_of_mul_le_mul_right (by rw [e1, e2]; omega) hp
/-- The numbers of a kick, before it is halved. -/
structure KickRng (ux uy wx wy sq b r d : Int) : Prop where
  h1 : -50000000000 ≤ hh ux uy wx wy sq * wx ∧ hh ux uy wx wy sq * wx ≤ 50000000000
  h2 : -50000000000 ≤ hh ux uy wx wy sq * wy ∧ hh ux uy wx wy sq * wy ≤ 50000000000
  h3 : -50000000000 ≤ kk ux uy wx wy sq * wx ∧ kk ux uy wx wy sq * wx ≤ 50000000000
  h4 : -50000000000 ≤ kk ux uy wx wy sq * wy ∧ kk ux uy wx wy sq * wy ≤ 50000000000
  h5 : -50000000000 ≤ hh ux uy wx wy sq ∧ hh ux uy wx wy sq ≤ 50000000000
  h6 : -50000000000 ≤ kk ux uy wx wy sq ∧ kk ux uy wx wy sq ≤ 50000000000
  x : -50331648 ≤ k0x ux uy wx wy sq b r d ∧ k0x ux uy wx wy sq b r d ≤ 50331648
  y : -50331648 ≤ k0y ux uy wx wy sq b r d ∧ k0y ux uy wx wy sq b r d ≤ 50331648
theorem sq_mono {a A : Int} (h1 : -A ≤ a) (h2 : a ≤ A) : a * a ≤ A * A := (mul_bd a a A A h1 h2 h1 h2).2
theorem kick_rng {ux uy wx wy sq b r d : Int} (hs : sq = wx * wx + wy * wy) (hp : 0 < sq) (b1 : 1 ≤ b) (b2 : b ≤ 1000) (r1 : 0 ≤ r) (r2 : r ≤ 950) (d1 : 0 ≤ d) (d2 : d ≤ 300)
    (x1 : -(b * 16777216) ≤ ux) (x2 : ux ≤ b * 16777216) (y1 : -(b * 16777216) ≤ uy) (y2 : uy ≤ b * 16777216) : KickRng ux uy wx wy sq b r d := by
  have q1 := sq_mono x1 x2
  have q2 := sq_mono y1 y2
  have q3 : b * b ≤ 1000 * 1000 := sq_mono (by omega) b2
  have e3 : (b * 16777216) * (b * 16777216) = b * b * 281474976710656 := by grind
  have key : ∀ (h k X Y : Int), (h * h + k * k) * sq ≤ ux * ux + uy * uy → X = ((1000 + r) * h * wx - d * k * wy).tdiv (1000 * b) → Y = ((1000 + r) * h * wy + d * k * wx).tdiv (1000 * b) →
      (-50000000000 ≤ h * wx ∧ h * wx ≤ 50000000000) ∧ (-50000000000 ≤ h * wy ∧ h * wy ≤ 50000000000) ∧ (-50000000000 ≤ k * wx ∧ k * wx ≤ 50000000000) ∧ (-50000000000 ≤ k * wy ∧ k * wy ≤ 50000000000) ∧ (-50000000000 ≤ h ∧ h ≤ 50000000000) ∧ (-50000000000 ≤ k ∧ k ≤ 50000000000) ∧ (-50331648 ≤ X ∧ X ≤ 50331648) ∧ (-50331648 ≤ Y ∧ Y ≤ 50331648) := by
    intro h k X Y hk dx dy
    have hU : (h * h + k * k) * sq ≤ b * b * 562949953421312 := by omega
    have n1 := sq_nonneg (h * wx)
    have n2 := sq_nonneg (h * wy)
    have n3 := sq_nonneg (k * wx)
    have n4 := sq_nonneg (k * wy)
    have hE : (h * h + k * k) * sq = (h * wx) * (h * wx) + (h * wy) * (h * wy) + (k * wx) * (k * wx) + (k * wy) * (k * wy) := by subst hs; grind
    have hB : (50000000000 : Int) * 50000000000 = 2500000000000000000000 := by decide
    have bd : ∀ z : Int, z * z ≤ b * b * 562949953421312 → -50000000000 ≤ z ∧ z ≤ 50000000000 := fun z hz => of_sq (by omega) (by omega)
    have nh := sq_nonneg h
    have nk := sq_nonneg k
    have hsq : (h * h + k * k) * 1 ≤ (h * h + k * k) * sq := Int.mul_le_mul_of_nonneg_left (by omega) (by omega)
    have hkp : 0 ≤ (h * h + k * k) * sq := Int.mul_nonneg (by omega) (by omega)
    -- the sum before it is divided
    have r3 : (1000 + r) * (1000 + r) ≤ 1950 * 1950 := sq_mono (by omega) (by omega)
    have r4 : d * d ≤ 1950 * 1950 := sq_mono (by omega) (by omega)
    have hA : ((1000 + r) * h * wx - d * k * wy) * ((1000 + r) * h * wx - d * k * wy) + ((1000 + r) * h * wy + d * k * wx) * ((1000 + r) * h * wy + d * k * wx) ≤ 3802500 * (b * b * 562949953421312) := by
      have e : ((1000 + r) * h * wx - d * k * wy) * ((1000 + r) * h * wx - d * k * wy) + ((1000 + r) * h * wy + d * k * wx) * ((1000 + r) * h * wy + d * k * wx) = (1000 + r) * (1000 + r) * (h * h * sq) + d * d * (k * k * sq) := by subst hs; grind
      have p1 : 0 ≤ h * h * sq := Int.mul_nonneg nh (by omega)
      have p2 : 0 ≤ k * k * sq := Int.mul_nonneg nk (by omega)
      have p3 := Int.mul_le_mul_of_nonneg_right r3 p1
      have p4 := Int.mul_le_mul_of_nonneg_right r4 p2
      have e5 : (h * h + k * k) * sq = h * h * sq + k * k * sq := by grind
      rw [e]
      omega
    have hd : 0 < 1000 * b := by omega
    have fin : ∀ (A Z : Int), Z = A.tdiv (1000 * b) → A * A ≤ 3802500 * (b * b * 562949953421312) → -50331648 ≤ Z ∧ Z ≤ 50331648 := fun A Z hZ hAA => by
      have t1 := tdiv_mul_sq A (1000 * b) hd
      rw [← hZ] at t1
      refine of_sq (by omega) ?_
      have bb : 0 < b * b := Int.mul_pos (by omega) (by omega)
      have e6 : (Z * (1000 * b)) * (Z * (1000 * b)) = (Z * Z * 1000000) * (b * b) := by grind
      have e7 : 3802500 * (b * b * 562949953421312) = 2140617197884538880000 * (b * b) := by grind
      rw [e6] at t1
      rw [e7] at hAA
      have := Int.le_of_mul_le_mul_right (Int.le_trans t1 hAA) bb
      omega
    have s1 := sq_nonneg ((1000 + r) * h * wx - d * k * wy)
    have s2 := sq_nonneg ((1000 + r) * h * wy + d * k * wx)
    exact ⟨bd _ (by omega), bd _ (by omega), bd _ (by omega), bd _ (by omega), bd _ (by omega), bd _ (by omega), fin _ _ dx (by omega), fin _ _ dy (by omega)⟩
  obtain ⟨g1, g2, g3, g4, g5, g6, g7, g8⟩ := key _ _ _ _ (hk_le ux uy wx wy sq hs hp) rfl rfl
  exact ⟨g1, g2, g3, g4, g5, g6, g7, g8⟩
/-- The numbers of a round. -/
theorem round_rng {b ux uy x y : Int} (b1 : 1 ≤ b) (b2 : b ≤ 1000) (u1 : -16777216000 ≤ ux) (u2 : ux ≤ 16777216000) (v1 : -16777216000 ≤ uy) (v2 : uy ≤ 16777216000) (x1 : -50331648 ≤ x) (x2 : x ≤ 50331648) (y1 : -50331648 ≤ y) (y2 : y ≤ 50331648) :
    (0 ≤ x * x ∧ x * x ≤ 2533274790395904) ∧ (0 ≤ y * y ∧ y * y ≤ 2533274790395904) ∧ (0 ≤ b * (x * x + y * y) ∧ b * (x * x + y * y) ≤ 5066549580791808000) ∧
    (-844424930131968000 ≤ ux * x ∧ ux * x ≤ 844424930131968000) ∧ (-844424930131968000 ≤ uy * y ∧ uy * y ≤ 844424930131968000) ∧ (-50331648 ≤ x.tdiv 2 ∧ x.tdiv 2 ≤ 50331648) ∧ (-50331648 ≤ y.tdiv 2 ∧ y.tdiv 2 ≤ 50331648) := by
  have a1 := sq_mono x1 x2
  have a2 := sq_mono y1 y2
  have a3 := sq_nonneg x
  have a4 := sq_nonneg y
  have a5 := mul_bd ux x 16777216000 50331648 u1 u2 x1 x2
  have a6 := mul_bd uy y 16777216000 50331648 v1 v2 y1 y2
  have a7 := mul_range b (x * x + y * y) 1000 5066549580791808 (by omega) b2 (by omega) (by omega)
  have w1 := within_half x
  have w2 := within_half y
  unfold Within at w1 w2
  refine ⟨by omega, by omega, by omega, by omega, by omega, ?_, ?_⟩
  · rcases Int.le_total 0 x with h | h
    · have := w1.1 h; omega
    · have := w1.2 h; omega
  · rcases Int.le_total 0 y with h | h
    · have := w2.1 h; omega
    · have := w2.2 h; omega
end Go.Proofs.Ytlgabdamgalngaa.M
