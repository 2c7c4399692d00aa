/-
  Layer 3: the plain mathematics of what is kept, of what approaches, and of mirrors.
-/
import Derived.Test.YtlgabdamgalngaaCtR
set_option linter.unusedVariables false
set_option linter.unusedSimpArgs false
namespace Go.Proofs.Ytlgabdamgalngaa.M
theorem kick_energy {m1 m2 u1 v1 u2 v2 X Y : Int} (h : tooB (m1 + m2) (m2 * u1 - m1 * u2) (m2 * v1 - m1 * v2) X Y = false) :
    m2 * ((u1 - X) * (u1 - X) + (v1 - Y) * (v1 - Y)) + m1 * ((u2 + X) * (u2 + X) + (v2 + Y) * (v2 + Y)) ≤ m2 * (u1 * u1 + v1 * v1) + m1 * (u2 * u2 + v2 * v2) := by
  have h1 : ¬ 2 * ((m2 * u1 - m1 * u2) * X + (m2 * v1 - m1 * v2) * Y) < (m1 + m2) * (X * X + Y * Y) := of_decide_eq_false h
  have e : m2 * ((u1 - X) * (u1 - X) + (v1 - Y) * (v1 - Y)) + m1 * ((u2 + X) * (u2 + X) + (v2 + Y) * (v2 + Y)) = m2 * (u1 * u1 + v1 * v1) + m1 * (u2 * u2 + v2 * v2) - 2 * ((m2 * u1 - m1 * u2) * X + (m2 * v1 - m1 * v2) * Y) + (m1 + m2) * (X * X + Y * Y) := by grind
  omega
theorem BE_facts {m1 r1 a1 b1 u1 v1 p1 q1 m2 r2 a2 b2 u2 v2 p2 q2 rb dg : Int} (h : BE m1 r1 a1 b1 u1 v1 p1 q1 m2 r2 a2 b2 u2 v2 p2 q2 rb dg = 0) :
    KE m1 r1 a1 b1 u1 v1 p1 q1 m2 r2 a2 b2 u2 v2 p2 q2 rb dg = 0 ∧ momB (u1 - KX m1 r1 a1 b1 u1 v1 p1 q1 m2 r2 a2 b2 u2 v2 p2 q2 rb dg) (v1 - KY m1 r1 a1 b1 u1 v1 p1 q1 m2 r2 a2 b2 u2 v2 p2 q2 rb dg) = true ∧ momB (u2 + KX m1 r1 a1 b1 u1 v1 p1 q1 m2 r2 a2 b2 u2 v2 p2 q2 rb dg) (v2 + KY m1 r1 a1 b1 u1 v1 p1 q1 m2 r2 a2 b2 u2 v2 p2 q2 rb dg) = true := by
  unfold BE at h
  split at h
  · rename_i hk
    split at h
    · rename_i hb
      simp only [Bool.and_eq_true] at hb
      exact ⟨hk, hb⟩
    · omega
  · contradiction
theorem BE_other {m1 r1 a1 b1 u1 v1 p1 q1 m2 r2 a2 b2 u2 v2 p2 q2 rb dg : Int} (h : ¬ BE m1 r1 a1 b1 u1 v1 p1 q1 m2 r2 a2 b2 u2 v2 p2 q2 rb dg = 0) :
    BE m1 r1 a1 b1 u1 v1 p1 q1 m2 r2 a2 b2 u2 v2 p2 q2 rb dg = KE m1 r1 a1 b1 u1 v1 p1 q1 m2 r2 a2 b2 u2 v2 p2 q2 rb dg ∨ (BE m1 r1 a1 b1 u1 v1 p1 q1 m2 r2 a2 b2 u2 v2 p2 q2 rb dg = 4 ∧ KE m1 r1 a1 b1 u1 v1 p1 q1 m2 r2 a2 b2 u2 v2 p2 q2 rb dg = 0) := by
  unfold BE at h ⊢
  split
  · rename_i hk
    split
    · simp_all
    · exact Or.inr ⟨rfl, hk⟩
  · exact Or.inl rfl
theorem mot_with {m r a b u v p q u' v' : Int} (h : motB m r a b u v p q = true) (h' : momB u' v' = true) : motB m r a b u' v' p q = true := by
  simp only [motB, Bool.and_eq_true] at h ⊢
  exact ⟨⟨h.1.1, h'⟩, h.2⟩
theorem WE_good {m1 r1 a1 b1 u1 v1 p1 q1 m2 r2 a2 b2 u2 v2 p2 q2 : Int} (h1 : motB m1 r1 a1 b1 u1 v1 p1 q1 = true) (h2 : motB m2 r2 a2 b2 u2 v2 p2 q2 = true) : WE m1 r1 a1 b1 u1 v1 p1 q1 m2 r2 a2 b2 u2 v2 p2 q2 = 0 ∧ WK m1 r1 a1 b1 u1 v1 p1 q1 m2 r2 a2 b2 u2 v2 p2 q2 = m2 * (u1 * u1 + v1 * v1) + m1 * (u2 * u2 + v2 * v2) := by
  have e : WE m1 r1 a1 b1 u1 v1 p1 q1 m2 r2 a2 b2 u2 v2 p2 q2 = 0 := by
    unfold WE
    rw [if_pos (by simp [h1, h2])]
  refine ⟨e, ?_⟩
  unfold WK
  rw [if_pos e]
theorem K_energy {m1 r1 a1 b1 u1 v1 p1 q1 m2 r2 a2 b2 u2 v2 p2 q2 rb dg : Int} (h : BE m1 r1 a1 b1 u1 v1 p1 q1 m2 r2 a2 b2 u2 v2 p2 q2 rb dg = 0) (X Y : Int) (hX : X = KX m1 r1 a1 b1 u1 v1 p1 q1 m2 r2 a2 b2 u2 v2 p2 q2 rb dg) (hY : Y = KY m1 r1 a1 b1 u1 v1 p1 q1 m2 r2 a2 b2 u2 v2 p2 q2 rb dg) :
    WE m1 r1 a1 b1 u1 v1 p1 q1 m2 r2 a2 b2 u2 v2 p2 q2 = 0 ∧ WE m1 r1 a1 b1 (u1 - X) (v1 - Y) p1 q1 m2 r2 a2 b2 (u2 + X) (v2 + Y) p2 q2 = 0 ∧
    WK m1 r1 a1 b1 (u1 - X) (v1 - Y) p1 q1 m2 r2 a2 b2 (u2 + X) (v2 + Y) p2 q2 ≤ WK m1 r1 a1 b1 u1 v1 p1 q1 m2 r2 a2 b2 u2 v2 p2 q2 ∧ 0 ≤ WK m1 r1 a1 b1 (u1 - X) (v1 - Y) p1 q1 m2 r2 a2 b2 (u2 + X) (v2 + Y) p2 q2 := by
  obtain ⟨hk, hb1, hb2⟩ := BE_facts h
  obtain ⟨h1, h2, hx, hn, _⟩ := KE_facts hk
  subst hX; subst hY
  have g1 := mot_with h1 hb1
  have g2 := mot_with h2 hb2
  obtain ⟨e1, f1⟩ := WE_good h1 h2
  obtain ⟨e2, f2⟩ := WE_good g1 g2
  refine ⟨e1, e2, ?_, ?_⟩
  · rw [f1, f2]
    have hX : KX m1 r1 a1 b1 u1 v1 p1 q1 m2 r2 a2 b2 u2 v2 p2 q2 rb dg = kx (m2 * u1 - m1 * u2) (m2 * v1 - m1 * v2) (a2 - a1) (b2 - b1) (sq a1 b1 a2 b2) (m1 + m2) rb dg := by unfold KX; rw [if_pos hk]
    have hY : KY m1 r1 a1 b1 u1 v1 p1 q1 m2 r2 a2 b2 u2 v2 p2 q2 rb dg = ky (m2 * u1 - m1 * u2) (m2 * v1 - m1 * v2) (a2 - a1) (b2 - b1) (sq a1 b1 a2 b2) (m1 + m2) rb dg := by unfold KY; rw [if_pos hk]
    rw [hX, hY]
    exact kick_energy (kick_not _ _ _ _ _ _ _ _)
  · rw [f2]
    obtain ⟨⟨hm1, hr1⟩, ⟨ha1, hb1⟩, ⟨hu1, hv1⟩, ⟨hp1, hq1⟩⟩ := mot_facts g1
    obtain ⟨⟨hm2, hr2⟩, ⟨ha2, hb2⟩, ⟨hu2, hv2⟩, ⟨hp2, hq2⟩⟩ := mot_facts g2
    obtain ⟨w1, w2⟩ := work_facts hm1 hu1 hv1
    obtain ⟨w3, w4⟩ := work_facts hm2 hu2 hv2
    have w5 := work_mul (m := m2) hm2 (s := (u1 - KX m1 r1 a1 b1 u1 v1 p1 q1 m2 r2 a2 b2 u2 v2 p2 q2 rb dg) * (u1 - KX m1 r1 a1 b1 u1 v1 p1 q1 m2 r2 a2 b2 u2 v2 p2 q2 rb dg) + (v1 - KY m1 r1 a1 b1 u1 v1 p1 q1 m2 r2 a2 b2 u2 v2 p2 q2 rb dg) * (v1 - KY m1 r1 a1 b1 u1 v1 p1 q1 m2 r2 a2 b2 u2 v2 p2 q2 rb dg)) (by omega)
    have w6 := work_mul (m := m1) hm1 (s := (u2 + KX m1 r1 a1 b1 u1 v1 p1 q1 m2 r2 a2 b2 u2 v2 p2 q2 rb dg) * (u2 + KX m1 r1 a1 b1 u1 v1 p1 q1 m2 r2 a2 b2 u2 v2 p2 q2 rb dg) + (v2 + KY m1 r1 a1 b1 u1 v1 p1 q1 m2 r2 a2 b2 u2 v2 p2 q2 rb dg) * (v2 + KY m1 r1 a1 b1 u1 v1 p1 q1 m2 r2 a2 b2 u2 v2 p2 q2 rb dg)) (by omega)
    omega

/-! What approaches. -/
theorem half_along {x w : Int} : -((if 0 ≤ w then w else -w)) ≤ 2 * (x.tdiv 2 * w) - x * w := by
  have e := Int.mul_tdiv_add_tmod x 2
  have h1 : -1 ≤ x.tmod 2 ∧ x.tmod 2 ≤ 1 := by
    rcases Int.le_total 0 x with h | h
    · rw [Int.tmod_eq_emod_of_nonneg h]; omega
    · have : x.tmod 2 = -((-x).tmod 2) := by rw [Int.neg_tmod]; omega
      rw [this, Int.tmod_eq_emod_of_nonneg (by omega)]; omega
  generalize x.tdiv 2 = y at *
  generalize x.tmod 2 = s at *
  have e2 : 2 * (y * w) - x * w = -(s * w) := by grind
  rw [e2]
  split
  · rename_i hw
    have : s * w ≤ 1 * w := Int.mul_le_mul_of_nonneg_right h1.2 hw
    omega
  · rename_i hw
    have : -s * -w ≤ 1 * -w := Int.mul_le_mul_of_nonneg_right (by omega) (by omega)
    have e3 : -s * -w = s * w := by grind
    omega
def absI (w : Int) : Int := if 0 ≤ w then w else -w
theorem hv_along (b ux uy wx wy : Int) : ∀ (n : Nat) (x y : Int), -(absI wx + absI wy) ≤ x * wx + y * wy → -(absI wx + absI wy) ≤ (hv n b ux uy x y).1 * wx + (hv n b ux uy x y).2 * wy
  | 0, x, y, h => h
  | n + 1, x, y, h => by
    simp only [hv]
    cases ht : tooB b ux uy x y with
    | false => simpa using h
    | true =>
      simp only [if_true]
      refine hv_along b ux uy wx wy n _ _ ?_
      have h1 := half_along (x := x) (w := wx)
      have h2 := half_along (x := y) (w := wy)
      unfold absI at h ⊢
      omega
theorem tdiv_along {A d w : Int} (hd : 0 < d) : -(d * absI w) ≤ d * (A.tdiv d * w) - A * w := by
  have e := Int.mul_tdiv_add_tmod A d
  have h1 : -d ≤ A.tmod d ∧ A.tmod d ≤ d := by
    rcases Int.le_total 0 A with h | h
    · rw [Int.tmod_eq_emod_of_nonneg h]
      have := Int.emod_nonneg A (b := d) (by omega)
      have := Int.emod_lt_of_pos A hd
      omega
    · have e2 : A.tmod d = -((-A).tmod d) := by rw [Int.neg_tmod]; omega
      rw [e2, Int.tmod_eq_emod_of_nonneg (by omega)]
      have := Int.emod_nonneg (-A) (b := d) (by omega)
      have := Int.emod_lt_of_pos (-A) hd
      omega
  generalize A.tdiv d = y at *
  generalize A.tmod d = s at *
  have e2 : d * (y * w) - A * w = -(s * w) := by grind
  rw [e2]
  unfold absI
  split
  · rename_i hw
    have : s * w ≤ d * w := Int.mul_le_mul_of_nonneg_right h1.2 hw
    omega
  · rename_i hw
    have : -s * -w ≤ d * -w := Int.mul_le_mul_of_nonneg_right (by omega) (by omega)
    have e3 : -s * -w = s * w := by grind
    omega
theorem kick_along {ux uy wx wy sq b r d : Int} (hs : sq = wx * wx + wy * wy) (hp : 0 < sq) (hb : 1 ≤ b) (hr : 0 ≤ r) (hd : 0 < ux * wx + uy * wy) :
    -(absI wx + absI wy) ≤ kx ux uy wx wy sq b r d * wx + ky ux uy wx wy sq b r d * wy := by
  refine hv_along b ux uy wx wy _ _ _ ?_
  have h1 := tdiv_along (A := (1000 + r) * hh ux uy wx wy sq * wx - d * kk ux uy wx wy sq * wy) (d := 1000 * b) (w := wx) (by omega)
  have h2 := tdiv_along (A := (1000 + r) * hh ux uy wx wy sq * wy + d * kk ux uy wx wy sq * wx) (d := 1000 * b) (w := wy) (by omega)
  have hx : k0x ux uy wx wy sq b r d = ((1000 + r) * hh ux uy wx wy sq * wx - d * kk ux uy wx wy sq * wy).tdiv (1000 * b) := rfl
  have hy : k0y ux uy wx wy sq b r d = ((1000 + r) * hh ux uy wx wy sq * wy + d * kk ux uy wx wy sq * wx).tdiv (1000 * b) := rfl
  rw [← hx] at h1
  rw [← hy] at h2
  have hh0 : 0 ≤ hh ux uy wx wy sq := by
    unfold hh
    rw [Int.tdiv_eq_ediv_of_nonneg (by omega)]
    exact Int.ediv_nonneg (by omega) (by omega)
  generalize k0x ux uy wx wy sq b r d = X at *
  generalize k0y ux uy wx wy sq b r d = Y at *
  generalize hh ux uy wx wy sq = h at *
  generalize kk ux uy wx wy sq = k at *
  have e : ((1000 + r) * h * wx - d * k * wy) * wx + ((1000 + r) * h * wy + d * k * wx) * wy = (1000 + r) * h * sq := by subst hs; grind
  have p : 0 ≤ (1000 + r) * h * sq := Int.mul_nonneg (Int.mul_nonneg (by omega) hh0) (by omega)
  have key : 1000 * b * (X * wx + Y * wy) + 1000 * b * (absI wx + absI wy) ≥ 0 := by
    have : 1000 * b * (X * wx + Y * wy) = 1000 * b * (X * wx) + 1000 * b * (Y * wy) := by grind
    have : 1000 * b * (absI wx + absI wy) = 1000 * b * absI wx + 1000 * b * absI wy := by grind
    omega
  have e3 : 1000 * b * (X * wx + Y * wy) + 1000 * b * (absI wx + absI wy) = (X * wx + Y * wy + (absI wx + absI wy)) * (1000 * b) := by grind
  rw [e3] at key
  have : 0 ≤ X * wx + Y * wy + (absI wx + absI wy) := by
    rcases Int.lt_or_le (X * wx + Y * wy + (absI wx + absI wy)) 0 with hn | hn
    · have := Int.mul_neg_of_neg_of_pos hn (show 0 < 1000 * b by omega)
      omega
    · exact hn
  omega
theorem mom_facts {u v : Int} (h : momB u v = true) : (-16777216 ≤ u ∧ u ≤ 16777216) ∧ (-16777216 ≤ v ∧ v ≤ 16777216) := by
  simp only [momB, Bool.and_eq_true, btw_iff] at h
  exact h
theorem sq_parts {x y u v : Int} (h1 : -8388608 ≤ u - x ∧ u - x ≤ 8388608) (h2 : -8388608 ≤ v - y ∧ v - y ≤ 8388608) :
    (0 ≤ (u - x) * (u - x) ∧ (u - x) * (u - x) ≤ 70368744177664) ∧ (0 ≤ (v - y) * (v - y) ∧ (v - y) * (v - y) ≤ 70368744177664) ∧ sq x y u v = (u - x) * (u - x) + (v - y) * (v - y) := by
  have a1 := sq_mono h1.1 h1.2
  have a2 := sq_mono h2.1 h2.2
  have a3 := sq_nonneg (u - x)
  have a4 := sq_nonneg (v - y)
  exact ⟨by omega, by omega, rfl⟩
theorem abs_mul {m1 m2 x y : Int} (h1 : 400 ≤ m1 ∧ m1 ≤ 500) (h2 : 400 ≤ m2 ∧ m2 ≤ 500) (hx : -8388608 ≤ x ∧ x ≤ 8388608) (hy : -8388608 ≤ y ∧ y ≤ 8388608) :
    (0 ≤ absI x ∧ absI x ≤ 8388608) ∧ (0 ≤ absI y ∧ absI y ≤ 8388608) ∧ (0 ≤ (m1 + m2) * (absI x + absI y) ∧ (m1 + m2) * (absI x + absI y) ≤ 16777216000) := by
  have a1 : 0 ≤ absI x ∧ absI x ≤ 8388608 := by unfold absI; omega
  have a2 : 0 ≤ absI y ∧ absI y ≤ 8388608 := by unfold absI; omega
  exact ⟨a1, a2, mul_range (m1 + m2) (absI x + absI y) 1000 16777216 (by omega) (by omega) (by omega) (by omega)⟩
theorem apart_cases {m1 r1 a1 b1 u1 v1 p1 q1 m2 r2 a2 b2 u2 v2 p2 q2 rb dg : Int} (h1 : motB m1 r1 a1 b1 u1 v1 p1 q1 = true) (h2 : motB m2 r2 a2 b2 u2 v2 p2 q2 = true) (hx : bncB rb dg = true) :
    (BE m1 r1 a1 b1 u1 v1 p1 q1 m2 r2 a2 b2 u2 v2 p2 q2 rb dg = 0 ∧ nearB (sq a1 b1 a2 b2) (r1 + r2) = true ∧ 0 < (m2 * u1 - m1 * u2) * (a2 - a1) + (m2 * v1 - m1 * v2) * (b2 - b1) ∧
      (m2 * (u1 - KX m1 r1 a1 b1 u1 v1 p1 q1 m2 r2 a2 b2 u2 v2 p2 q2 rb dg) - m1 * (u2 + KX m1 r1 a1 b1 u1 v1 p1 q1 m2 r2 a2 b2 u2 v2 p2 q2 rb dg)) * (a2 - a1) + (m2 * (v1 - KY m1 r1 a1 b1 u1 v1 p1 q1 m2 r2 a2 b2 u2 v2 p2 q2 rb dg) - m1 * (v2 + KY m1 r1 a1 b1 u1 v1 p1 q1 m2 r2 a2 b2 u2 v2 p2 q2 rb dg)) * (b2 - b1) ≤ (m2 * u1 - m1 * u2) * (a2 - a1) + (m2 * v1 - m1 * v2) * (b2 - b1) + (m1 + m2) * (absI (a2 - a1) + absI (b2 - b1))) ∨
    (¬ BE m1 r1 a1 b1 u1 v1 p1 q1 m2 r2 a2 b2 u2 v2 p2 q2 rb dg = 0 ∧ BE m1 r1 a1 b1 u1 v1 p1 q1 m2 r2 a2 b2 u2 v2 p2 q2 rb dg = 5 ∧ ¬ ((a2 - a1) * (a2 - a1) + (b2 - b1) * (b2 - b1) ≤ (r1 + r2) * (r1 + r2) ∧ 225 * (r1 + r2) * (r1 + r2) ≤ 256 * ((a2 - a1) * (a2 - a1) + (b2 - b1) * (b2 - b1)))) ∨
    (¬ BE m1 r1 a1 b1 u1 v1 p1 q1 m2 r2 a2 b2 u2 v2 p2 q2 rb dg = 0 ∧ BE m1 r1 a1 b1 u1 v1 p1 q1 m2 r2 a2 b2 u2 v2 p2 q2 rb dg = 10 ∧ nearB (sq a1 b1 a2 b2) (r1 + r2) = true ∧ (m2 * u1 - m1 * u2) * (a2 - a1) + (m2 * v1 - m1 * v2) * (b2 - b1) ≤ 0) ∨
    (¬ BE m1 r1 a1 b1 u1 v1 p1 q1 m2 r2 a2 b2 u2 v2 p2 q2 rb dg = 0 ∧ BE m1 r1 a1 b1 u1 v1 p1 q1 m2 r2 a2 b2 u2 v2 p2 q2 rb dg = 4 ∧ nearB (sq a1 b1 a2 b2) (r1 + r2) = true) := by
  have hg := KE_good h1 h2 hx
  by_cases hE : BE m1 r1 a1 b1 u1 v1 p1 q1 m2 r2 a2 b2 u2 v2 p2 q2 rb dg = 0
  · left
    obtain ⟨hk, _, _⟩ := BE_facts hE
    obtain ⟨_, _, _, hn, hp⟩ := KE_facts hk
    refine ⟨hE, hn, hp, ?_⟩
    obtain ⟨⟨hm1, hr1⟩, ⟨ha1, hb1⟩, ⟨hu1, hv1⟩, ⟨hp1, hq1⟩⟩ := mot_facts h1
    obtain ⟨⟨hm2, hr2⟩, ⟨ha2, hb2⟩, ⟨hu2, hv2⟩, ⟨hp2, hq2⟩⟩ := mot_facts h2
    obtain ⟨hrb, hdg⟩ := bnc_facts hx
    obtain ⟨h0, _, _⟩ := near_facts hn (by omega) (by omega)
    have ha := kick_along (sq := sq a1 b1 a2 b2) (d := dg) (b := m1 + m2) (r := rb) rfl h0 (by omega) hrb.1 hp
    have hX : KX m1 r1 a1 b1 u1 v1 p1 q1 m2 r2 a2 b2 u2 v2 p2 q2 rb dg = kx (m2 * u1 - m1 * u2) (m2 * v1 - m1 * v2) (a2 - a1) (b2 - b1) (sq a1 b1 a2 b2) (m1 + m2) rb dg := by unfold KX; rw [if_pos hk]
    have hY : KY m1 r1 a1 b1 u1 v1 p1 q1 m2 r2 a2 b2 u2 v2 p2 q2 rb dg = ky (m2 * u1 - m1 * u2) (m2 * v1 - m1 * v2) (a2 - a1) (b2 - b1) (sq a1 b1 a2 b2) (m1 + m2) rb dg := by unfold KY; rw [if_pos hk]
    rw [← hX, ← hY] at ha
    generalize KX m1 r1 a1 b1 u1 v1 p1 q1 m2 r2 a2 b2 u2 v2 p2 q2 rb dg = X at *
    generalize KY m1 r1 a1 b1 u1 v1 p1 q1 m2 r2 a2 b2 u2 v2 p2 q2 rb dg = Y at *
    generalize a2 - a1 = wx at *
    generalize b2 - b1 = wy at *
    have e : (m2 * (u1 - X) - m1 * (u2 + X)) * wx + (m2 * (v1 - Y) - m1 * (v2 + Y)) * wy = (m2 * u1 - m1 * u2) * wx + (m2 * v1 - m1 * v2) * wy - (m1 + m2) * (X * wx + Y * wy) := by grind
    rw [e]
    have k : (m1 + m2) * -(absI wx + absI wy) ≤ (m1 + m2) * (X * wx + Y * wy) := Int.mul_le_mul_of_nonneg_left ha (by omega)
    have e2 : (m1 + m2) * -(absI wx + absI wy) = -((m1 + m2) * (absI wx + absI wy)) := by grind
    omega
  · right
    rcases BE_other hE with h | ⟨h, hk⟩
    · rw [h] at hE ⊢
      rw [hg] at hE ⊢
      unfold kickE at hE ⊢
      split
      · rename_i hn
        split
        · rw [if_pos hn, if_pos (by assumption)] at hE; contradiction
        · right; left
          exact ⟨by decide, rfl, hn, by omega⟩
      · rename_i hn
        left
        refine ⟨by decide, rfl, fun k => hn ?_⟩
        simp only [nearB, Bool.and_eq_true, decide_eq_true_eq]
        exact k
    · right; right
      obtain ⟨_, _, _, hn, _⟩ := KE_facts hk
      exact ⟨hE, h, hn⟩
end Go.Proofs.Ytlgabdamgalngaa.M
