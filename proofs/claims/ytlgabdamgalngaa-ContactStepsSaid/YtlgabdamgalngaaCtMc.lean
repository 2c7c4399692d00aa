/-
  Layer 3: the plain mathematics of what fades.
-/
import Derived.Test.YtlgabdamgalngaaCtMb
set_option linter.unusedVariables false
set_option linter.unusedSimpArgs false
namespace Go.Proofs.Ytlgabdamgalngaa.M
open Classical in
/-- The root of a number. -/
noncomputable def rootI (n : Int) : Int := if h : 0 ≤ n then Classical.choose (root_ex n h) else 0
theorem rootI_is {n : Int} (h : 0 ≤ n) : IsRoot n (rootI n) := by
  unfold rootI
  rw [dif_pos h]
  exact Classical.choose_spec (root_ex n h)
noncomputable def lenI (x y : Int) : Int := rootI (64 * (x * x + y * y))
noncomputable def slx (z x y l : Int) : Int := if lenI x y - 8 * l ≤ 0 then 0 else (z * (lenI x y - 8 * l)).tdiv (lenI x y)
def SLE (x y l : Int) : Int := if momB x y then (if btw l 0 33554432 then 0 else 3) else 2
theorem len_facts {x y : Int} (hx : -16777216 ≤ x ∧ x ≤ 16777216) (hy : -16777216 ≤ y ∧ y ≤ 16777216) : (0 ≤ x * x ∧ x * x ≤ 281474976710656) ∧ (0 ≤ y * y ∧ y * y ≤ 281474976710656) ∧ (0 ≤ lenI x y ∧ lenI x y ≤ 200000000) := by
  have a1 := sq_mono hx.1 hx.2
  have a2 := sq_mono hy.1 hy.2
  have a3 := sq_nonneg x
  have a4 := sq_nonneg y
  have hr := rootI_is (n := 64 * (x * x + y * y)) (by omega)
  obtain ⟨r0, r1, r2⟩ := hr
  have h := of_sq (a := rootI (64 * (x * x + y * y))) (b := 200000000) (by decide) (by omega)
  unfold lenI
  omega
theorem slow_mul {z L l : Int} (hz : -16777216 ≤ z ∧ z ≤ 16777216) (hL : 0 ≤ L ∧ L ≤ 200000000) (hl : 0 ≤ l) (hp : ¬ L - 8 * l ≤ 0) :
    (-3355443200000000 ≤ z * (L - 8 * l) ∧ z * (L - 8 * l) ≤ 3355443200000000) ∧ (-3355443200000000 ≤ (z * (L - 8 * l)).tdiv L ∧ (z * (L - 8 * l)).tdiv L ≤ 3355443200000000) := by
  have h1 := mul_bd' (a := z) (b := L - 8 * l) (A := 16777216) (B := 200000000) (C := 3355443200000000) (by decide) hz (by omega)
  have h2 := tdiv_bd (z * (L - 8 * l)) L (by omega) (-3355443200000000) 3355443200000000 (by decide) (by decide) h1.1 h1.2
  exact ⟨h1, h2⟩
theorem part_within {z t L : Int} (ht : 0 ≤ t) (hL : t ≤ L) (hp : 0 < L) : Within ((z * t).tdiv L) z := by
  constructor
  · intro hz
    have h0 : 0 ≤ z * t := Int.mul_nonneg hz ht
    have h1 : z * t ≤ z * L := Int.mul_le_mul_of_nonneg_left hL hz
    rw [Int.tdiv_eq_ediv_of_nonneg h0]
    refine ⟨Int.ediv_nonneg h0 (by omega), ?_⟩
    have := Int.ediv_le_ediv hp h1
    rw [Int.mul_ediv_cancel _ (by omega)] at this
    exact this
  · intro hz
    have h0 : 0 ≤ -z * t := Int.mul_nonneg (by omega) ht
    have h1 : -z * t ≤ -z * L := Int.mul_le_mul_of_nonneg_left hL (by omega)
    have e : (z * t).tdiv L = -((-z * t) / L) := by
      rw [← Int.tdiv_eq_ediv_of_nonneg h0, ← Int.neg_tdiv]
      congr 1
      grind
    have g1 := Int.ediv_nonneg h0 (show 0 ≤ L by omega)
    have g2 := Int.ediv_le_ediv hp h1
    rw [Int.mul_ediv_cancel _ (by omega)] at g2
    omega
theorem within_sq {z Z : Int} (h : Within z Z) : z * z ≤ Z * Z ∧ 0 ≤ z * Z := by
  unfold Within at h
  rcases Int.le_total 0 Z with k | k
  · have := h.1 k
    exact ⟨Int.mul_le_mul this.2 this.2 this.1 k, Int.mul_nonneg this.1 k⟩
  · have := h.2 k
    have e1 : z * z = -z * -z := by grind
    have e2 : Z * Z = -Z * -Z := by grind
    have e3 : z * Z = -z * -Z := by grind
    rw [e1, e2, e3]
    exact ⟨Int.mul_le_mul (by omega) (by omega) (by omega) (by omega), Int.mul_nonneg (by omega) (by omega)⟩
theorem slx_within {z x y l : Int} (hx : -16777216 ≤ x ∧ x ≤ 16777216) (hy : -16777216 ≤ y ∧ y ≤ 16777216) (hl : 0 ≤ l) : Within (slx z x y l) z := by
  unfold slx
  obtain ⟨_, _, h0, h1⟩ := len_facts hx hy
  split
  · exact ⟨fun h => ⟨Int.le_refl _, h⟩, fun h => ⟨h, Int.le_refl _⟩⟩
  · exact part_within (by omega) (by omega) (by omega)
theorem SLE_facts {x y l : Int} (h : SLE x y l = 0) : ((-16777216 ≤ x ∧ x ≤ 16777216) ∧ (-16777216 ≤ y ∧ y ≤ 16777216)) ∧ (0 ≤ l ∧ l ≤ 33554432) := by
  unfold SLE at h
  split at h
  · rename_i hm
    split at h
    · rename_i hl
      exact ⟨mom_facts hm, btw_iff.1 hl⟩
    · omega
  · omega
theorem slow_fades {x y l : Int} (h : SLE x y l = 0) : ((-16777216 ≤ slx x x y l ∧ slx x x y l ≤ 16777216) ∧ (-16777216 ≤ slx y x y l ∧ slx y x y l ≤ 16777216)) ∧ slx x x y l * slx x x y l + slx y x y l * slx y x y l ≤ x * x + y * y ∧ 0 ≤ slx x x y l * x ∧ 0 ≤ slx y x y l * y := by
  obtain ⟨⟨hx, hy⟩, hl⟩ := SLE_facts h
  have w1 := slx_within (z := x) hx hy hl.1
  have w2 := slx_within (z := y) hx hy hl.1
  obtain ⟨a1, a2⟩ := within_sq w1
  obtain ⟨b1, b2⟩ := within_sq w2
  exact ⟨⟨within_bd w1 hx, within_bd w2 hy⟩, by omega, a2, b2⟩

/-! Bumps. -/
theorem bump_energy {u v X Y : Int} (h : tooB 1 u v X Y = false) : (u - X) * (u - X) + (v - Y) * (v - Y) ≤ u * u + v * v := by
  have h1 : ¬ 2 * (u * X + v * Y) < 1 * (X * X + Y * Y) := of_decide_eq_false h
  have e : (u - X) * (u - X) + (v - Y) * (v - Y) = u * u + v * v - 2 * (u * X + v * Y) + (X * X + Y * Y) := by grind
  omega
theorem bump_straight0 {u w r : Int} (hu : 0 < u) (hw : 0 < w) (hr : 0 ≤ r ∧ r ≤ 950) :
    ky u 0 w 0 (w * w) 1 r 0 = 0 ∧ (u - kx u 0 w 0 (w * w) 1 r 0 ≤ 0 ∨ (0 ≤ u - kx u 0 w 0 (w * w) 1 r 0 ∧ u - kx u 0 w 0 (w * w) 1 r 0 ≤ w)) := by
  have hh' : hh u 0 w 0 (w * w) = u / w := by
    unfold hh
    rw [Int.zero_mul, Int.add_zero, Int.tdiv_eq_ediv_of_nonneg (Int.mul_nonneg (by omega) (by omega)), Int.mul_ediv_mul_of_pos_left _ _ hw]
  have hk' : kk u 0 w 0 (w * w) = 0 := by unfold kk; simp
  have f1 := Int.ediv_mul_le u (b := w) (by omega)
  have f2 := Int.lt_ediv_add_one_mul_self u hw
  have h0 : 0 ≤ u / w := Int.ediv_nonneg (by omega) (by omega)
  have ex : k0x u 0 w 0 (w * w) 1 r 0 = ((1000 + r) * (u / w * w)) / 1000 := by
    unfold k0x
    rw [hh', hk']
    simp only [Int.mul_zero, Int.zero_mul, Int.sub_zero, Int.mul_one]
    rw [Int.mul_assoc, Int.tdiv_eq_ediv_of_nonneg (Int.mul_nonneg (by omega) (Int.mul_nonneg h0 (by omega)))]
  have ey : k0y u 0 w 0 (w * w) 1 r 0 = 0 := by
    unfold k0y
    rw [hh', hk']
    simp
  have e0 : (u / w + 1) * w = u / w * w + w := by grind
  have g0 : 0 ≤ u / w * w := Int.mul_nonneg h0 (by omega)
  generalize u / w * w = z at *
  have m1 : (1000 + r) * z ≤ 1950 * z := Int.mul_le_mul_of_nonneg_right (by omega) g0
  have m2 : 1000 * z ≤ (1000 + r) * z := Int.mul_le_mul_of_nonneg_right (by omega) g0
  have hX : z ≤ (1000 + r) * z / 1000 ∧ (1000 + r) * z / 1000 ≤ 2 * u := by omega
  generalize (1000 + r) * z / 1000 = X at *
  have ht : tooB 1 u 0 X 0 = false := by
    unfold tooB
    simp only [Int.mul_zero, Int.add_zero, Int.one_mul, Int.zero_mul, decide_eq_false_iff_not]
    have a1 : X * X ≤ 2 * u * X := Int.mul_le_mul_of_nonneg_right hX.2 (by omega)
    have a2 : 2 * u * X = 2 * (u * X) := Int.mul_assoc _ _ _
    omega
  have hs := hv_stop ht
  have kX : kx u 0 w 0 (w * w) 1 r 0 = X := by unfold kx; rw [ex, ey]; exact hs.1
  have kY : ky u 0 w 0 (w * w) 1 r 0 = 0 := by unfold ky; rw [ex, ey]; exact hs.2
  rw [kX, kY]
  refine ⟨rfl, ?_⟩
  omega
theorem bump_straight {m r a b u p q x R rb : Int} (h : PE m r a b u 0 p q x b R rb 0 = 0) :
    0 - PY m r a b u 0 p q x b R rb 0 = 0 ∧ ((u - PX m r a b u 0 p q x b R rb 0) * u ≤ 0 ∨ absI (u - PX m r a b u 0 p q x b R rb 0) ≤ 2 * (r + R)) := by
  obtain ⟨h1, h2, hx, hn, hp⟩ := PE_facts h
  obtain ⟨⟨hm1, hr1⟩, ⟨ha1, hb1⟩, ⟨hu1, hv1⟩, ⟨hp1, hq1⟩⟩ := mot_facts h1
  obtain ⟨_, hx1, hy1, hR⟩ := disc_facts h2
  obtain ⟨hrb, hdg⟩ := bnc_facts hx
  obtain ⟨h0, hw, _⟩ := near_facts hn (by omega) (by omega)
  have es : sq a b x b = (x - a) * (x - a) := by unfold sq; simp
  have ez : b - b = 0 := by omega
  rw [ez, Int.mul_zero, Int.add_zero] at hp
  have eX : PX m r a b u 0 p q x b R rb 0 = kx u 0 (x - a) 0 ((x - a) * (x - a)) 1 rb 0 := by unfold PX; rw [if_pos h, es, ez]
  have eY : PY m r a b u 0 p q x b R rb 0 = ky u 0 (x - a) 0 ((x - a) * (x - a)) 1 rb 0 := by unfold PY; rw [if_pos h, es, ez]
  rw [eX, eY]
  generalize x - a = w at *
  rcases Int.lt_trichotomy w 0 with hw0 | hw0 | hw0
  · have hu0 : u < 0 := by
      rcases Int.lt_or_le u 0 with k | k
      · exact k
      · have := Int.mul_nonpos_of_nonneg_of_nonpos k (show w ≤ 0 by omega); omega
    obtain ⟨n1, n2⟩ := k_neg u 0 w 0 (w * w) 1 rb 0
    have e : w * w = -w * -w := by grind
    obtain ⟨g1, g2⟩ := bump_straight0 (u := -u) (w := -w) (r := rb) (by omega) (by omega) hrb
    rw [← e, n1, n2] at *
    generalize kx u 0 w 0 (w * w) 1 rb 0 = X at *
    refine ⟨by omega, ?_⟩
    rcases g2 with g | g
    · left
      have : (u - X) * u ≤ 0 := Int.mul_nonpos_of_nonneg_of_nonpos (by omega) (by omega)
      exact this
    · right; unfold absI; split <;> omega
  · subst hw0; simp at hp
  · have hu0 : 0 < u := by
      rcases Int.lt_or_le 0 u with k | k
      · exact k
      · have := Int.mul_nonpos_of_nonpos_of_nonneg k (show 0 ≤ w by omega); omega
    obtain ⟨g1, g2⟩ := bump_straight0 (u := u) (w := w) (r := rb) hu0 hw0 hrb
    generalize kx u 0 w 0 (w * w) 1 rb 0 = X at *
    refine ⟨by omega, ?_⟩
    rcases g2 with g | g
    · left
      exact Int.mul_nonpos_of_nonpos_of_nonneg (by omega) (by omega)
    · right; unfold absI; split <;> omega
theorem UE_facts {m r a b u v p q x y R rb dg : Int} (h : UE m r a b u v p q x y R rb dg = 0) : PE m r a b u v p q x y R rb dg = 0 ∧ momB (u - PX m r a b u v p q x y R rb dg) (v - PY m r a b u v p q x y R rb dg) = true := by
  unfold UE at h
  split at h
  · rename_i hk
    split at h
    · rename_i hb
      exact ⟨hk, hb⟩
    · omega
  · contradiction
theorem bump_fades {m r a b u v p q x y R rb dg : Int} (h : PE m r a b u v p q x y R rb dg = 0) : (u - PX m r a b u v p q x y R rb dg) * (u - PX m r a b u v p q x y R rb dg) + (v - PY m r a b u v p q x y R rb dg) * (v - PY m r a b u v p q x y R rb dg) ≤ u * u + v * v := by
  have hX : PX m r a b u v p q x y R rb dg = kx u v (x - a) (y - b) (sq a b x y) 1 rb dg := by unfold PX; rw [if_pos h]
  have hY : PY m r a b u v p q x y R rb dg = ky u v (x - a) (y - b) (sq a b x y) 1 rb dg := by unfold PY; rw [if_pos h]
  rw [hX, hY]
  exact bump_energy (kick_not _ _ _ _ _ _ _ _)
end Go.Proofs.Ytlgabdamgalngaa.M
