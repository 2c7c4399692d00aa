/-
  Layer 3: the plain mathematics of a kick.
-/
import Derived.Test.YtlgabdamgalngaaCtM
set_option linter.unusedVariables false
set_option linter.unusedSimpArgs false
namespace Go.Proofs.Ytlgabdamgalngaa.M
def tooB (b ux uy x y : Int) : Bool := decide (2 * (ux * x + uy * y) < b * (x * x + y * y))
def hv : Nat → Int → Int → Int → Int → Int → Int × Int
  | 0, b, ux, uy, x, y => (x, y)
  | n + 1, b, ux, uy, x, y => if tooB b ux uy x y then hv n b ux uy (x.tdiv 2) (y.tdiv 2) else (x, y)
def hvx (b ux uy x y : Int) : Int := (hv (x.natAbs + y.natAbs) b ux uy x y).1
def hvy (b ux uy x y : Int) : Int := (hv (x.natAbs + y.natAbs) b ux uy x y).2
def hh (ux uy wx wy sq : Int) : Int := (ux * wx + uy * wy).tdiv sq
def kk (ux uy wx wy sq : Int) : Int := (wx * uy - wy * ux).tdiv sq
def k0x (ux uy wx wy sq b r d : Int) : Int := ((1000 + r) * hh ux uy wx wy sq * wx - d * kk ux uy wx wy sq * wy).tdiv (1000 * b)
def k0y (ux uy wx wy sq b r d : Int) : Int := ((1000 + r) * hh ux uy wx wy sq * wy + d * kk ux uy wx wy sq * wx).tdiv (1000 * b)
def kx (ux uy wx wy sq b r d : Int) : Int := hvx b ux uy (k0x ux uy wx wy sq b r d) (k0y ux uy wx wy sq b r d)
def ky (ux uy wx wy sq b r d : Int) : Int := hvy b ux uy (k0x ux uy wx wy sq b r d) (k0y ux uy wx wy sq b r d)

theorem half_abs (x : Int) : (x.tdiv 2).natAbs ≤ x.natAbs ∧ (x ≠ 0 → (x.tdiv 2).natAbs < x.natAbs) := by
  have h : (x.tdiv 2).natAbs = x.natAbs / 2 := by rw [Int.natAbs_tdiv]; rfl
  rw [h]
  omega
theorem tooB_zero (b ux uy : Int) : tooB b ux uy 0 0 = false := by simp [tooB]
theorem tooB_ne {b ux uy x y : Int} (h : tooB b ux uy x y = true) : x ≠ 0 ∨ y ≠ 0 := by
  by_cases hx : x = 0
  · by_cases hy : y = 0
    · subst hx; subst hy; rw [tooB_zero] at h; cases h
    · exact Or.inr hy
  · exact Or.inl hx
theorem tooB_lt {b ux uy x y : Int} (h : tooB b ux uy x y = true) : (x.tdiv 2).natAbs + (y.tdiv 2).natAbs < x.natAbs + y.natAbs := by
  have h1 := half_abs x
  have h2 := half_abs y
  rcases tooB_ne h with h3 | h3
  · have := h1.2 h3; omega
  · have := h2.2 h3; omega
/-- More rounds than are wanted change nothing. -/
theorem hv_fuel (b ux uy : Int) : ∀ (n m : Nat) (x y : Int), x.natAbs + y.natAbs ≤ n → x.natAbs + y.natAbs ≤ m → hv n b ux uy x y = hv m b ux uy x y
  | 0, 0, x, y, _, _ => rfl
  | 0, m + 1, x, y, h, _ => by
    have hx : x = 0 := by omega
    have hy : y = 0 := by omega
    subst hx; subst hy
    simp [hv, tooB_zero]
  | n + 1, 0, x, y, _, h => by
    have hx : x = 0 := by omega
    have hy : y = 0 := by omega
    subst hx; subst hy
    simp [hv, tooB_zero]
  | n + 1, m + 1, x, y, h1, h2 => by
    simp only [hv]
    cases ht : tooB b ux uy x y with
    | false => simp
    | true =>
      have := tooB_lt ht
      simp only [if_true]
      exact hv_fuel b ux uy n m _ _ (by omega) (by omega)
theorem hv_step {b ux uy x y : Int} (h : tooB b ux uy x y = true) : hvx b ux uy x y = hvx b ux uy (x.tdiv 2) (y.tdiv 2) ∧ hvy b ux uy x y = hvy b ux uy (x.tdiv 2) (y.tdiv 2) := by
  have hlt := tooB_lt h
  have : hv (x.natAbs + y.natAbs) b ux uy x y = hv ((x.tdiv 2).natAbs + (y.tdiv 2).natAbs) b ux uy (x.tdiv 2) (y.tdiv 2) := by
    rw [hv_fuel b ux uy (x.natAbs + y.natAbs) (((x.tdiv 2).natAbs + (y.tdiv 2).natAbs) + (x.natAbs + y.natAbs) + 1) x y (by omega) (by omega)]
    simp only [hv, h, if_true]
    exact hv_fuel b ux uy _ _ _ _ (by omega) (by omega)
  exact ⟨congrArg Prod.fst this, congrArg Prod.snd this⟩
theorem hv_stop {b ux uy x y : Int} (h : tooB b ux uy x y = false) : hvx b ux uy x y = x ∧ hvy b ux uy x y = y := by
  unfold hvx hvy
  cases hn : x.natAbs + y.natAbs with
  | zero => simp [hv]
  | succ n => simp [hv, h]
/-- The last one is not too great, not greater than the first one, and of the same sign. -/
theorem hv_last (b ux uy : Int) : ∀ (n : Nat) (x y : Int), x.natAbs + y.natAbs ≤ n → tooB b ux uy (hv n b ux uy x y).1 (hv n b ux uy x y).2 = false
  | 0, x, y, h => by
    have hx : x = 0 := by omega
    have hy : y = 0 := by omega
    subst hx; subst hy
    simp [hv, tooB_zero]
  | n + 1, x, y, h => by
    simp only [hv]
    cases ht : tooB b ux uy x y with
    | false => simpa using ht
    | true =>
      have := tooB_lt ht
      simp only [if_true]
      exact hv_last b ux uy n _ _ (by omega)
theorem kick_not (ux uy wx wy sq b r d : Int) : tooB b ux uy (kx ux uy wx wy sq b r d) (ky ux uy wx wy sq b r d) = false := hv_last b ux uy _ _ _ (Nat.le_refl _)
def Within (x X : Int) : Prop := (0 ≤ X → 0 ≤ x ∧ x ≤ X) ∧ (X ≤ 0 → X ≤ x ∧ x ≤ 0)
theorem within_half (x : Int) : Within (x.tdiv 2) x := by
  constructor
  · intro h; rw [Int.tdiv_eq_ediv_of_nonneg h]; omega
  · intro h
    have : x.tdiv 2 = -((-x) / 2) := by rw [← Int.tdiv_eq_ediv_of_nonneg (by omega), Int.neg_tdiv]; omega
    omega
theorem Within.trans {x y z : Int} (h : Within x y) (k : Within y z) : Within x z := by
  unfold Within at *
  constructor
  · intro hz; have := k.1 hz; have := h.1 (by omega); omega
  · intro hz; have := k.2 hz; have := h.2 (by omega); omega
theorem Within.refl (x : Int) : Within x x := ⟨fun h => ⟨h, Int.le_refl _⟩, fun h => ⟨Int.le_refl _, h⟩⟩
theorem hv_within (b ux uy : Int) : ∀ (n : Nat) (x y : Int), Within (hv n b ux uy x y).1 x ∧ Within (hv n b ux uy x y).2 y
  | 0, x, y => ⟨Within.refl _, Within.refl _⟩
  | n + 1, x, y => by
    simp only [hv]
    cases ht : tooB b ux uy x y with
    | false => simp only [Bool.false_eq_true, if_false]; exact ⟨Within.refl _, Within.refl _⟩
    | true =>
      simp only [if_true]
      obtain ⟨h1, h2⟩ := hv_within b ux uy n (x.tdiv 2) (y.tdiv 2)
      exact ⟨h1.trans (within_half x), h2.trans (within_half y)⟩
theorem kx_within (ux uy wx wy sq b r d : Int) : Within (kx ux uy wx wy sq b r d) (k0x ux uy wx wy sq b r d) ∧ Within (ky ux uy wx wy sq b r d) (k0y ux uy wx wy sq b r d) := hv_within b ux uy _ _ _
end Go.Proofs.Ytlgabdamgalngaa.M
