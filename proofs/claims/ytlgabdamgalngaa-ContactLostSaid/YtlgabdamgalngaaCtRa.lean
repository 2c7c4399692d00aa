/-
  Layer 3: the plain mathematics of steps.
-/
import Derived.Test.YtlgabdamgalngaaCtR
set_option linter.unusedVariables false
set_option linter.unusedSimpArgs false
namespace Go.Proofs.Ytlgabdamgalngaa.M
/-- After n steps: a place, a rest; the error. -/
def ax (n m a u p : Int) : Int := a + whole (n * u + p) (64 * m)
def ar (n m u p : Int) : Int := rest (n * u + p) (64 * m)
def AE (n m a b u v p q : Int) : Int := if placeB (ax n m a u p) (ax n m b v q) then 0 else 4
def SE (m r a b u v p q : Int) : Int := if motB m r a b u v p q then AE 1 m a b u v p q else 2
def TE (m r a b u v p q t : Int) : Int := if motB m r a b u v p q then (if btw t 0 1000 then AE (16 * t) m a b u v p q else 3) else 2
theorem SE_bad {m r a b u v p q : Int} (h : motB m r a b u v p q = false) : SE m r a b u v p q = 2 := by unfold SE; rw [h]; rfl
theorem TE_bad {m r a b u v p q t : Int} (h : motB m r a b u v p q = false) : TE m r a b u v p q t = 2 := by unfold TE; rw [h]; rfl
theorem whole_bd {n d B : Int} (hd : 0 < d) (h1 : -B ≤ n) (h2 : n ≤ B) : -B - 1 ≤ whole n d ∧ whole n d ≤ B + 1 := by
  have e := whole_rest n d
  have l := rest_lo n d hd
  have g := rest_hi n d hd
  generalize whole n d = w at *
  generalize rest n d = s at *
  constructor
  · rcases Int.lt_or_le w (-B - 1) with h | h
    · exfalso
      have h3 : (B + 1) * 1 ≤ (-w - 1 + 1) * 1 := by omega
      have h4 : (-w - 1) * 1 ≤ (-w - 1) * d := Int.mul_le_mul_of_nonneg_left (by omega) (by omega)
      have e2 : w * d = -((-w - 1) * d) - d := by grind
      omega
    · exact h
  · rcases Int.lt_or_le (B + 1) w with h | h
    · exfalso
      have h4 : (w - 1) * 1 ≤ (w - 1) * d := Int.mul_le_mul_of_nonneg_left (by omega) (by omega)
      have e2 : w * d = (w - 1) * d + d := by grind
      omega
    · exact h
theorem step_facts {n m u p : Int} (hn : 0 ≤ n ∧ n ≤ 16000) (hm : 400 ≤ m ∧ m ≤ 500) (hu : -16777216 ≤ u ∧ u ≤ 16777216) (hp : -(32 * m) ≤ p ∧ p ≤ 32 * m - 1) :
    (-268435456000 ≤ n * u ∧ n * u ≤ 268435456000) ∧ (-268435473000 ≤ whole (n * u + p) (64 * m) ∧ whole (n * u + p) (64 * m) ≤ 268435473000) := by
  have h1 := mul_bd' (a := n) (b := u) (A := 16000) (B := 16777216) (C := 268435456000) (by decide) (by omega) hu
  have h2 := whole_bd (n := n * u + p) (d := 64 * m) (B := 268435472000) (by omega) (by omega) (by omega)
  omega
end Go.Proofs.Ytlgabdamgalngaa.M
