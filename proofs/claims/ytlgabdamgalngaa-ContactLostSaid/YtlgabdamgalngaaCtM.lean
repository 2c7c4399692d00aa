/-
  The plain mathematics of layer 3: what is valid.
-/
set_option linter.unusedVariables false
set_option linter.unusedSimpArgs false
namespace Go.Proofs.Ytlgabdamgalngaa.M
def btw (n l h : Int) : Bool := decide (l ≤ n) && decide (n ≤ h)
theorem btw_iff {n l h : Int} : btw n l h = true ↔ (l ≤ n ∧ n ≤ h) := by simp [btw]
theorem btw_no {n l h : Int} : btw n l h = false ↔ ¬ (l ≤ n ∧ n ≤ h) := by simp [btw]
/-- A ball, a momentum, a rest, a motion, a bounce: is it valid? -/
def ballB (m r : Int) : Bool := btw m 400 500 && btw r 1000 4096
def momB (x y : Int) : Bool := btw x (-16777216) 16777216 && btw y (-16777216) 16777216
def restB (x y m : Int) : Bool := btw x (-(32 * m)) (32 * m - 1) && btw y (-(32 * m)) (32 * m - 1)
def placeB (x y : Int) : Bool := btw x (-4194304) 4194304 && btw y (-4194304) 4194304
def motB (m r a b u v p q : Int) : Bool := ballB m r && placeB a b && momB u v && restB p q m
def bncB (r d : Int) : Bool := btw r 0 950 && btw d 0 300
def discB (x y r : Int) : Bool := placeB x y && btw r 1 65536
def err (b : Bool) : Int := if b then 0 else 2
@[simp] theorem err_true : err true = 0 := rfl
@[simp] theorem err_false : err false = 2 := rfl
theorem ballB_lo {m r : Int} (h : err (ballB m r) = 0) : 400 ≤ m := by
  unfold err ballB btw at h
  simp at h
  omega
theorem ballB_hi {m r : Int} (h : err (ballB m r) = 0) : m ≤ 500 := by
  unfold err ballB btw at h
  simp at h
  omega
theorem err_eq {b : Bool} : err b = 0 ↔ b = true := by cases b <;> simp
end Go.Proofs.Ytlgabdamgalngaa.M
