/-
  Mathematics of moves: when two places are near, and the first time that they are.
-/
import Derived.Test.YtfcjdmpfoogljaaDoorMathB
set_option linter.unusedVariables false
namespace Go.Proofs.YtfcjdmpfoogljaaDoor.M

def near (x y r : Int) : Bool := decide (-r ≤ x ∧ x ≤ r ∧ -r ≤ y ∧ y ≤ r ∧ x * x + y * y ≤ r * r)
theorem near_yes {x y r : Int} (h1 : -r ≤ x) (h2 : x ≤ r) (h3 : -r ≤ y) (h4 : y ≤ r) (h5 : x * x + y * y ≤ r * r) : near x y r = true := by unfold near; exact decide_eq_true ⟨h1, h2, h3, h4, h5⟩
theorem near_no {x y r : Int} (h : ¬ (-r ≤ x ∧ x ≤ r ∧ -r ≤ y ∧ y ≤ r ∧ x * x + y * y ≤ r * r)) : near x y r = false := by unfold near; exact decide_eq_false h
theorem near_of {x y r : Int} (h : near x y r = true) : -r ≤ x ∧ x ≤ r ∧ -r ≤ y ∧ y ≤ r ∧ x * x + y * y ≤ r * r := by unfold near at h; exact of_decide_eq_true h
theorem near_not {x y r : Int} (h : near x y r = false) : ¬ (-r ≤ x ∧ x ≤ r ∧ -r ≤ y ∧ y ≤ r ∧ x * x + y * y ≤ r * r) := by unfold near at h; exact of_decide_eq_false h
theorem near_neg (x y r : Int) : near (-x) (-y) r = near x y r := by
  have e1 : -x * -x = x * x := by grind
  have e2 : -y * -y = y * y := by grind
  cases h : near x y r
  · have k := near_not h
    refine near_no fun ⟨h1, h2, h3, h4, h5⟩ => k ⟨by omega, by omega, by omega, by omega, by rw [← e1, ← e2]; exact h5⟩
  · obtain ⟨h1, h2, h3, h4, h5⟩ := near_of h
    exact near_yes (by omega) (by omega) (by omega) (by omega) (by rw [e1, e2]; exact h5)
/-- Are both near each other after k of n parts? -/
def meet (a b c d r n : Int) (k : Nat) : Bool := near (n * a + k * b) (n * c + k * d) (n * r)
theorem meet_neg (a b c d a' b' c' d' r n : Int) (k : Nat) (e1 : a' = -a) (e2 : b' = -b) (e3 : c' = -c) (e4 : d' = -d) : meet a' b' c' d' r n k = meet a b c d r n k := by
  unfold meet
  rw [e1, e2, e3, e4, show n * -a + k * -b = -(n * a + k * b) from by grind, show n * -c + k * -d = -(n * c + k * d) from by grind, near_neg]
/-- The first part at which both are near: m, or one after the last. -/
def FirstAt (a b c d r n : Int) (m : Nat) : Prop := (m : Int) ≤ n + 1 ∧ (∀ k : Nat, k < m → meet a b c d r n k = false) ∧ ((m : Int) ≤ n → meet a b c d r n m = true)
theorem first_nat (P : Nat → Bool) (N : Nat) : ∃ m, m ≤ N ∧ (∀ k, k < m → P k = false) ∧ (m < N → P m = true) := by
  induction N with
  | zero => exact ⟨0, Nat.le_refl _, fun k h => by omega, fun h => by omega⟩
  | succ N ih =>
    obtain ⟨m, h1, h2, h3⟩ := ih
    by_cases h : m < N
    · exact ⟨m, by omega, h2, fun _ => h3 h⟩
    · obtain rfl : m = N := by omega
      cases hp : P m
      · refine ⟨m + 1, by omega, fun k hk => ?_, fun h => by omega⟩
        by_cases hkm : k < m
        · exact h2 k hkm
        · obtain rfl : k = m := by omega
          exact hp
      · exact ⟨m, by omega, h2, fun _ => hp⟩
theorem first_ex (a b c d r n : Int) (hn : 0 ≤ n) : ∃ m, FirstAt a b c d r n m := by
  obtain ⟨m, h1, h2, h3⟩ := first_nat (meet a b c d r n) (n.toNat + 1)
  exact ⟨m, by omega, h2, fun h => h3 (by omega)⟩
theorem FirstAt.neg {a b c d r n : Int} {m : Nat} (h : FirstAt a b c d r n m) (a' b' c' d' : Int) (e1 : a' = -a) (e2 : b' = -b) (e3 : c' = -c) (e4 : d' = -d) : FirstAt a' b' c' d' r n m :=
  ⟨h.1, fun k hk => by rw [meet_neg a b c d a' b' c' d' r n k e1 e2 e3 e4]; exact h.2.1 k hk, fun hk => by rw [meet_neg a b c d a' b' c' d' r n m e1 e2 e3 e4]; exact h.2.2 hk⟩
def firstK (m : Nat) (n : Int) : Int := if (m : Int) ≤ n then m else 0
def firstE (m : Nat) (n : Int) : Int := if (m : Int) ≤ n then 0 else 5
theorem along_bd (n a : Int) (k : Nat) (b : Int) (hn : 0 ≤ n) (hn2 : n ≤ 1024) (hk : (k : Int) ≤ n) (ha : -8388608 ≤ a) (ha2 : a ≤ 8388608) (hb : -8388608 ≤ b) (hb2 : b ≤ 8388608) :
    -8589934592 ≤ n * a ∧ n * a ≤ 8589934592 ∧ -8589934592 ≤ k * b ∧ k * b ≤ 8589934592 := by
  obtain ⟨h1, h2⟩ := mul_bd n a 1024 8388608 (by omega) hn2 ha ha2
  obtain ⟨h3, h4⟩ := mul_bd k b 1024 8388608 (by omega) (by omega) hb hb2
  exact ⟨by omega, by omega, by omega, by omega⟩
theorem sq_le_of {x r : Int} (h1 : -r ≤ x) (h2 : x ≤ r) : x * x ≤ r * r := by
  by_cases h : 0 ≤ x
  · exact Int.mul_le_mul h2 h2 h (by omega)
  · have := Int.mul_le_mul (show -x ≤ r by omega) (show -x ≤ r by omega) (show 0 ≤ -x by omega) (by omega)
    have e : -x * -x = x * x := by grind
    omega
end Go.Proofs.YtfcjdmpfoogljaaDoor.M
