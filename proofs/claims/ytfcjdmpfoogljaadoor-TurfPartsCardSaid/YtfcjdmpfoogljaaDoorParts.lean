/-
  TurfParts: whatever the numbers, the law returns true (its walk).
-/
import Derived.Test.YtfcjdmpfoogljaaDoorFine
set_option linter.unusedVariables false
set_option linter.unusedSimpArgs false
namespace Go.Proofs.YtfcjdmpfoogljaaDoor
open Go.ChangeShapes Go.WideShapes Go.ChangeAt Go.RowKit

theorem tmod_bd (a m : Int) (h : 0 < m) : -m < a.tmod m ∧ a.tmod m < m := by
  have h1 := Int.tmod_lt_of_pos a h
  have h2 := Int.tmod_lt_of_pos (-a) h
  rw [Int.neg_tmod] at h2
  omega
/-- The facts of three parts. -/
theorem parts_facts (x y n : Int) (h : 0 < n) : M.whole x n * n + M.rest x n = x ∧ (M.whole (x + y) n - M.whole x n - M.whole y n) * n = M.rest x n + M.rest y n - M.rest (x + y) n := by
  have e1 := M.whole_rest x n
  have e2 := M.whole_rest y n
  have e3 := M.whole_rest (x + y) n
  refine ⟨e1, ?_⟩
  rw [Int.sub_mul, Int.sub_mul]
  omega
theorem whole_bd (x n A : Int) (h : 1 ≤ n) (hA : 0 ≤ A) (h1 : -A ≤ x) (h2 : x ≤ A) : -A - 1 ≤ M.whole x n ∧ M.whole x n ≤ A + 1 := by
  have e := M.whole_rest x n
  have l := M.rest_lo x n (by omega)
  have u := M.rest_hi x n (by omega)
  constructor
  · rcases M.lt_or_ge' (M.whole x n) (-A - 1) with h' | h'
    · exfalso
      have h3 : M.whole x n ≤ -A - 2 := by omega
      have h4 := Int.mul_le_mul_of_nonneg_right h3 (show 0 ≤ n by omega)
      have h5 : (-A - 2) * n = -(A * n) - 2 * n := by grind
      have h6 := Int.mul_le_mul_of_nonneg_left h hA
      omega
    · exact h'
  · rcases M.lt_or_ge' (A + 1) (M.whole x n) with h' | h'
    · exfalso
      have h3 : A + 2 ≤ M.whole x n := by omega
      have h4 := Int.mul_le_mul_of_nonneg_right h3 (show 0 ≤ n by omega)
      have h5 : (A + 2) * n = A * n + 2 * n := by grind
      have h6 := Int.mul_le_mul_of_nonneg_left h hA
      omega
    · exact h'

set_option maxHeartbeats 2000000 in
theorem parts_walk (a b d : Int) (w : World) (ht : Tab w) (ha : -9223372036854775808 ≤ a) (ha2 : a ≤ 9223372036854775807) (hb : -9223372036854775808 ≤ b) (hb2 : b ≤ 9223372036854775807) (hd : 0 ≤ d) (hd2 : d ≤ 4294967295) :
    Calls Tryd.prog 7 #[.int .i64 a, .int .i64 b, .int .u32 d] w fun e w' => e = .returned (.bool true) ∧ Below w.heap.size w w' := by
  have hz := ht.size
  have HT := Lib.hid ht
  clear ht
  obtain ⟨x1, x2⟩ := tmod_bd a 1099511627776 (by omega)
  obtain ⟨y1, y2⟩ := tmod_bd b 1099511627776 (by omega)
  go_enter Tryd.func7, Tryd.ntmps7
  go_wp2_with fail
  generalize a.tmod 1099511627776 = x at *
  generalize b.tmod 1099511627776 = y at *
  generalize hn : 1 + d = n at *
  have n1 : 1 ≤ n := by omega
  have n2 : n ≤ 4294967296 := by omega
  clear hn hd hd2 ha ha2 hb hb2
  obtain ⟨f1, f2⟩ := parts_facts x y n (by omega)
  obtain ⟨a1, a2⟩ := whole_bd x n 1099511627776 n1 (by omega) (by omega) (by omega)
  obtain ⟨a3, a4⟩ := whole_bd y n 1099511627776 n1 (by omega) (by omega) (by omega)
  obtain ⟨a5, a6⟩ := whole_bd (x + y) n 2199023255552 n1 (by omega) (by omega) (by omega)
  have r1 := M.rest_lo x n (by omega)
  have r2 := M.rest_hi x n (by omega)
  have r3 := M.rest_lo y n (by omega)
  have r4 := M.rest_hi y n (by omega)
  have r5 := M.rest_lo (x + y) n (by omega)
  have r6 := M.rest_hi (x + y) n (by omega)
  have f3 : M.whole x n * n ≤ 2199023255552 := by omega
  have f4 : -2199023255552 ≤ M.whole x n * n := by omega
  have f5 : (M.whole (x + y) n - M.whole x n - M.whole y n) * n ≤ 2199023255552 := by omega
  have f6 : -2199023255552 ≤ (M.whole (x + y) n - M.whole x n - M.whole y n) * n := by omega
  have t1 : (M.whole x n * n + M.rest x n == x) = true := by simpa using f1
  have t2 : (M.whole x n * n + M.rest x n != x) = false := by simpa using f1
  have t3 : ((M.whole (x + y) n - M.whole x n - M.whole y n) * n == M.rest x n + M.rest y n - M.rest (x + y) n) = true := by simpa using f2
  clear f1 f2
  refine (divide_ok _ _ _ (by omega) (by omega) (by omega) (by omega)).mono ?_
  rintro e w1 ⟨rfl, hb1⟩
  obtain ⟨hB1, hz1, hc1, hf1⟩ := grow4 (w := w) (by go_grown) hb1
  go_wp2_with fail
  refine (divide_ok _ _ _ (by omega) (by omega) (by omega) (by omega)).mono ?_
  rintro e w2 ⟨rfl, hb2⟩
  obtain ⟨hB2, hz2, hc2, hf2⟩ := grow4 (w := w) (by go_grown) hb2
  simp only [World.size_alloc] at hz2
  have hy2 := Nat.lt_of_succ_le hz2
  go_wp2_with fail
  refine (divide_ok _ _ _ (by omega) (by omega) (by omega) (by omega)).mono ?_
  rintro e w3 ⟨rfl, hb3⟩
  obtain ⟨hB3, hz3, hc3, hf3⟩ := grow4 (w := w) (by go_grown) hb3
  simp only [World.size_alloc] at hz3
  have hy3 := Nat.lt_of_succ_le hz3
  have hx3 : w1.heap.size < w3.heap.size := by omega
  have hw3 : w1.heap.size < w2.heap.size + 1 := by omega
  go_wp2_with fail
  refine (fine_any _ (HT.out.below (by go_grown : Below w.heap.size w _) hz)).mono ?_
  rintro e w4 ⟨rfl, hb4⟩
  have hB4 := stepB (w := w) (by go_grown) hb4
  go_wp2
  go_returns
  exact ⟨rfl, hB4⟩
end Go.Proofs.YtfcjdmpfoogljaaDoor
