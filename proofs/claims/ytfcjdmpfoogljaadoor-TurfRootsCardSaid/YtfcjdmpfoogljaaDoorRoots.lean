/-
  TurfRoots: whatever the numbers, the law returns true (its walk).
-/
import Derived.Test.YtfcjdmpfoogljaaDoorFine
import Derived.Test.YtfcjdmpfoogljaaDoorWide
set_option linter.unusedVariables false
set_option linter.unusedSimpArgs false
namespace Go.Proofs.YtfcjdmpfoogljaaDoor
open Go.ChangeShapes Go.WideShapes Go.ChangeAt Go.RowKit

theorem and_bd (n : Int) : 0 ≤ bits .and .i64 n 1152921504606846975 ∧ bits .and .i64 n 1152921504606846975 ≤ 1152921504606846975 := by
  have h : bits .and .i64 n 1152921504606846975 = IntKind.i64.wrap ((BitVec.ofInt 64 n &&& BitVec.ofInt 64 1152921504606846975).toNat : Int) := rfl
  rw [h, BitVec.toNat_and]
  have h2 : (BitVec.ofInt 64 1152921504606846975).toNat = 1152921504606846975 := by decide
  rw [h2]
  have h3 := Nat.and_le_right (n := (BitVec.ofInt 64 n).toNat) (m := 1152921504606846975)
  generalize (BitVec.ofInt 64 n).toNat &&& 1152921504606846975 = z at h3
  rw [IntWalk.i64_in _ ⟨by omega, by omega⟩]
  omega

/-- Wide at both ends, whatever comes. -/
theorem Wide_any (a b c d : Int) : ∃ u y : Int, (y = 0 ∨ y = 3) ∧ -1 ≤ u ∧ u ≤ 1 ∧ (∀ w : World, Calls Tryd.prog 17 #[.int .i64 a, .int .i64 b, .int .i64 c, .int .i64 d] w fun e w' => e = .returned (.tuple #[.int .i64 u, .int .i64 y]) ∧ Below w.heap.size w w') ∧
    (∀ w : World, Calls Tryd.prog 17 #[.int .i64 d, .int .i64 c, .int .i64 b, .int .i64 a] w fun e w' => e = .returned (.tuple #[.int .i64 (-u), .int .i64 y]) ∧ Below w.heap.size w w') := by
  by_cases h : wideIn a b c d
  · obtain ⟨l, u⟩ := M.cmp_bd (a * b) (c * d)
    refine ⟨M.cmp (a * b) (c * d), 0, .inl rfl, l, u, fun w => Wide_ok a b c d w h, fun w => ?_⟩
    rw [M.cmp_swap, Int.neg_neg, Int.mul_comm c d, Int.mul_comm a b]
    exact Wide_ok d c b a w ⟨h.2.2.2, h.2.2.1, h.2.1, h.1⟩
  · exact ⟨0, 3, .inr rfl, by omega, by omega, fun w => Wide_bad a b c d w h, fun w => Wide_bad d c b a w (fun k => h ⟨k.2.2.2, k.2.2.1, k.2.1, k.1⟩)⟩

set_option maxHeartbeats 2000000 in
theorem roots_walk (n a b c d e f g h : Int) (w : World) (ht : Tab w) (n1 : -9223372036854775808 ≤ n) (n2 : n ≤ 9223372036854775807) (a1 : 0 ≤ a) (a2 : a ≤ 4294967295) (b1 : 0 ≤ b) (b2 : b ≤ 4294967295) (c1 : 0 ≤ c) (c2 : c ≤ 4294967295) (d1 : 0 ≤ d) (d2 : d ≤ 4294967295)
    (e1 : -9223372036854775808 ≤ e) (e2 : e ≤ 9223372036854775807) (f1 : -9223372036854775808 ≤ f) (f2 : f ≤ 9223372036854775807) (g1 : -9223372036854775808 ≤ g) (g2 : g ≤ 9223372036854775807) (h1 : -9223372036854775808 ≤ h) (h2 : h ≤ 9223372036854775807) :
    Calls Tryd.prog 8 #[.int .i64 n, .int .u32 a, .int .u32 b, .int .u32 c, .int .u32 d, .int .i64 e, .int .i64 f, .int .i64 g, .int .i64 h] w fun e w' => e = .returned (.bool true) ∧ Below w.heap.size w w' := by
  have hz := ht.size
  have HT := Lib.hid ht
  clear ht
  obtain ⟨m1, m2⟩ := and_bd n
  go_enter Tryd.func8, Tryd.ntmps8
  go_wp2_with fail
  generalize bits .and .i64 n 1152921504606846975 = m at *
  obtain ⟨r, hr⟩ := M.root_ex m m1
  have HR := Lib.hid hr
  obtain ⟨r1, r2, r3⟩ := hr
  have r4 : r < 1073741824 := M.sq_lt r1 (show r * r < 1073741824 * 1073741824 by omega) (by omega)
  obtain ⟨r5, r6⟩ := M.mul_bd (r + 1) (r + 1) 1073741824 1073741824 (by omega) (by omega) (by omega) (by omega)
  have r7 : ¬ ((r + 1) * (r + 1) ≤ m) := by omega
  have r8 : ¬ (m < r * r) := by omega
  have r9 := M.sq_nonneg r
  refine (Root_ok m r _ m1 (by omega) HR.out).mono ?_
  rintro e' w1 ⟨rfl, hb1⟩
  obtain ⟨hB1, hz1, hc1, hf1⟩ := grow4 (w := w) (by go_grown) hb1
  go_wp2_with fail
  have i2 : 0 ≤ a / 2 ∧ a / 2 ≤ 2147483647 := by omega
  have j2 : 0 ≤ b / 2 ∧ b / 2 ≤ 2147483647 := by omega
  have k2 : 0 ≤ c / 2 ∧ c / 2 ≤ 2147483647 := by omega
  have l2 : 0 ≤ d / 2 ∧ d / 2 ≤ 2147483647 := by omega
  generalize a / 2 = i at *
  generalize b / 2 = j at *
  generalize c / 2 = k at *
  generalize d / 2 = l at *
  obtain ⟨i0, i1⟩ := i2
  obtain ⟨j0, j1⟩ := j2
  obtain ⟨k0, k1⟩ := k2
  obtain ⟨l0, l1⟩ := l2
  obtain ⟨s1, s2⟩ := M.mul_bd i j 2147483648 2147483648 (by omega) (by omega) (by omega) (by omega)
  obtain ⟨s3, s4⟩ := M.mul_bd k l 2147483648 2147483648 (by omega) (by omega) (by omega) (by omega)
  obtain ⟨u, y, hy, u1, u2, hw1, hw2⟩ := Wide_any e f g h
  have U1 := Lib.hid hw1
  have U2 := Lib.hid hw2
  have hcw := Wide_ok i j k l w1 ⟨⟨i0, by omega⟩, ⟨j0, by omega⟩, ⟨k0, by omega⟩, ⟨l0, by omega⟩⟩
  clear hw1 hw2 r1 r2 r3 r4 r5 r6 r7 r8 r9 HR hy n1 n2 m1 m2 a1 a2 b1 b2 c1 c2 d1 d2
  rcases Int.lt_trichotomy (i * j) (k * l) with hij | hij | hij
  · rw [M.cmp_lt hij] at hcw
    refine hcw.mono ?_
    rintro e' w2 ⟨rfl, hb2⟩
    obtain ⟨hB2, hz2, hc2, hf2⟩ := grow4 (w := w) (by go_grown) hb2
    clear hcw
    go_wp2_with fail
    refine (U1.out _).mono ?_
    rintro e' w3 ⟨rfl, hb3⟩
    obtain ⟨hB3, hz3, hc3, hf3⟩ := grow4 (w := w) (by go_grown) hb3
    go_wp2_with fail
    refine (U2.out _).mono ?_
    rintro e' w4 ⟨rfl, hb4⟩
    obtain ⟨hB4, hz4, hc4, hf4⟩ := grow4 (w := w) (by go_grown) hb4
    go_wp2_with fail
    refine (fine_any _ (HT.out.below (by go_grown : Below w.heap.size w _) hz)).mono ?_
    rintro e' w5 ⟨rfl, hb5⟩
    have hB5 := stepB (w := w) (by go_grown) hb5
    go_wp2
    go_returns
    exact ⟨rfl, hB5⟩
  · rw [hij, M.cmp_eq] at hcw
    have q1 : ¬ (i * j < k * l) := by omega
    have q2 : ¬ (k * l < i * j) := by omega
    clear hij
    refine hcw.mono ?_
    rintro e' w2 ⟨rfl, hb2⟩
    obtain ⟨hB2, hz2, hc2, hf2⟩ := grow4 (w := w) (by go_grown) hb2
    clear hcw
    go_wp2_with fail
    refine (U1.out _).mono ?_
    rintro e' w3 ⟨rfl, hb3⟩
    obtain ⟨hB3, hz3, hc3, hf3⟩ := grow4 (w := w) (by go_grown) hb3
    go_wp2_with fail
    refine (U2.out _).mono ?_
    rintro e' w4 ⟨rfl, hb4⟩
    obtain ⟨hB4, hz4, hc4, hf4⟩ := grow4 (w := w) (by go_grown) hb4
    go_wp2_with fail
    refine (fine_any _ (HT.out.below (by go_grown : Below w.heap.size w _) hz)).mono ?_
    rintro e' w5 ⟨rfl, hb5⟩
    have hB5 := stepB (w := w) (by go_grown) hb5
    go_wp2
    go_returns
    exact ⟨rfl, hB5⟩
  · rw [M.cmp_gt hij] at hcw
    have q1 : ¬ (i * j < k * l) := by omega
    refine hcw.mono ?_
    rintro e' w2 ⟨rfl, hb2⟩
    obtain ⟨hB2, hz2, hc2, hf2⟩ := grow4 (w := w) (by go_grown) hb2
    clear hcw
    go_wp2_with fail
    refine (U1.out _).mono ?_
    rintro e' w3 ⟨rfl, hb3⟩
    obtain ⟨hB3, hz3, hc3, hf3⟩ := grow4 (w := w) (by go_grown) hb3
    go_wp2_with fail
    refine (U2.out _).mono ?_
    rintro e' w4 ⟨rfl, hb4⟩
    obtain ⟨hB4, hz4, hc4, hf4⟩ := grow4 (w := w) (by go_grown) hb4
    go_wp2_with fail
    refine (fine_any _ (HT.out.below (by go_grown : Below w.heap.size w _) hz)).mono ?_
    rintro e' w5 ⟨rfl, hb5⟩
    have hB5 := stepB (w := w) (by go_grown) hb5
    go_wp2
    go_returns
    exact ⟨rfl, hB5⟩
end Go.Proofs.YtfcjdmpfoogljaaDoor
