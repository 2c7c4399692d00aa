/-
  TurfNumbers: whatever the numbers, the law returns true (its walk).
-/
import Derived.Test.YtnopclidkikclaaDoorFine
import Derived.Test.YtnopclidkikclaaDoorRefB
set_option linter.unusedVariables false
set_option linter.unusedSimpArgs false
namespace Go.Proofs.YtnopclidkikclaaDoor
open Go.ChangeShapes Go.WideShapes Go.ChangeAt Go.RowKit

/-- Divide at both sides. -/
theorem divide_both (n d : Int) : ∃ x y e : Int, (∀ w : World, Calls Tryd.prog 13 #[.int .i64 n, .int .i64 d] w fun e' w' => e' = .returned (.tuple #[.agg #[.int .i64 x, .int .i64 y], .int .i64 e]) ∧ Below w.heap.size w w') ∧
    (∀ w : World, Calls Tryd.prog 14 #[.int .i64 n, .int .i64 d] w fun e' w' => e' = .returned (.tuple #[.agg #[.int .i64 x, .int .i64 y], .int .i64 e]) ∧ Below w.heap.size w w') := by
  by_cases h : n < -1152921504606846976 ∨ 1152921504606846976 < n ∨ d < 1 ∨ 1152921504606846976 < d
  · exact ⟨0, 0, 3, fun w => divide_bad n d w h, fun w => rDivide_bad n d w h⟩
  · exact ⟨_, _, 0, fun w => divide_ok n d w (by omega) (by omega) (by omega) (by omega), fun w => rDivide_ok n d w (by omega) (by omega) (by omega) (by omega)⟩
theorem root_both (n : Int) : ∃ x e : Int, (∀ w : World, Calls Tryd.prog 15 #[.int .i64 n] w fun e' w' => e' = .returned (.tuple #[.int .i64 x, .int .i64 e]) ∧ Below w.heap.size w w') ∧
    (∀ w : World, Calls Tryd.prog 16 #[.int .i64 n] w fun e' w' => e' = .returned (.tuple #[.int .i64 x, .int .i64 e]) ∧ Below w.heap.size w w') := by
  by_cases h : n < 0 ∨ 4611686018427387904 < n
  · exact ⟨0, 3, fun w => Root_bad n w h, fun w => rRoot_bad n w h⟩
  · obtain ⟨r, hr⟩ := M.root_ex n (by omega)
    exact ⟨r, 0, fun w => Root_ok n r w (by omega) (by omega) hr, fun w => rRoot_ok n r w (by omega) (by omega) hr⟩
theorem wide_both (a b c d : Int) : ∃ x e : Int, (∀ w : World, Calls Tryd.prog 17 #[.int .i64 a, .int .i64 b, .int .i64 c, .int .i64 d] w fun e' w' => e' = .returned (.tuple #[.int .i64 x, .int .i64 e]) ∧ Below w.heap.size w w') ∧
    (∀ w : World, Calls Tryd.prog 18 #[.int .i64 a, .int .i64 b, .int .i64 c, .int .i64 d] w fun e' w' => e' = .returned (.tuple #[.int .i64 x, .int .i64 e]) ∧ Below w.heap.size w w') := by
  by_cases h : wideIn a b c d
  · exact ⟨_, 0, fun w => Wide_ok a b c d w h, fun w => rWide_ok a b c d w h⟩
  · exact ⟨0, 3, fun w => Wide_bad a b c d w h, fun w => rWide_bad a b c d w h⟩

set_option maxHeartbeats 2000000 in
theorem numbers_walk (a b c d : Int) (w : World) (ht : Tab w) (a1 : -9223372036854775808 ≤ a) (a2 : a ≤ 9223372036854775807) (b1 : -9223372036854775808 ≤ b) (b2 : b ≤ 9223372036854775807) (c1 : -9223372036854775808 ≤ c) (c2 : c ≤ 9223372036854775807) (d1 : -9223372036854775808 ≤ d) (d2 : d ≤ 9223372036854775807) :
    Calls Tryd.prog 3 #[.int .i64 a, .int .i64 b, .int .i64 c, .int .i64 d] w fun e w' => e = .returned (.bool true) ∧ Below w.heap.size w w' := by
  have hz := ht.size
  have HT := Lib.hid ht
  clear ht
  obtain ⟨x, y, e, p1, p2⟩ := divide_both a b
  obtain ⟨n, f, q1, q2⟩ := root_both a
  obtain ⟨u, g, r1, r2⟩ := wide_both a b c d
  have P1 := Lib.hid p1
  have P2 := Lib.hid p2
  have Q1 := Lib.hid q1
  have Q2 := Lib.hid q2
  have R1 := Lib.hid r1
  have R2 := Lib.hid r2
  clear p1 p2 q1 q2 r1 r2 a1 a2 b1 b2 c1 c2 d1 d2
  go_enter Tryd.func3, Tryd.ntmps3
  go_wp2_with (first | (go_at_call 13; refine (P1.out _).mono ?_; rintro e w1 ⟨rfl, hb1⟩; obtain ⟨hB1, hz1, hc1, hf1⟩ := grow4 (w := w) (by go_grown) hb1; (try simp only [World.size_alloc, World.size_setCell, World.size_drew] at hz1); (try have hy1 := Nat.lt_of_succ_le hz1); (try have hx1 := Nat.lt_of_succ_lt hy1); (try have hw1 := Nat.lt_of_succ_lt hx1); (try have hv1 := Nat.lt_of_succ_lt hw1)) | (go_at_call 14; refine (P2.out _).mono ?_; rintro e w2 ⟨rfl, hb2⟩; obtain ⟨hB2, hz2, hc2, hf2⟩ := grow4 (w := w) (by go_grown) hb2; (try simp only [World.size_alloc, World.size_setCell, World.size_drew] at hz2); (try have hy2 := Nat.lt_of_succ_le hz2); (try have hx2 := Nat.lt_of_succ_lt hy2); (try have hw2 := Nat.lt_of_succ_lt hx2); (try have hv2 := Nat.lt_of_succ_lt hw2); have l1_2 : w1.heap.size < w2.heap.size := (by omega); have m1_2 : w1.heap.size < w2.heap.size + 1 := (by omega); have o1_2 : w1.heap.size ≤ w2.heap.size := (by omega)) | (go_at_call 15; refine (Q1.out _).mono ?_; rintro e w3 ⟨rfl, hb3⟩; obtain ⟨hB3, hz3, hc3, hf3⟩ := grow4 (w := w) (by go_grown) hb3; (try simp only [World.size_alloc, World.size_setCell, World.size_drew] at hz3); (try have hy3 := Nat.lt_of_succ_le hz3); (try have hx3 := Nat.lt_of_succ_lt hy3); (try have hw3 := Nat.lt_of_succ_lt hx3); (try have hv3 := Nat.lt_of_succ_lt hw3); have l1_3 : w1.heap.size < w3.heap.size := (by omega); have m1_3 : w1.heap.size < w3.heap.size + 1 := (by omega); have o1_3 : w1.heap.size ≤ w3.heap.size := (by omega); have l2_3 : w2.heap.size < w3.heap.size := (by omega); have m2_3 : w2.heap.size < w3.heap.size + 1 := (by omega); have o2_3 : w2.heap.size ≤ w3.heap.size := (by omega)) | (go_at_call 16; refine (Q2.out _).mono ?_; rintro e w4 ⟨rfl, hb4⟩; obtain ⟨hB4, hz4, hc4, hf4⟩ := grow4 (w := w) (by go_grown) hb4; (try simp only [World.size_alloc, World.size_setCell, World.size_drew] at hz4); (try have hy4 := Nat.lt_of_succ_le hz4); (try have hx4 := Nat.lt_of_succ_lt hy4); (try have hw4 := Nat.lt_of_succ_lt hx4); (try have hv4 := Nat.lt_of_succ_lt hw4); have l1_4 : w1.heap.size < w4.heap.size := (by omega); have m1_4 : w1.heap.size < w4.heap.size + 1 := (by omega); have o1_4 : w1.heap.size ≤ w4.heap.size := (by omega); have l2_4 : w2.heap.size < w4.heap.size := (by omega); have m2_4 : w2.heap.size < w4.heap.size + 1 := (by omega); have o2_4 : w2.heap.size ≤ w4.heap.size := (by omega)) | (go_at_call 17; refine (R1.out _).mono ?_; rintro e w5 ⟨rfl, hb5⟩; obtain ⟨hB5, hz5, hc5, hf5⟩ := grow4 (w := w) (by go_grown) hb5; (try simp only [World.size_alloc, World.size_setCell, World.size_drew] at hz5); (try have hy5 := Nat.lt_of_succ_le hz5); (try have hx5 := Nat.lt_of_succ_lt hy5); (try have hw5 := Nat.lt_of_succ_lt hx5); (try have hv5 := Nat.lt_of_succ_lt hw5); have l1_5 : w1.heap.size < w5.heap.size := (by omega); have m1_5 : w1.heap.size < w5.heap.size + 1 := (by omega); have o1_5 : w1.heap.size ≤ w5.heap.size := (by omega); have l2_5 : w2.heap.size < w5.heap.size := (by omega); have m2_5 : w2.heap.size < w5.heap.size + 1 := (by omega); have o2_5 : w2.heap.size ≤ w5.heap.size := (by omega)) | (go_at_call 18; refine (R2.out _).mono ?_; rintro e w6 ⟨rfl, hb6⟩; obtain ⟨hB6, hz6, hc6, hf6⟩ := grow4 (w := w) (by go_grown) hb6; (try simp only [World.size_alloc, World.size_setCell, World.size_drew] at hz6); (try have hy6 := Nat.lt_of_succ_le hz6); (try have hx6 := Nat.lt_of_succ_lt hy6); (try have hw6 := Nat.lt_of_succ_lt hx6); (try have hv6 := Nat.lt_of_succ_lt hw6); have l1_6 : w1.heap.size < w6.heap.size := (by omega); have m1_6 : w1.heap.size < w6.heap.size + 1 := (by omega); have o1_6 : w1.heap.size ≤ w6.heap.size := (by omega); have l2_6 : w2.heap.size < w6.heap.size := (by omega); have m2_6 : w2.heap.size < w6.heap.size + 1 := (by omega); have o2_6 : w2.heap.size ≤ w6.heap.size := (by omega)) | (go_at_call 19; refine (fine_any _ (HT.out.below (by assumption : Below w.heap.size w _) hz)).mono ?_; rintro e w7 ⟨rfl, hb7⟩; obtain ⟨hB7, hz7, hc7, hf7⟩ := grow4 (w := w) (by go_grown) hb7; (try simp only [World.size_alloc, World.size_setCell, World.size_drew] at hz7); (try have hy7 := Nat.lt_of_succ_le hz7); (try have hx7 := Nat.lt_of_succ_lt hy7); (try have hw7 := Nat.lt_of_succ_lt hx7); (try have hv7 := Nat.lt_of_succ_lt hw7)))
  go_returns
  exact ⟨rfl, hB7⟩
end Go.Proofs.YtnopclidkikclaaDoor
