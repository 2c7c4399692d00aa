/-
  Contracts of the reference of layer 1: wide products, roots, quotients.
-/
import Derived.Test.YtfcjdmpfoogljaaDoorRefA
import Derived.Test.YtfcjdmpfoogljaaDoorE
import Derived.BigQuiet
import Derived.Deep.QuietTactic
set_option linter.unusedVariables false
set_option linter.unusedSimpArgs false
namespace Go.Proofs.YtfcjdmpfoogljaaDoor
open Go.ChangeShapes Go.WideShapes Go.ChangeAt Go.RowKit

set_option maxHeartbeats 2000000 in
theorem rproduct_any (a b : Int) (w : World) (h1 : 0 ≤ a) (h2 : a ≤ 4611686018427387904) (h3 : 0 ≤ b) (h4 : b ≤ 4611686018427387904) :
    Calls Tryd.prog 75 #[.int .i64 a, .int .i64 b] w fun e w' => e = .returned (.agg #[.int .i64 (M.g0 (a * b)), .int .i64 (M.g1 (a * b)), .int .i64 (M.g2 (a * b)), .int .i64 (M.g3 (a * b))]) ∧ Below w.heap.size w w' := by
  have D := M.digits a b _ _ _ _ _ _ rfl rfl rfl rfl rfl rfl
  have HD := Lib.hid D
  clear D
  obtain ⟨l1, l2⟩ := M.mul_range (a % 2147483648) (b % 2147483648) 2147483647 2147483647 (by omega) (by omega) (by omega) (by omega)
  obtain ⟨m1, m2⟩ := M.mul_range (a / 2147483648) (b % 2147483648) 2147483648 2147483647 (by omega) (by omega) (by omega) (by omega)
  obtain ⟨n1, n2⟩ := M.mul_range (a % 2147483648) (b / 2147483648) 2147483647 2147483648 (by omega) (by omega) (by omega) (by omega)
  obtain ⟨t1, t2⟩ := M.mul_range (a / 2147483648) (b / 2147483648) 2147483648 2147483648 (by omega) (by omega) (by omega) (by omega)
  go_enter Tryd.func75, Tryd.ntmps75
  go_wp2
  go_returns
  refine ⟨?_, by go_grown⟩
  obtain ⟨d0, d1, d2, d3⟩ := HD.out
  rw [← d0, ← d1, ← d2, ← d3]

theorem dig_lt0 {x y : Int} (h : M.g0 x < M.g0 y) : x < y := by
  have a := M.gsum x; have b := M.gsum y; have c := M.g_bd x; have d := M.g_bd y; omega
theorem dig_lt1 {x y : Int} (e0 : M.g0 x = M.g0 y) (h : M.g1 x < M.g1 y) : x < y := by
  have a := M.gsum x; have b := M.gsum y; have c := M.g_bd x; have d := M.g_bd y; omega
theorem dig_lt2 {x y : Int} (e0 : M.g0 x = M.g0 y) (e1 : M.g1 x = M.g1 y) (h : M.g2 x < M.g2 y) : x < y := by
  have a := M.gsum x; have b := M.gsum y; have c := M.g_bd x; have d := M.g_bd y; omega
theorem dig_lt3 {x y : Int} (e0 : M.g0 x = M.g0 y) (e1 : M.g1 x = M.g1 y) (e2 : M.g2 x = M.g2 y) (h : M.g3 x < M.g3 y) : x < y := by
  have a := M.gsum x; have b := M.gsum y; have c := M.g_bd x; have d := M.g_bd y; omega
theorem dig_eq {x y : Int} (e0 : M.g0 x = M.g0 y) (e1 : M.g1 x = M.g1 y) (e2 : M.g2 x = M.g2 y) (e3 : M.g3 x = M.g3 y) : x = y := by
  have a := M.gsum x; have b := M.gsum y; omega

set_option maxRecDepth 100000 in
set_option maxHeartbeats 2000000 in
theorem less_lt0 (a b c d : Int) (w : World) (ha : 0 ≤ a ∧ a ≤ 4611686018427387904) (hb : 0 ≤ b ∧ b ≤ 4611686018427387904) (hc : 0 ≤ c ∧ c ≤ 4611686018427387904) (hd : 0 ≤ d ∧ d ≤ 4611686018427387904)  (h : M.g0 (a * b) < M.g0 (c * d)) :
    Calls Tryd.prog 52 #[.int .i64 a, .int .i64 b, .int .i64 c, .int .i64 d] w fun e w' => e = .returned (.int .i64 (-1)) ∧ Below w.heap.size w w' := by
  obtain ⟨a1, a2⟩ := ha
  obtain ⟨b1, b2⟩ := hb
  obtain ⟨c1, c2⟩ := hc
  obtain ⟨d1, d2⟩ := hd
  go_enter Tryd.func52, Tryd.ntmps52
  go_wp2_with (go_at_call 75; refine (rproduct_any _ _ _ (by omega) (by omega) (by omega) (by omega)).mono ?_; rintro e w1 ⟨rfl, hb1⟩; obtain ⟨hB1, hz1, hc1, hf1⟩ := grow4 (w := w) (by go_grown) hb1; (try simp only [World.size_alloc, World.size_setCell, World.size_drew] at hz1); (try have hy1 := Nat.lt_of_succ_le hz1); (try have hx1 := Nat.lt_of_succ_lt hy1); (try have hw1 := Nat.lt_of_succ_lt hx1); (try have hv1 := Nat.lt_of_succ_lt hw1); (try have ha1 : w.heap.size < w1.heap.size := (by omega)); (try have hi1 : w.heap.size + 1 < w1.heap.size := (by omega)); (try have hj1 : w.heap.size + 1 + 1 < w1.heap.size := (by omega)); (try have hk1 : w.heap.size + 1 + 1 + 1 < w1.heap.size := (by omega)); (try have hl1 : w.heap.size + 1 + 1 + 1 + 1 < w1.heap.size := (by omega)))
  refine wp_loop_rounds 1 ?_
  repeat any_goals (first | (rw [rounds_succ]; go_wp2) | (go_quiet (fail); go_wp2))
  go_returns
  refine ⟨rfl, ?_⟩
  repeat (refine below_drewN ?_ _)
  go_grown
set_option maxRecDepth 100000 in
set_option maxHeartbeats 2000000 in
theorem less_gt0 (a b c d : Int) (w : World) (ha : 0 ≤ a ∧ a ≤ 4611686018427387904) (hb : 0 ≤ b ∧ b ≤ 4611686018427387904) (hc : 0 ≤ c ∧ c ≤ 4611686018427387904) (hd : 0 ≤ d ∧ d ≤ 4611686018427387904)  (h : M.g0 (c * d) < M.g0 (a * b)) (h' : ¬ (M.g0 (a * b) < M.g0 (c * d))) :
    Calls Tryd.prog 52 #[.int .i64 a, .int .i64 b, .int .i64 c, .int .i64 d] w fun e w' => e = .returned (.int .i64 1) ∧ Below w.heap.size w w' := by
  obtain ⟨a1, a2⟩ := ha
  obtain ⟨b1, b2⟩ := hb
  obtain ⟨c1, c2⟩ := hc
  obtain ⟨d1, d2⟩ := hd
  go_enter Tryd.func52, Tryd.ntmps52
  go_wp2_with (go_at_call 75; refine (rproduct_any _ _ _ (by omega) (by omega) (by omega) (by omega)).mono ?_; rintro e w1 ⟨rfl, hb1⟩; obtain ⟨hB1, hz1, hc1, hf1⟩ := grow4 (w := w) (by go_grown) hb1; (try simp only [World.size_alloc, World.size_setCell, World.size_drew] at hz1); (try have hy1 := Nat.lt_of_succ_le hz1); (try have hx1 := Nat.lt_of_succ_lt hy1); (try have hw1 := Nat.lt_of_succ_lt hx1); (try have hv1 := Nat.lt_of_succ_lt hw1); (try have ha1 : w.heap.size < w1.heap.size := (by omega)); (try have hi1 : w.heap.size + 1 < w1.heap.size := (by omega)); (try have hj1 : w.heap.size + 1 + 1 < w1.heap.size := (by omega)); (try have hk1 : w.heap.size + 1 + 1 + 1 < w1.heap.size := (by omega)); (try have hl1 : w.heap.size + 1 + 1 + 1 + 1 < w1.heap.size := (by omega)))
  refine wp_loop_rounds 1 ?_
  repeat any_goals (first | (rw [rounds_succ]; go_wp2) | (go_quiet (fail); go_wp2))
  go_returns
  refine ⟨rfl, ?_⟩
  repeat (refine below_drewN ?_ _)
  go_grown
set_option maxRecDepth 100000 in
set_option maxHeartbeats 2000000 in
theorem less_lt1 (a b c d : Int) (w : World) (ha : 0 ≤ a ∧ a ≤ 4611686018427387904) (hb : 0 ≤ b ∧ b ≤ 4611686018427387904) (hc : 0 ≤ c ∧ c ≤ 4611686018427387904) (hd : 0 ≤ d ∧ d ≤ 4611686018427387904) (p0 : ¬ (M.g0 (a * b) < M.g0 (c * d))) (q0 : ¬ (M.g0 (c * d) < M.g0 (a * b))) (h : M.g1 (a * b) < M.g1 (c * d)) :
    Calls Tryd.prog 52 #[.int .i64 a, .int .i64 b, .int .i64 c, .int .i64 d] w fun e w' => e = .returned (.int .i64 (-1)) ∧ Below w.heap.size w w' := by
  obtain ⟨a1, a2⟩ := ha
  obtain ⟨b1, b2⟩ := hb
  obtain ⟨c1, c2⟩ := hc
  obtain ⟨d1, d2⟩ := hd
  go_enter Tryd.func52, Tryd.ntmps52
  go_wp2_with (go_at_call 75; refine (rproduct_any _ _ _ (by omega) (by omega) (by omega) (by omega)).mono ?_; rintro e w1 ⟨rfl, hb1⟩; obtain ⟨hB1, hz1, hc1, hf1⟩ := grow4 (w := w) (by go_grown) hb1; (try simp only [World.size_alloc, World.size_setCell, World.size_drew] at hz1); (try have hy1 := Nat.lt_of_succ_le hz1); (try have hx1 := Nat.lt_of_succ_lt hy1); (try have hw1 := Nat.lt_of_succ_lt hx1); (try have hv1 := Nat.lt_of_succ_lt hw1); (try have ha1 : w.heap.size < w1.heap.size := (by omega)); (try have hi1 : w.heap.size + 1 < w1.heap.size := (by omega)); (try have hj1 : w.heap.size + 1 + 1 < w1.heap.size := (by omega)); (try have hk1 : w.heap.size + 1 + 1 + 1 < w1.heap.size := (by omega)); (try have hl1 : w.heap.size + 1 + 1 + 1 + 1 < w1.heap.size := (by omega)))
  refine wp_loop_rounds 2 ?_
  repeat any_goals (first | (rw [rounds_succ]; go_wp2) | (go_quiet (fail); go_wp2))
  go_returns
  refine ⟨rfl, ?_⟩
  repeat (refine below_drewN ?_ _)
  go_grown
set_option maxRecDepth 100000 in
set_option maxHeartbeats 2000000 in
theorem less_gt1 (a b c d : Int) (w : World) (ha : 0 ≤ a ∧ a ≤ 4611686018427387904) (hb : 0 ≤ b ∧ b ≤ 4611686018427387904) (hc : 0 ≤ c ∧ c ≤ 4611686018427387904) (hd : 0 ≤ d ∧ d ≤ 4611686018427387904) (p0 : ¬ (M.g0 (a * b) < M.g0 (c * d))) (q0 : ¬ (M.g0 (c * d) < M.g0 (a * b))) (h : M.g1 (c * d) < M.g1 (a * b)) (h' : ¬ (M.g1 (a * b) < M.g1 (c * d))) :
    Calls Tryd.prog 52 #[.int .i64 a, .int .i64 b, .int .i64 c, .int .i64 d] w fun e w' => e = .returned (.int .i64 1) ∧ Below w.heap.size w w' := by
  obtain ⟨a1, a2⟩ := ha
  obtain ⟨b1, b2⟩ := hb
  obtain ⟨c1, c2⟩ := hc
  obtain ⟨d1, d2⟩ := hd
  go_enter Tryd.func52, Tryd.ntmps52
  go_wp2_with (go_at_call 75; refine (rproduct_any _ _ _ (by omega) (by omega) (by omega) (by omega)).mono ?_; rintro e w1 ⟨rfl, hb1⟩; obtain ⟨hB1, hz1, hc1, hf1⟩ := grow4 (w := w) (by go_grown) hb1; (try simp only [World.size_alloc, World.size_setCell, World.size_drew] at hz1); (try have hy1 := Nat.lt_of_succ_le hz1); (try have hx1 := Nat.lt_of_succ_lt hy1); (try have hw1 := Nat.lt_of_succ_lt hx1); (try have hv1 := Nat.lt_of_succ_lt hw1); (try have ha1 : w.heap.size < w1.heap.size := (by omega)); (try have hi1 : w.heap.size + 1 < w1.heap.size := (by omega)); (try have hj1 : w.heap.size + 1 + 1 < w1.heap.size := (by omega)); (try have hk1 : w.heap.size + 1 + 1 + 1 < w1.heap.size := (by omega)); (try have hl1 : w.heap.size + 1 + 1 + 1 + 1 < w1.heap.size := (by omega)))
  refine wp_loop_rounds 2 ?_
  repeat any_goals (first | (rw [rounds_succ]; go_wp2) | (go_quiet (fail); go_wp2))
  go_returns
  refine ⟨rfl, ?_⟩
  repeat (refine below_drewN ?_ _)
  go_grown
set_option maxRecDepth 100000 in
set_option maxHeartbeats 2000000 in
theorem less_lt2 (a b c d : Int) (w : World) (ha : 0 ≤ a ∧ a ≤ 4611686018427387904) (hb : 0 ≤ b ∧ b ≤ 4611686018427387904) (hc : 0 ≤ c ∧ c ≤ 4611686018427387904) (hd : 0 ≤ d ∧ d ≤ 4611686018427387904) (p0 : ¬ (M.g0 (a * b) < M.g0 (c * d))) (q0 : ¬ (M.g0 (c * d) < M.g0 (a * b))) (p1 : ¬ (M.g1 (a * b) < M.g1 (c * d))) (q1 : ¬ (M.g1 (c * d) < M.g1 (a * b))) (h : M.g2 (a * b) < M.g2 (c * d)) :
    Calls Tryd.prog 52 #[.int .i64 a, .int .i64 b, .int .i64 c, .int .i64 d] w fun e w' => e = .returned (.int .i64 (-1)) ∧ Below w.heap.size w w' := by
  obtain ⟨a1, a2⟩ := ha
  obtain ⟨b1, b2⟩ := hb
  obtain ⟨c1, c2⟩ := hc
  obtain ⟨d1, d2⟩ := hd
  go_enter Tryd.func52, Tryd.ntmps52
  go_wp2_with (go_at_call 75; refine (rproduct_any _ _ _ (by omega) (by omega) (by omega) (by omega)).mono ?_; rintro e w1 ⟨rfl, hb1⟩; obtain ⟨hB1, hz1, hc1, hf1⟩ := grow4 (w := w) (by go_grown) hb1; (try simp only [World.size_alloc, World.size_setCell, World.size_drew] at hz1); (try have hy1 := Nat.lt_of_succ_le hz1); (try have hx1 := Nat.lt_of_succ_lt hy1); (try have hw1 := Nat.lt_of_succ_lt hx1); (try have hv1 := Nat.lt_of_succ_lt hw1); (try have ha1 : w.heap.size < w1.heap.size := (by omega)); (try have hi1 : w.heap.size + 1 < w1.heap.size := (by omega)); (try have hj1 : w.heap.size + 1 + 1 < w1.heap.size := (by omega)); (try have hk1 : w.heap.size + 1 + 1 + 1 < w1.heap.size := (by omega)); (try have hl1 : w.heap.size + 1 + 1 + 1 + 1 < w1.heap.size := (by omega)))
  refine wp_loop_rounds 3 ?_
  repeat any_goals (first | (rw [rounds_succ]; go_wp2) | (go_quiet (fail); go_wp2))
  go_returns
  refine ⟨rfl, ?_⟩
  repeat (refine below_drewN ?_ _)
  go_grown
set_option maxRecDepth 100000 in
set_option maxHeartbeats 2000000 in
theorem less_gt2 (a b c d : Int) (w : World) (ha : 0 ≤ a ∧ a ≤ 4611686018427387904) (hb : 0 ≤ b ∧ b ≤ 4611686018427387904) (hc : 0 ≤ c ∧ c ≤ 4611686018427387904) (hd : 0 ≤ d ∧ d ≤ 4611686018427387904) (p0 : ¬ (M.g0 (a * b) < M.g0 (c * d))) (q0 : ¬ (M.g0 (c * d) < M.g0 (a * b))) (p1 : ¬ (M.g1 (a * b) < M.g1 (c * d))) (q1 : ¬ (M.g1 (c * d) < M.g1 (a * b))) (h : M.g2 (c * d) < M.g2 (a * b)) (h' : ¬ (M.g2 (a * b) < M.g2 (c * d))) :
    Calls Tryd.prog 52 #[.int .i64 a, .int .i64 b, .int .i64 c, .int .i64 d] w fun e w' => e = .returned (.int .i64 1) ∧ Below w.heap.size w w' := by
  obtain ⟨a1, a2⟩ := ha
  obtain ⟨b1, b2⟩ := hb
  obtain ⟨c1, c2⟩ := hc
  obtain ⟨d1, d2⟩ := hd
  go_enter Tryd.func52, Tryd.ntmps52
  go_wp2_with (go_at_call 75; refine (rproduct_any _ _ _ (by omega) (by omega) (by omega) (by omega)).mono ?_; rintro e w1 ⟨rfl, hb1⟩; obtain ⟨hB1, hz1, hc1, hf1⟩ := grow4 (w := w) (by go_grown) hb1; (try simp only [World.size_alloc, World.size_setCell, World.size_drew] at hz1); (try have hy1 := Nat.lt_of_succ_le hz1); (try have hx1 := Nat.lt_of_succ_lt hy1); (try have hw1 := Nat.lt_of_succ_lt hx1); (try have hv1 := Nat.lt_of_succ_lt hw1); (try have ha1 : w.heap.size < w1.heap.size := (by omega)); (try have hi1 : w.heap.size + 1 < w1.heap.size := (by omega)); (try have hj1 : w.heap.size + 1 + 1 < w1.heap.size := (by omega)); (try have hk1 : w.heap.size + 1 + 1 + 1 < w1.heap.size := (by omega)); (try have hl1 : w.heap.size + 1 + 1 + 1 + 1 < w1.heap.size := (by omega)))
  refine wp_loop_rounds 3 ?_
  repeat any_goals (first | (rw [rounds_succ]; go_wp2) | (go_quiet (fail); go_wp2))
  go_returns
  refine ⟨rfl, ?_⟩
  repeat (refine below_drewN ?_ _)
  go_grown
set_option maxRecDepth 100000 in
set_option maxHeartbeats 2000000 in
theorem less_lt3 (a b c d : Int) (w : World) (ha : 0 ≤ a ∧ a ≤ 4611686018427387904) (hb : 0 ≤ b ∧ b ≤ 4611686018427387904) (hc : 0 ≤ c ∧ c ≤ 4611686018427387904) (hd : 0 ≤ d ∧ d ≤ 4611686018427387904) (p0 : ¬ (M.g0 (a * b) < M.g0 (c * d))) (q0 : ¬ (M.g0 (c * d) < M.g0 (a * b))) (p1 : ¬ (M.g1 (a * b) < M.g1 (c * d))) (q1 : ¬ (M.g1 (c * d) < M.g1 (a * b))) (p2 : ¬ (M.g2 (a * b) < M.g2 (c * d))) (q2 : ¬ (M.g2 (c * d) < M.g2 (a * b))) (h : M.g3 (a * b) < M.g3 (c * d)) :
    Calls Tryd.prog 52 #[.int .i64 a, .int .i64 b, .int .i64 c, .int .i64 d] w fun e w' => e = .returned (.int .i64 (-1)) ∧ Below w.heap.size w w' := by
  obtain ⟨a1, a2⟩ := ha
  obtain ⟨b1, b2⟩ := hb
  obtain ⟨c1, c2⟩ := hc
  obtain ⟨d1, d2⟩ := hd
  go_enter Tryd.func52, Tryd.ntmps52
  go_wp2_with (go_at_call 75; refine (rproduct_any _ _ _ (by omega) (by omega) (by omega) (by omega)).mono ?_; rintro e w1 ⟨rfl, hb1⟩; obtain ⟨hB1, hz1, hc1, hf1⟩ := grow4 (w := w) (by go_grown) hb1; (try simp only [World.size_alloc, World.size_setCell, World.size_drew] at hz1); (try have hy1 := Nat.lt_of_succ_le hz1); (try have hx1 := Nat.lt_of_succ_lt hy1); (try have hw1 := Nat.lt_of_succ_lt hx1); (try have hv1 := Nat.lt_of_succ_lt hw1); (try have ha1 : w.heap.size < w1.heap.size := (by omega)); (try have hi1 : w.heap.size + 1 < w1.heap.size := (by omega)); (try have hj1 : w.heap.size + 1 + 1 < w1.heap.size := (by omega)); (try have hk1 : w.heap.size + 1 + 1 + 1 < w1.heap.size := (by omega)); (try have hl1 : w.heap.size + 1 + 1 + 1 + 1 < w1.heap.size := (by omega)))
  refine wp_loop_rounds 4 ?_
  repeat any_goals (first | (rw [rounds_succ]; go_wp2) | (go_quiet (fail); go_wp2))
  go_returns
  refine ⟨rfl, ?_⟩
  repeat (refine below_drewN ?_ _)
  go_grown
set_option maxRecDepth 100000 in
set_option maxHeartbeats 2000000 in
theorem less_gt3 (a b c d : Int) (w : World) (ha : 0 ≤ a ∧ a ≤ 4611686018427387904) (hb : 0 ≤ b ∧ b ≤ 4611686018427387904) (hc : 0 ≤ c ∧ c ≤ 4611686018427387904) (hd : 0 ≤ d ∧ d ≤ 4611686018427387904) (p0 : ¬ (M.g0 (a * b) < M.g0 (c * d))) (q0 : ¬ (M.g0 (c * d) < M.g0 (a * b))) (p1 : ¬ (M.g1 (a * b) < M.g1 (c * d))) (q1 : ¬ (M.g1 (c * d) < M.g1 (a * b))) (p2 : ¬ (M.g2 (a * b) < M.g2 (c * d))) (q2 : ¬ (M.g2 (c * d) < M.g2 (a * b))) (h : M.g3 (c * d) < M.g3 (a * b)) (h' : ¬ (M.g3 (a * b) < M.g3 (c * d))) :
    Calls Tryd.prog 52 #[.int .i64 a, .int .i64 b, .int .i64 c, .int .i64 d] w fun e w' => e = .returned (.int .i64 1) ∧ Below w.heap.size w w' := by
  obtain ⟨a1, a2⟩ := ha
  obtain ⟨b1, b2⟩ := hb
  obtain ⟨c1, c2⟩ := hc
  obtain ⟨d1, d2⟩ := hd
  go_enter Tryd.func52, Tryd.ntmps52
  go_wp2_with (go_at_call 75; refine (rproduct_any _ _ _ (by omega) (by omega) (by omega) (by omega)).mono ?_; rintro e w1 ⟨rfl, hb1⟩; obtain ⟨hB1, hz1, hc1, hf1⟩ := grow4 (w := w) (by go_grown) hb1; (try simp only [World.size_alloc, World.size_setCell, World.size_drew] at hz1); (try have hy1 := Nat.lt_of_succ_le hz1); (try have hx1 := Nat.lt_of_succ_lt hy1); (try have hw1 := Nat.lt_of_succ_lt hx1); (try have hv1 := Nat.lt_of_succ_lt hw1); (try have ha1 : w.heap.size < w1.heap.size := (by omega)); (try have hi1 : w.heap.size + 1 < w1.heap.size := (by omega)); (try have hj1 : w.heap.size + 1 + 1 < w1.heap.size := (by omega)); (try have hk1 : w.heap.size + 1 + 1 + 1 < w1.heap.size := (by omega)); (try have hl1 : w.heap.size + 1 + 1 + 1 + 1 < w1.heap.size := (by omega)))
  refine wp_loop_rounds 4 ?_
  repeat any_goals (first | (rw [rounds_succ]; go_wp2) | (go_quiet (fail); go_wp2))
  go_returns
  refine ⟨rfl, ?_⟩
  repeat (refine below_drewN ?_ _)
  go_grown
set_option maxRecDepth 100000 in
set_option maxHeartbeats 2000000 in
theorem less_eq (a b c d : Int) (w : World) (ha : 0 ≤ a ∧ a ≤ 4611686018427387904) (hb : 0 ≤ b ∧ b ≤ 4611686018427387904) (hc : 0 ≤ c ∧ c ≤ 4611686018427387904) (hd : 0 ≤ d ∧ d ≤ 4611686018427387904) (p0 : ¬ (M.g0 (a * b) < M.g0 (c * d))) (q0 : ¬ (M.g0 (c * d) < M.g0 (a * b))) (p1 : ¬ (M.g1 (a * b) < M.g1 (c * d))) (q1 : ¬ (M.g1 (c * d) < M.g1 (a * b))) (p2 : ¬ (M.g2 (a * b) < M.g2 (c * d))) (q2 : ¬ (M.g2 (c * d) < M.g2 (a * b))) (p3 : ¬ (M.g3 (a * b) < M.g3 (c * d))) (q3 : ¬ (M.g3 (c * d) < M.g3 (a * b))) :
    Calls Tryd.prog 52 #[.int .i64 a, .int .i64 b, .int .i64 c, .int .i64 d] w fun e w' => e = .returned (.int .i64 0) ∧ Below w.heap.size w w' := by
  obtain ⟨a1, a2⟩ := ha
  obtain ⟨b1, b2⟩ := hb
  obtain ⟨c1, c2⟩ := hc
  obtain ⟨d1, d2⟩ := hd
  go_enter Tryd.func52, Tryd.ntmps52
  go_wp2_with (go_at_call 75; refine (rproduct_any _ _ _ (by omega) (by omega) (by omega) (by omega)).mono ?_; rintro e w1 ⟨rfl, hb1⟩; obtain ⟨hB1, hz1, hc1, hf1⟩ := grow4 (w := w) (by go_grown) hb1; (try simp only [World.size_alloc, World.size_setCell, World.size_drew] at hz1); (try have hy1 := Nat.lt_of_succ_le hz1); (try have hx1 := Nat.lt_of_succ_lt hy1); (try have hw1 := Nat.lt_of_succ_lt hx1); (try have hv1 := Nat.lt_of_succ_lt hw1); (try have ha1 : w.heap.size < w1.heap.size := (by omega)); (try have hi1 : w.heap.size + 1 < w1.heap.size := (by omega)); (try have hj1 : w.heap.size + 1 + 1 < w1.heap.size := (by omega)); (try have hk1 : w.heap.size + 1 + 1 + 1 < w1.heap.size := (by omega)); (try have hl1 : w.heap.size + 1 + 1 + 1 + 1 < w1.heap.size := (by omega)))
  refine wp_loop_rounds 5 ?_
  repeat any_goals (first | (rw [rounds_succ]; go_wp2) | (go_quiet (fail); go_wp2))
  go_returns
  refine ⟨rfl, ?_⟩
  repeat (refine below_drewN ?_ _)
  go_grown

theorem less_any (a b c d : Int) (w : World) (ha : 0 ≤ a ∧ a ≤ 4611686018427387904) (hb : 0 ≤ b ∧ b ≤ 4611686018427387904) (hc : 0 ≤ c ∧ c ≤ 4611686018427387904) (hd : 0 ≤ d ∧ d ≤ 4611686018427387904) :
    Calls Tryd.prog 52 #[.int .i64 a, .int .i64 b, .int .i64 c, .int .i64 d] w fun e w' => e = .returned (.int .i64 (M.cmp (a * b) (c * d))) ∧ Below w.heap.size w w' := by
  rcases Int.lt_trichotomy (M.g0 (a * b)) (M.g0 (c * d)) with h0 | h0 | h0
  · rw [M.cmp_lt (dig_lt0 h0)]
    exact less_lt0 a b c d w ha hb hc hd h0
  · rcases Int.lt_trichotomy (M.g1 (a * b)) (M.g1 (c * d)) with h1 | h1 | h1
    · rw [M.cmp_lt (dig_lt1 h0 h1)]
      exact less_lt1 a b c d w ha hb hc hd (by omega) (by omega) h1
    · rcases Int.lt_trichotomy (M.g2 (a * b)) (M.g2 (c * d)) with h2 | h2 | h2
      · rw [M.cmp_lt (dig_lt2 h0 h1 h2)]
        exact less_lt2 a b c d w ha hb hc hd (by omega) (by omega) (by omega) (by omega) h2
      · rcases Int.lt_trichotomy (M.g3 (a * b)) (M.g3 (c * d)) with h3 | h3 | h3
        · rw [M.cmp_lt (dig_lt3 h0 h1 h2 h3)]
          exact less_lt3 a b c d w ha hb hc hd (by omega) (by omega) (by omega) (by omega) (by omega) (by omega) h3
        · rw [dig_eq h0 h1 h2 h3, M.cmp_eq]
          exact less_eq a b c d w ha hb hc hd (by omega) (by omega) (by omega) (by omega) (by omega) (by omega) (by omega) (by omega)
        · rw [M.cmp_gt (dig_lt3 h0.symm h1.symm h2.symm h3)]
          exact less_gt3 a b c d w ha hb hc hd (by omega) (by omega) (by omega) (by omega) (by omega) (by omega) h3 (by omega)
      · rw [M.cmp_gt (dig_lt2 h0.symm h1.symm h2)]
        exact less_gt2 a b c d w ha hb hc hd (by omega) (by omega) (by omega) (by omega) h2 (by omega)
    · rw [M.cmp_gt (dig_lt1 h0.symm h1)]
      exact less_gt1 a b c d w ha hb hc hd (by omega) (by omega) h1 (by omega)
  · rw [M.cmp_gt (dig_lt0 h0)]
    exact less_gt0 a b c d w ha hb hc hd h0 (by omega)

theorem rDivide_ok (n d : Int) (w : World) (h1 : -1152921504606846976 ≤ n) (h2 : n ≤ 1152921504606846976) (h3 : 1 ≤ d) (h4 : d ≤ 1152921504606846976) :
    Calls Tryd.prog 14 #[.int .i64 n, .int .i64 d] w fun e w' => e = .returned (.tuple #[.agg #[.int .i64 (M.whole n d), .int .i64 (M.rest n d)], .int .i64 0]) ∧ Below w.heap.size w w' := by
  have k1 := M.among_yes h1 h2
  have k2 := M.among_yes h3 h4
  go_enter Tryd.func14, Tryd.ntmps14
  go_wp2_with (first | (go_at_call 46; refine (among_any _ _ _ _).mono ?_; rintro e w' ⟨rfl, rfl⟩) | (go_at_call 47; refine (parted_any _ _ _ h1 h2 h3 h4).mono ?_; rintro e w1 ⟨rfl, hb1⟩; obtain ⟨hB1, hz1, hc1, hf1⟩ := grow4 (w := w) (by go_grown) hb1; (try simp only [World.size_alloc, World.size_setCell, World.size_drew] at hz1); (try have hy1 := Nat.lt_of_succ_le hz1); (try have hx1 := Nat.lt_of_succ_lt hy1); (try have hw1 := Nat.lt_of_succ_lt hx1); (try have hv1 := Nat.lt_of_succ_lt hw1); (try have ha1 : w.heap.size < w1.heap.size := (by omega)); (try have hi1 : w.heap.size + 1 < w1.heap.size := (by omega)); (try have hj1 : w.heap.size + 1 + 1 < w1.heap.size := (by omega)); (try have hk1 : w.heap.size + 1 + 1 + 1 < w1.heap.size := (by omega)); (try have hl1 : w.heap.size + 1 + 1 + 1 + 1 < w1.heap.size := (by omega))))
  refine bodyPost_ret (v := .tuple #[.agg #[.int .i64 (M.whole n d), .int .i64 (M.rest n d)], .int .i64 0]) (by simp [results, Tryd.results14, go_sem, hc1]) rfl ⟨rfl, ?_⟩
  go_grown
theorem rDivide_bad (n d : Int) (w : World) (h : n < -1152921504606846976 ∨ 1152921504606846976 < n ∨ d < 1 ∨ 1152921504606846976 < d) :
    Calls Tryd.prog 14 #[.int .i64 n, .int .i64 d] w fun e w' => e = .returned (.tuple #[.agg #[.int .i64 0, .int .i64 0], .int .i64 3]) ∧ Below w.heap.size w w' := by
  by_cases hn : -1152921504606846976 ≤ n ∧ n ≤ 1152921504606846976
  · have k1 := M.among_yes hn.1 hn.2
    have k2 : M.among d 1 1152921504606846976 = false := M.among_no (by omega)
    clear h hn
    go_enter Tryd.func14, Tryd.ntmps14
    go_wp2_with (go_at_call 46; refine (among_any _ _ _ _).mono ?_; rintro e w' ⟨rfl, rfl⟩)
    go_returns
    exact ⟨rfl, by go_grown⟩
  · have k1 : M.among n (-1152921504606846976) 1152921504606846976 = false := M.among_no (by omega)
    clear h hn
    go_enter Tryd.func14, Tryd.ntmps14
    go_wp2_with (go_at_call 46; refine (among_any _ _ _ _).mono ?_; rintro e w' ⟨rfl, rfl⟩)
    go_returns
    exact ⟨rfl, by go_grown⟩
theorem rRoot_ok (n r : Int) (w : World) (h3 : 0 ≤ n) (h4 : n ≤ 4611686018427387904) (hr : M.IsRoot n r) :
    Calls Tryd.prog 16 #[.int .i64 n] w fun e w' => e = .returned (.tuple #[.int .i64 r, .int .i64 0]) ∧ Below w.heap.size w w' := by
  have k1 := M.among_yes h3 h4
  go_enter Tryd.func16, Tryd.ntmps16
  go_wp2_with (first | (go_at_call 46; refine (among_any _ _ _ _).mono ?_; rintro e w' ⟨rfl, rfl⟩) | (go_at_call 49; refine (sqrt_any n r _ h3 h4 hr).mono ?_; rintro e w' ⟨rfl, rfl⟩))
  go_returns
  exact ⟨rfl, by go_grown⟩
theorem rRoot_bad (n : Int) (w : World) (h : n < 0 ∨ 4611686018427387904 < n) :
    Calls Tryd.prog 16 #[.int .i64 n] w fun e w' => e = .returned (.tuple #[.int .i64 0, .int .i64 3]) ∧ Below w.heap.size w w' := by
  have k1 : M.among n 0 4611686018427387904 = false := M.among_no h
  clear h
  go_enter Tryd.func16, Tryd.ntmps16
  go_wp2_with (go_at_call 46; refine (among_any _ _ _ _).mono ?_; rintro e w' ⟨rfl, rfl⟩)
  go_returns
  exact ⟨rfl, by go_grown⟩

set_option maxRecDepth 100000 in
set_option maxHeartbeats 2000000 in
theorem rWide_ok (a b c d : Int) (w : World) (h : wideIn a b c d) :
    Calls Tryd.prog 18 #[.int .i64 a, .int .i64 b, .int .i64 c, .int .i64 d] w fun e w' => e = .returned (.tuple #[.int .i64 (M.cmp (a * b) (c * d)), .int .i64 0]) ∧ Below w.heap.size w w' := by
  obtain ⟨h1, h2, h3, h4⟩ := h
  have k1 := M.among_yes h1.1 h1.2
  have k2 := M.among_yes h2.1 h2.2
  have k3 := M.among_yes h3.1 h3.2
  have k4 := M.among_yes h4.1 h4.2
  have hl := fun W => less_any a b c d W h1 h2 h3 h4
  have HL := Lib.hid hl
  clear hl h1 h2 h3 h4
  go_enter Tryd.func18, Tryd.ntmps18
  go_wp2
  refine wp_loop_rounds 5 ?_
  repeat any_goals (rw [rounds_succ]; go_wp2_with (first | (go_at_call 46; refine (among_any _ _ _ _).mono ?_; rintro e w' ⟨rfl, rfl⟩) | (go_at_call 52; refine (HL.out _).mono ?_; rintro e w1 ⟨rfl, hb1⟩; obtain ⟨hB1, hz1, hc1, hf1⟩ := grow4 (w := w) (by go_grown) hb1; (try simp only [World.size_alloc, World.size_setCell, World.size_drew] at hz1); (try have hy1 := Nat.lt_of_succ_le hz1); (try have hx1 := Nat.lt_of_succ_lt hy1); (try have hw1 := Nat.lt_of_succ_lt hx1); (try have hv1 := Nat.lt_of_succ_lt hw1); (try have ha1 : w.heap.size < w1.heap.size := (by omega)); (try have hi1 : w.heap.size + 1 < w1.heap.size := (by omega)); (try have hj1 : w.heap.size + 1 + 1 < w1.heap.size := (by omega)); (try have hk1 : w.heap.size + 1 + 1 + 1 < w1.heap.size := (by omega)); (try have hl1 : w.heap.size + 1 + 1 + 1 + 1 < w1.heap.size := (by omega)))))
  go_returns
  exact ⟨rfl, hB1⟩
set_option maxRecDepth 100000 in
set_option maxHeartbeats 2000000 in
theorem rWide_bad (a b c d : Int) (w : World) (h : ¬ wideIn a b c d) :
    Calls Tryd.prog 18 #[.int .i64 a, .int .i64 b, .int .i64 c, .int .i64 d] w fun e w' => e = .returned (.tuple #[.int .i64 0, .int .i64 3]) ∧ Below w.heap.size w w' := by
  unfold wideIn at h
  by_cases h0 : 0 ≤ a ∧ a ≤ 4611686018427387904
  rotate_left
  · skip
    have k0 : M.among a 0 4611686018427387904 = false := M.among_no (by omega)
    clear h h0
    go_enter Tryd.func18, Tryd.ntmps18
    go_wp2
    refine wp_loop_rounds 1 ?_
    repeat any_goals (rw [rounds_succ]; go_wp2_with (go_at_call 46; refine (among_any _ _ _ _).mono ?_; rintro e w' ⟨rfl, rfl⟩))
    go_returns
    exact ⟨rfl, by go_grown⟩
  by_cases h1 : 0 ≤ b ∧ b ≤ 4611686018427387904
  rotate_left
  · skip
    have k0 := M.among_yes h0.1 h0.2
    have k1 : M.among b 0 4611686018427387904 = false := M.among_no (by omega)
    clear h h0 h1
    go_enter Tryd.func18, Tryd.ntmps18
    go_wp2
    refine wp_loop_rounds 2 ?_
    repeat any_goals (rw [rounds_succ]; go_wp2_with (go_at_call 46; refine (among_any _ _ _ _).mono ?_; rintro e w' ⟨rfl, rfl⟩))
    go_returns
    exact ⟨rfl, by go_grown⟩
  by_cases h2 : 0 ≤ c ∧ c ≤ 4611686018427387904
  rotate_left
  · skip
    have k0 := M.among_yes h0.1 h0.2
    have k1 := M.among_yes h1.1 h1.2
    have k2 : M.among c 0 4611686018427387904 = false := M.among_no (by omega)
    clear h h0 h1 h2
    go_enter Tryd.func18, Tryd.ntmps18
    go_wp2
    refine wp_loop_rounds 3 ?_
    repeat any_goals (rw [rounds_succ]; go_wp2_with (go_at_call 46; refine (among_any _ _ _ _).mono ?_; rintro e w' ⟨rfl, rfl⟩))
    go_returns
    exact ⟨rfl, by go_grown⟩
  have h3' : ¬ (0 ≤ d ∧ d ≤ 4611686018427387904) := fun k => h ⟨h0, h1, h2, k⟩
  · have h3 := h3'
    clear h3'
    have k0 := M.among_yes h0.1 h0.2
    have k1 := M.among_yes h1.1 h1.2
    have k2 := M.among_yes h2.1 h2.2
    have k3 : M.among d 0 4611686018427387904 = false := M.among_no (by omega)
    clear h h0 h1 h2 h3
    go_enter Tryd.func18, Tryd.ntmps18
    go_wp2
    refine wp_loop_rounds 4 ?_
    repeat any_goals (rw [rounds_succ]; go_wp2_with (go_at_call 46; refine (among_any _ _ _ _).mono ?_; rintro e w' ⟨rfl, rfl⟩))
    go_returns
    exact ⟨rfl, by go_grown⟩
end Go.Proofs.YtfcjdmpfoogljaaDoor
