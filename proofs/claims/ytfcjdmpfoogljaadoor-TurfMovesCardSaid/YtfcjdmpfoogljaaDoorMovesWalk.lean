/-
  TurfMoves: whatever the places, ways and numbers, the law returns true (its walk).
-/
import Derived.Test.YtfcjdmpfoogljaaDoorMove
import Derived.Test.YtfcjdmpfoogljaaDoorMoveR
import Derived.Test.YtfcjdmpfoogljaaDoorTowAll
import Derived.Test.YtfcjdmpfoogljaaDoorFine
set_option linter.unusedVariables false
set_option linter.unusedSimpArgs false
namespace Go.Proofs.YtfcjdmpfoogljaaDoor
open Go.ChangeShapes Go.WideShapes Go.ChangeAt Go.RowKit

theorem first_both (p0 p1 v0 v1 q0 q1 u0 u1 r n : Int) : ∃ k e : Int, Both 38 39 #[.agg #[.int .i64 p0, .int .i64 p1], .agg #[.int .i64 v0, .int .i64 v1], .agg #[.int .i64 q0, .int .i64 q1], .agg #[.int .i64 u0, .int .i64 u1], .int .i64 r, .int .i64 n] (.tuple #[.int .i64 k, .int .i64 e]) := by
  by_cases h : M.In p0 p1 ∧ M.In v0 v1 ∧ M.In q0 q1 ∧ M.In u0 u1
  · obtain ⟨h1, h2, h3, h4⟩ := h
    by_cases hr : r < 0 ∨ 131072 < r ∨ n < 1 ∨ 1024 < n
    · exact ⟨0, 3, fun w => First_range p0 p1 v0 v1 q0 q1 u0 u1 r n w h1 h2 h3 h4 hr, fun w => rFirst_range p0 p1 v0 v1 q0 q1 u0 u1 r n w h1 h2 h3 h4 hr⟩
    · obtain ⟨m, hm⟩ := M.first_ex (q0 - p0) (u0 - v0) (q1 - p1) (u1 - v1) r n (by omega)
      exact ⟨_, _, fun w => First_ok p0 p1 v0 v1 q0 q1 u0 u1 r n m w h1 h2 h3 h4 (by omega) (by omega) (by omega) (by omega) hm,
        fun w => rFirst_ok p0 p1 v0 v1 q0 q1 u0 u1 r n m w h1 h2 h3 h4 (by omega) (by omega) (by omega) (by omega) (hm.neg _ _ _ _ (by omega) (by omega) (by omega) (by omega))⟩
  · exact ⟨0, 2, fun w => First_bad p0 p1 v0 v1 q0 q1 u0 u1 r n w h, fun w => rFirst_bad p0 p1 v0 v1 q0 q1 u0 u1 r n w h⟩
set_option maxRecDepth 100000 in
set_option maxHeartbeats 4000000 in
theorem moves_walk (p0 p1 v0 v1 q0 q1 u0 u1 r n l : Int) (w : World) (ht : Tab w) :
    Calls Tryd.prog 6 #[.agg #[.int .i64 p0, .int .i64 p1], .agg #[.int .i64 v0, .int .i64 v1], .agg #[.int .i64 q0, .int .i64 q1], .agg #[.int .i64 u0, .int .i64 u1], .int .i64 r, .int .i64 n, .int .i64 l] w fun e w' => e = .returned (.bool true) ∧ Below w.heap.size w w' := by
  have hz := ht.size
  have HT := Lib.hid ht
  clear ht
  obtain ⟨k, e, f⟩ := first_both p0 p1 v0 v1 q0 q1 u0 u1 r n
  obtain ⟨x, y, g, t⟩ := towards_both p0 p1 q0 q1 l
  have F := Lib.hid f
  have T := Lib.hid t
  clear f t
  go_enter Tryd.func6, Tryd.ntmps6
  go_wp2_with fail
  (go_at_call 38; refine (F.out.1 _).mono ?_; rintro e w1 ⟨rfl, hb1⟩; obtain ⟨hB1, hz1, hc1, hf1⟩ := grow4 (w := w) (by go_grown) hb1; (try simp only [World.size_alloc, World.size_setCell, World.size_drew] at hz1); (try have hy1 := Nat.lt_of_succ_le hz1); (try have hx1 := Nat.lt_of_succ_lt hy1); (try have hw1 := Nat.lt_of_succ_lt hx1); (try have hv1 := Nat.lt_of_succ_lt hw1); (try have ha1 : w.heap.size < w1.heap.size := (by omega)); (try have hi1 : w.heap.size + 1 < w1.heap.size := (by omega)); (try have hj1 : w.heap.size + 1 + 1 < w1.heap.size := (by omega)); (try have hk1 : w.heap.size + 1 + 1 + 1 < w1.heap.size := (by omega)); (try have hl1 : w.heap.size + 1 + 1 + 1 + 1 < w1.heap.size := (by omega)))
  go_wp2_with fail
  (go_at_call 39; refine (F.out.2 _).mono ?_; rintro e w2 ⟨rfl, hb2⟩; obtain ⟨hB2, hz2, hc2, hf2⟩ := grow4 (w := w) (by go_grown) hb2; (try simp only [World.size_alloc, World.size_setCell, World.size_drew] at hz2); (try have hy2 := Nat.lt_of_succ_le hz2); (try have hx2 := Nat.lt_of_succ_lt hy2); (try have hw2 := Nat.lt_of_succ_lt hx2); (try have hv2 := Nat.lt_of_succ_lt hw2); (try have ha2 : w.heap.size < w2.heap.size := (by omega)); (try have hi2 : w.heap.size + 1 < w2.heap.size := (by omega)); (try have hj2 : w.heap.size + 1 + 1 < w2.heap.size := (by omega)); (try have hk2 : w.heap.size + 1 + 1 + 1 < w2.heap.size := (by omega)); (try have hl2 : w.heap.size + 1 + 1 + 1 + 1 < w2.heap.size := (by omega)))
  go_wp2_with fail
  (go_at_call 40; refine (T.out.1 _).mono ?_; rintro e w3 ⟨rfl, hb3⟩; obtain ⟨hB3, hz3, hc3, hf3⟩ := grow4 (w := w) (by go_grown) hb3; (try simp only [World.size_alloc, World.size_setCell, World.size_drew] at hz3); (try have hy3 := Nat.lt_of_succ_le hz3); (try have hx3 := Nat.lt_of_succ_lt hy3); (try have hw3 := Nat.lt_of_succ_lt hx3); (try have hv3 := Nat.lt_of_succ_lt hw3); (try have ha3 : w.heap.size < w3.heap.size := (by omega)); (try have hi3 : w.heap.size + 1 < w3.heap.size := (by omega)); (try have hj3 : w.heap.size + 1 + 1 < w3.heap.size := (by omega)); (try have hk3 : w.heap.size + 1 + 1 + 1 < w3.heap.size := (by omega)); (try have hl3 : w.heap.size + 1 + 1 + 1 + 1 < w3.heap.size := (by omega)))
  go_wp2_with fail
  (go_at_call 41; refine (T.out.2 _).mono ?_; rintro e w4 ⟨rfl, hb4⟩; obtain ⟨hB4, hz4, hc4, hf4⟩ := grow4 (w := w) (by go_grown) hb4; (try simp only [World.size_alloc, World.size_setCell, World.size_drew] at hz4); (try have hy4 := Nat.lt_of_succ_le hz4); (try have hx4 := Nat.lt_of_succ_lt hy4); (try have hw4 := Nat.lt_of_succ_lt hx4); (try have hv4 := Nat.lt_of_succ_lt hw4); (try have ha4 : w.heap.size < w4.heap.size := (by omega)); (try have hi4 : w.heap.size + 1 < w4.heap.size := (by omega)); (try have hj4 : w.heap.size + 1 + 1 < w4.heap.size := (by omega)); (try have hk4 : w.heap.size + 1 + 1 + 1 < w4.heap.size := (by omega)); (try have hl4 : w.heap.size + 1 + 1 + 1 + 1 < w4.heap.size := (by omega)))
  go_wp2_with fail
  (go_at_call 19; refine (fine_any _ (HT.out.below (by (first | assumption | go_grown) : Below w.heap.size w _) hz)).mono ?_; rintro e w5 ⟨rfl, hb5⟩; obtain ⟨hB5, hz5, hc5, hf5⟩ := grow4 (w := w) (by go_grown) hb5; (try simp only [World.size_alloc, World.size_setCell, World.size_drew] at hz5); (try have hy5 := Nat.lt_of_succ_le hz5); (try have hx5 := Nat.lt_of_succ_lt hy5); (try have hw5 := Nat.lt_of_succ_lt hx5); (try have hv5 := Nat.lt_of_succ_lt hw5); (try have ha5 : w.heap.size < w5.heap.size := (by omega)); (try have hi5 : w.heap.size + 1 < w5.heap.size := (by omega)); (try have hj5 : w.heap.size + 1 + 1 < w5.heap.size := (by omega)); (try have hk5 : w.heap.size + 1 + 1 + 1 < w5.heap.size := (by omega)); (try have hl5 : w.heap.size + 1 + 1 + 1 + 1 < w5.heap.size := (by omega)))
  go_wp2_with fail
  go_returns
  exact ⟨rfl, hB5⟩
end Go.Proofs.YtfcjdmpfoogljaaDoor
