/-
  Contracts of the document's own answers: products are compared, whatever the numbers.
-/
import Derived.Test.YtfcjdmpfoogljaaDoorRefB
set_option linter.unusedVariables false
set_option linter.unusedSimpArgs false
namespace Go.Proofs.YtfcjdmpfoogljaaDoor
open Go.ChangeShapes Go.WideShapes Go.ChangeAt Go.RowKit

def wd0 (a b : Int) : Int := wrap64 ((wrap64 (wrap64 (wrap64 (a.tdiv 2147483648) * wrap64 (b.tdiv 2147483648)) + wrap64 (wrap64 (wrap64 ((wrap64 (wrap64 (a.tdiv 2147483648) * b.tmod 2147483648)).tdiv 2147483648) + wrap64 ((wrap64 (a.tmod 2147483648 * wrap64 (b.tdiv 2147483648))).tdiv 2147483648)) + wrap64 ((wrap64 (wrap64 ((wrap64 (wrap64 (a.tdiv 2147483648) * b.tmod 2147483648)).tmod 2147483648 + (wrap64 (a.tmod 2147483648 * wrap64 (b.tdiv 2147483648))).tmod 2147483648) + wrap64 ((wrap64 (a.tmod 2147483648 * b.tmod 2147483648)).tdiv 2147483648))).tdiv 2147483648)))).tdiv 2147483648)
def wd1 (a b : Int) : Int := (wrap64 (wrap64 (wrap64 (a.tdiv 2147483648) * wrap64 (b.tdiv 2147483648)) + wrap64 (wrap64 (wrap64 ((wrap64 (wrap64 (a.tdiv 2147483648) * b.tmod 2147483648)).tdiv 2147483648) + wrap64 ((wrap64 (a.tmod 2147483648 * wrap64 (b.tdiv 2147483648))).tdiv 2147483648)) + wrap64 ((wrap64 (wrap64 ((wrap64 (wrap64 (a.tdiv 2147483648) * b.tmod 2147483648)).tmod 2147483648 + (wrap64 (a.tmod 2147483648 * wrap64 (b.tdiv 2147483648))).tmod 2147483648) + wrap64 ((wrap64 (a.tmod 2147483648 * b.tmod 2147483648)).tdiv 2147483648))).tdiv 2147483648)))).tmod 2147483648
def wd2 (a b : Int) : Int := (wrap64 (wrap64 ((wrap64 (wrap64 (a.tdiv 2147483648) * b.tmod 2147483648)).tmod 2147483648 + (wrap64 (a.tmod 2147483648 * wrap64 (b.tdiv 2147483648))).tmod 2147483648) + wrap64 ((wrap64 (a.tmod 2147483648 * b.tmod 2147483648)).tdiv 2147483648))).tmod 2147483648
def wd3 (a b : Int) : Int := (wrap64 (a.tmod 2147483648 * b.tmod 2147483648)).tmod 2147483648
/-- Which of two rows of digits is the lesser one. -/
def lessV (x0 x1 x2 x3 y0 y1 y2 y3 : Int) : Int := if x0 < y0 then -1 else if y0 < x0 then 1 else if x1 < y1 then -1 else if y1 < x1 then 1 else if x2 < y2 then -1 else if y2 < x2 then 1 else if x3 < y3 then -1 else if y3 < x3 then 1 else 0
def lessD (a b c d : Int) : Int := lessV (wd0 a b) (wd1 a b) (wd2 a b) (wd3 a b) (wd0 c d) (wd1 c d) (wd2 c d) (wd3 c d)
set_option maxRecDepth 100000 in
set_option maxHeartbeats 4000000 in
theorem rproduct_some (a b : Int) (w : World) :
    Calls Tryd.prog 75 #[.int .i64 a, .int .i64 b] w fun e w' => e = .returned (.agg #[.int .i64 (wd0 a b), .int .i64 (wd1 a b), .int .i64 (wd2 a b), .int .i64 (wd3 a b)]) ∧ Below w.heap.size w w' := by
  unfold wd0 wd1 wd2 wd3
  go_enter Tryd.func75, Tryd.ntmps75
  go_wp2
  go_returns
  exact ⟨rfl, by go_grown⟩
set_option maxRecDepth 100000 in
set_option maxHeartbeats 16000000 in
theorem less_fix (a b c d : Int) (w : World) :
    Calls Tryd.prog 52 #[.int .i64 a, .int .i64 b, .int .i64 c, .int .i64 d] w fun e w' => e = .returned (.int .i64 (lessD a b c d)) ∧ Below w.heap.size w w' := by
  have P1 := Lib.hid (fun w => rproduct_some a b w)
  have P2 := Lib.hid (fun w => rproduct_some c d w)
  unfold lessD
  generalize wd0 a b = x0 at *
  generalize wd1 a b = x1 at *
  generalize wd2 a b = x2 at *
  generalize wd3 a b = x3 at *
  generalize wd0 c d = y0 at *
  generalize wd1 c d = y1 at *
  generalize wd2 c d = y2 at *
  generalize wd3 c d = y3 at *
  go_enter Tryd.func52, Tryd.ntmps52
  go_wp2_with fail
  (go_at_call 75; refine (P1.out _).mono ?_; rintro e w1 ⟨rfl, hb1⟩; obtain ⟨hB1, hz1, hc1, hf1⟩ := grow4 (w := w) (by go_grown) hb1; (try simp only [World.size_alloc, World.size_setCell, World.size_drew] at hz1); (try have hy1 := Nat.lt_of_succ_le hz1); (try have hx1 := Nat.lt_of_succ_lt hy1); (try have hw1 := Nat.lt_of_succ_lt hx1); (try have hv1 := Nat.lt_of_succ_lt hw1); (try have ha1 : w.heap.size < w1.heap.size := (by omega)); (try have hi1 : w.heap.size + 1 < w1.heap.size := (by omega)); (try have hj1 : w.heap.size + 1 + 1 < w1.heap.size := (by omega)); (try have hk1 : w.heap.size + 1 + 1 + 1 < w1.heap.size := (by omega)); (try have hl1 : w.heap.size + 1 + 1 + 1 + 1 < w1.heap.size := (by omega)))
  go_wp2_with fail
  (go_at_call 75; refine (P2.out _).mono ?_; rintro e w2 ⟨rfl, hb2⟩; obtain ⟨hB2, hz2, hc2, hf2⟩ := grow4 (w := w) (by go_grown) hb2; (try simp only [World.size_alloc, World.size_setCell, World.size_drew] at hz2); (try have hy2 := Nat.lt_of_succ_le hz2); (try have hx2 := Nat.lt_of_succ_lt hy2); (try have hw2 := Nat.lt_of_succ_lt hx2); (try have hv2 := Nat.lt_of_succ_lt hw2); (try have ha2 : w.heap.size < w2.heap.size := (by omega)); (try have hi2 : w.heap.size + 1 < w2.heap.size := (by omega)); (try have hj2 : w.heap.size + 1 + 1 < w2.heap.size := (by omega)); (try have hk2 : w.heap.size + 1 + 1 + 1 < w2.heap.size := (by omega)); (try have hl2 : w.heap.size + 1 + 1 + 1 + 1 < w2.heap.size := (by omega)))
  go_wp2
  by_cases p0 : x0 < y0
  · refine wp_loop_rounds 1 ?_
    repeat any_goals (first | (rw [rounds_succ]; go_wp2) | (go_quiet (fail); go_wp2))
    go_returns
    refine ⟨by unfold lessV; (repeat (first | rw [if_pos (by omega)] | rw [if_neg (by omega)])); all_goals rfl, ?_⟩
    repeat (refine below_drewN ?_ _)
    go_grown
  · by_cases q0 : y0 < x0
    · refine wp_loop_rounds 1 ?_
      repeat any_goals (first | (rw [rounds_succ]; go_wp2) | (go_quiet (fail); go_wp2))
      go_returns
      refine ⟨by unfold lessV; (repeat (first | rw [if_pos (by omega)] | rw [if_neg (by omega)])); all_goals rfl, ?_⟩
      repeat (refine below_drewN ?_ _)
      go_grown
    · by_cases p1 : x1 < y1
      · refine wp_loop_rounds 2 ?_
        repeat any_goals (first | (rw [rounds_succ]; go_wp2) | (go_quiet (fail); go_wp2))
        go_returns
        refine ⟨by unfold lessV; (repeat (first | rw [if_pos (by omega)] | rw [if_neg (by omega)])); all_goals rfl, ?_⟩
        repeat (refine below_drewN ?_ _)
        go_grown
      · by_cases q1 : y1 < x1
        · refine wp_loop_rounds 2 ?_
          repeat any_goals (first | (rw [rounds_succ]; go_wp2) | (go_quiet (fail); go_wp2))
          go_returns
          refine ⟨by unfold lessV; (repeat (first | rw [if_pos (by omega)] | rw [if_neg (by omega)])); all_goals rfl, ?_⟩
          repeat (refine below_drewN ?_ _)
          go_grown
        · by_cases p2 : x2 < y2
          · refine wp_loop_rounds 3 ?_
            repeat any_goals (first | (rw [rounds_succ]; go_wp2) | (go_quiet (fail); go_wp2))
            go_returns
            refine ⟨by unfold lessV; (repeat (first | rw [if_pos (by omega)] | rw [if_neg (by omega)])); all_goals rfl, ?_⟩
            repeat (refine below_drewN ?_ _)
            go_grown
          · by_cases q2 : y2 < x2
            · refine wp_loop_rounds 3 ?_
              repeat any_goals (first | (rw [rounds_succ]; go_wp2) | (go_quiet (fail); go_wp2))
              go_returns
              refine ⟨by unfold lessV; (repeat (first | rw [if_pos (by omega)] | rw [if_neg (by omega)])); all_goals rfl, ?_⟩
              repeat (refine below_drewN ?_ _)
              go_grown
            · by_cases p3 : x3 < y3
              · refine wp_loop_rounds 4 ?_
                repeat any_goals (first | (rw [rounds_succ]; go_wp2) | (go_quiet (fail); go_wp2))
                go_returns
                refine ⟨by unfold lessV; (repeat (first | rw [if_pos (by omega)] | rw [if_neg (by omega)])); all_goals rfl, ?_⟩
                repeat (refine below_drewN ?_ _)
                go_grown
              · by_cases q3 : y3 < x3
                · refine wp_loop_rounds 4 ?_
                  repeat any_goals (first | (rw [rounds_succ]; go_wp2) | (go_quiet (fail); go_wp2))
                  go_returns
                  refine ⟨by unfold lessV; (repeat (first | rw [if_pos (by omega)] | rw [if_neg (by omega)])); all_goals rfl, ?_⟩
                  repeat (refine below_drewN ?_ _)
                  go_grown
                · refine wp_loop_rounds 5 ?_
                  repeat any_goals (first | (rw [rounds_succ]; go_wp2) | (go_quiet (fail); go_wp2))
                  go_returns
                  refine ⟨by unfold lessV; (repeat (first | rw [if_pos (by omega)] | rw [if_neg (by omega)])); all_goals rfl, ?_⟩
                  repeat (refine below_drewN ?_ _)
                  go_grown
end Go.Proofs.YtfcjdmpfoogljaaDoor
