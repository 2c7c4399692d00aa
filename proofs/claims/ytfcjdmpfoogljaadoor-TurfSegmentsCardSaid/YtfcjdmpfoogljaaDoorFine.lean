/-
  The examples that each law of layer 1 ends with: they hold.
-/
import Derived.Test.YtfcjdmpfoogljaaDoorF
import Derived.Test.YtfcjdmpfoogljaaDoorB
set_option linter.unusedVariables false
set_option linter.unusedSimpArgs false
namespace Go.Proofs.YtfcjdmpfoogljaaDoor
open Go.ChangeShapes Go.WideShapes Go.ChangeAt Go.RowKit

theorem Root_ok (n r : Int) (w : World) (h3 : 0 ≤ n) (h4 : n ≤ 4611686018427387904) (hr : M.IsRoot n r) :
    Calls Tryd.prog 15 #[.int .i64 n] w fun e w' => e = .returned (.tuple #[.int .i64 r, .int .i64 0]) ∧ Below w.heap.size w w' := by
  go_enter Tryd.func15, Tryd.ntmps15
  go_wp2_with (go_at_call 48; refine (root_any n r _ h3 h4 hr).mono ?_; rintro e w1 ⟨rfl, hb1⟩; obtain ⟨hB1, hz1, hc1, hf1⟩ := grow4 (w := w) (by go_grown) hb1; (try simp only [World.size_alloc, World.size_setCell, World.size_drew] at hz1); (try have hy1 := Nat.lt_of_succ_le hz1); (try have hx1 := Nat.lt_of_succ_lt hy1); (try have hw1 := Nat.lt_of_succ_lt hx1); (try have hv1 := Nat.lt_of_succ_lt hw1); (try have ha1 : w.heap.size < w1.heap.size := (by omega)); (try have hi1 : w.heap.size + 1 < w1.heap.size := (by omega)); (try have hj1 : w.heap.size + 1 + 1 < w1.heap.size := (by omega)); (try have hk1 : w.heap.size + 1 + 1 + 1 < w1.heap.size := (by omega)); (try have hl1 : w.heap.size + 1 + 1 + 1 + 1 < w1.heap.size := (by omega)))
  all_goals first | (exfalso; omega) | (go_returns; exact ⟨rfl, hB1⟩)
theorem Root_bad (n : Int) (w : World) (h : n < 0 ∨ 4611686018427387904 < n) :
    Calls Tryd.prog 15 #[.int .i64 n] w fun e w' => e = .returned (.tuple #[.int .i64 0, .int .i64 3]) ∧ Below w.heap.size w w' := by
  go_enter Tryd.func15, Tryd.ntmps15
  go_wp2_with fail
  all_goals first | (exfalso; omega) | (go_returns; exact ⟨rfl, by go_grown⟩)

theorem divide_7 (w : World) : Calls Tryd.prog 13 #[.int .i64 7, .int .i64 2] w fun e w' => e = .returned (.tuple #[.agg #[.int .i64 4, .int .i64 (-1)], .int .i64 0]) ∧ Below w.heap.size w w' :=
  divide_ok 7 2 w (by omega) (by omega) (by omega) (by omega)
theorem root_80 (w : World) : Calls Tryd.prog 15 #[.int .i64 80] w fun e w' => e = .returned (.tuple #[.int .i64 8, .int .i64 0]) ∧ Below w.heap.size w w' :=
  Root_ok 80 8 w (by omega) (by omega) ⟨by omega, by omega, by omega⟩
/-- What the ring of the example leaves: its second point. -/
def Ring64 (w : World) (e : Ending) (w' : World) : Prop :=
  ∃ g : Nat, e = .returned (.tuple #[.slice (some ⟨g, 0, none⟩) 16 16, .int .i64 0]) ∧ w'.cell? ⟨g, 2, none⟩ = some (.int .i64 59) ∧ w'.cell? ⟨g, 3, none⟩ = some (.int .i64 24) ∧ Below w.heap.size w w'
theorem ring_64 (w : World) (ht : Tab w) : Calls Tryd.prog 34 #[.agg #[.int .i64 0, .int .i64 0, .int .i64 64]] w (Ring64 w) :=
  (Ring_ok 0 0 64 w ht (by decide) (by decide)).mono fun e w' ⟨g, he, h1, h2, h3, h4⟩ => by
    obtain ⟨c1, c2⟩ := h3.pts 1 (by rw [ringPts_len]; omega)
    exact ⟨g, he, c1, c2, h4⟩

set_option maxHeartbeats 1000000 in
theorem fine_any (w : World) (ht : Tab w) : Calls Tryd.prog 19 #[] w fun e w' => e = .returned (.bool true) ∧ Below w.heap.size w w' := by
  have hz := ht.size
  have HT := Lib.hid ht
  clear ht
  go_enter Tryd.func19, Tryd.ntmps19
  go_wp2_with (first | (go_at_call 13; refine (divide_7 _).mono ?_; rintro e w1 ⟨rfl, hb1⟩; obtain ⟨hB1, hz1, hc1, hf1⟩ := grow4 (w := w) (by go_grown) hb1; (try simp only [World.size_alloc, World.size_setCell, World.size_drew] at hz1); (try have hy1 := Nat.lt_of_succ_le hz1); (try have hx1 := Nat.lt_of_succ_lt hy1); (try have hw1 := Nat.lt_of_succ_lt hx1); (try have hv1 := Nat.lt_of_succ_lt hw1); (try have ha1 : w.heap.size < w1.heap.size := (by omega)); (try have hi1 : w.heap.size + 1 < w1.heap.size := (by omega)); (try have hj1 : w.heap.size + 1 + 1 < w1.heap.size := (by omega)); (try have hk1 : w.heap.size + 1 + 1 + 1 < w1.heap.size := (by omega)); (try have hl1 : w.heap.size + 1 + 1 + 1 + 1 < w1.heap.size := (by omega))) | (go_at_call 15; refine (root_80 _).mono ?_; rintro e w2 ⟨rfl, hb2⟩; obtain ⟨hB2, hz2, hc2, hf2⟩ := grow4 (w := w) (by go_grown) hb2; (try simp only [World.size_alloc, World.size_setCell, World.size_drew] at hz2); (try have hy2 := Nat.lt_of_succ_le hz2); (try have hx2 := Nat.lt_of_succ_lt hy2); (try have hw2 := Nat.lt_of_succ_lt hx2); (try have hv2 := Nat.lt_of_succ_lt hw2); (try have ha2 : w.heap.size < w2.heap.size := (by omega)); (try have hi2 : w.heap.size + 1 < w2.heap.size := (by omega)); (try have hj2 : w.heap.size + 1 + 1 < w2.heap.size := (by omega)); (try have hk2 : w.heap.size + 1 + 1 + 1 < w2.heap.size := (by omega)); (try have hl2 : w.heap.size + 1 + 1 + 1 + 1 < w2.heap.size := (by omega))) | (go_at_call 34; refine (ring_64 _ (HT.out.below hB2 hz)).mono ?_; rintro e w3 ⟨g, rfl, g1, g2, hb3⟩; obtain ⟨hB3, hz3, hc3, hf3⟩ := grow4 (w := w) (by go_grown) hb3))
  go_returns
  exact ⟨rfl, hB3⟩
end Go.Proofs.YtfcjdmpfoogljaaDoor
