/-
  Contracts of layer 1: places towards another one.
-/
import Derived.Test.YtfcjdmpfoogljaaDoorTowM
import Derived.Test.YtfcjdmpfoogljaaDoorSegB
import Derived.Test.YtfcjdmpfoogljaaDoorC
set_option linter.unusedVariables false
set_option linter.unusedSimpArgs false
namespace Go.Proofs.YtfcjdmpfoogljaaDoor
open Go.ChangeShapes Go.WideShapes Go.ChangeAt Go.RowKit

theorem set2a {w : World} {b : Nat} {v0 c0 : Value} (h0 : w.cell? ⟨b, 0, none⟩ = some c0) : (w.setCell ⟨b, 0, none⟩ v0).cell? ⟨b, 0, none⟩ = some v0 := by
  apply World.cell?_setCell_same
  exact h0
theorem set2 {w : World} {b : Nat} {v0 v1 c0 c1 : Value} (h0 : w.cell? ⟨b, 0, none⟩ = some c0) (h1 : w.cell? ⟨b, 1, none⟩ = some c1) :
    ((w.setCell ⟨b, 0, none⟩ v0).setCell ⟨b, 1, none⟩ v1).cell? ⟨b, 0, none⟩ = some v0 ∧ ((w.setCell ⟨b, 0, none⟩ v0).setCell ⟨b, 1, none⟩ v1).cell? ⟨b, 1, none⟩ = some v1 := by
  constructor
  · refine Eq.trans ?_ (set2a (v0 := v0) h0)
    apply World.cell?_setCell_other
    simp
  · apply World.cell?_setCell_same (u := c1)
    refine Eq.trans ?_ h1
    apply World.cell?_setCell_other
    simp
theorem way_below (x y u v : Int) (w : World) (hx : -16777216 ≤ x) (hx2 : x ≤ 16777216) (hy : -16777216 ≤ y) (hy2 : y ≤ 16777216) (hu : -16777216 ≤ u) (hu2 : u ≤ 16777216) (hv : -16777216 ≤ v) (hv2 : v ≤ 16777216) :
    Calls Tryd.prog 67 #[.agg #[.int .i64 x, .int .i64 y], .agg #[.int .i64 u, .int .i64 v]] w fun e w' => e = .returned (.agg #[.int .i64 (u - x), .int .i64 (v - y)]) ∧ Below w.heap.size w w' :=
  (way_any x y u v w hx hx2 hy hy2 hu hu2 hv hv2).mono fun e w' h => ⟨h.1, by rw [← h.2]; go_grown⟩

theorem way_in (x y u v : Int) (w : World) (h1 : M.In x y) (h2 : M.In u v) :
    Calls Tryd.prog 67 #[.agg #[.int .i64 x, .int .i64 y], .agg #[.int .i64 u, .int .i64 v]] w fun e w' => e = .returned (.agg #[.int .i64 (u - x), .int .i64 (v - y)]) ∧ Below w.heap.size w w' := by
  obtain ⟨⟨a1, a2⟩, ⟨a3, a4⟩⟩ := h1
  obtain ⟨⟨b1, b2⟩, ⟨b3, b4⟩⟩ := h2
  exact way_below x y u v w (by omega) (by omega) (by omega) (by omega) (by omega) (by omega) (by omega) (by omega)
theorem way_zero (x y v : Int) (w : World) (h1 : M.In x y) (h2 : M.In x v) :
    Calls Tryd.prog 67 #[.agg #[.int .i64 x, .int .i64 y], .agg #[.int .i64 x, .int .i64 v]] w fun e w' => e = .returned (.agg #[.int .i64 0, .int .i64 (v - y)]) ∧ Below w.heap.size w w' := by
  have h := way_in x y x v w h1 h2
  rw [show x - x = 0 by omega] at h
  exact h
set_option maxHeartbeats 1000000 in
theorem Towards_bad (p0 p1 q0 q1 l : Int) (w : World) (h : ¬ (M.In p0 p1 ∧ M.In q0 q1)) :
    Calls Tryd.prog 40 #[.agg #[.int .i64 p0, .int .i64 p1], .agg #[.int .i64 q0, .int .i64 q1], .int .i64 l] w fun e w' => e = .returned (.tuple #[.agg #[.int .i64 0, .int .i64 0], .int .i64 2]) ∧ Below w.heap.size w w' := by
  rcases chk2 (x := p0) (y := p1) (u := q0) (v := q1) with ⟨_, hn⟩ | ⟨hc, _⟩
  · exact absurd hn h
  · clear h
    go_enter Tryd.func40, Tryd.ntmps40
    go_wp2_with ((go_at_call 53; refine (checkAll_two p0 p1 q0 q1 _ _ _ (by go_size) (by go_cell) (by go_cell) (by go_cell) (by go_cell)).mono ?_; rintro e w1 ⟨rfl, hb1⟩; obtain ⟨hB1, hz1, hc1, hf1⟩ := grow4 (w := w) (by go_grown) hb1; (try simp only [World.size_alloc, World.size_setCell, World.size_drew] at hz1); (try have hy1 := Nat.lt_of_succ_le hz1); (try have hx1 := Nat.lt_of_succ_lt hy1); (try have hw1 := Nat.lt_of_succ_lt hx1); (try have hv1 := Nat.lt_of_succ_lt hw1); (try have ha1 : w.heap.size < w1.heap.size := (by omega)); (try have hi1 : w.heap.size + 1 < w1.heap.size := (by omega)); (try have hj1 : w.heap.size + 1 + 1 < w1.heap.size := (by omega)); (try have hk1 : w.heap.size + 1 + 1 + 1 < w1.heap.size := (by omega)); (try have hl1 : w.heap.size + 1 + 1 + 1 + 1 < w1.heap.size := (by omega))); have k01 : w1.cell? ⟨w.heap.size + 1 + 1, 0, none⟩ = some (.int .i64 0) := (hc1 _ _ (by go_size)).trans (by go_cell); have k11 : w1.cell? ⟨w.heap.size + 1 + 1, 1, none⟩ = some (.int .i64 0) := (hc1 _ _ (by go_size)).trans (by go_cell))
    have z0 := set2a (v0 := .int .i64 0) k01
    have z1 := (set2 (v0 := .int .i64 0) (v1 := .int .i64 0) k01 k11).1
    have z2 := (set2 (v0 := .int .i64 0) (v1 := .int .i64 0) k01 k11).2
    exact bodyPost_ret (v := .tuple #[.agg #[.int .i64 0, .int .i64 0], .int .i64 2]) (by simp [results, Tryd.results40, go_sem, z0, z1, z2]) rfl ⟨rfl, (hB1.setCell (show w.heap.size ≤ w.heap.size + 1 + 1 by omega) _).setCell (show w.heap.size ≤ w.heap.size + 1 + 1 by omega) _⟩
set_option maxHeartbeats 1000000 in
theorem Towards_range (p0 p1 q0 q1 l : Int) (w : World) (h1 : M.In p0 p1) (h2 : M.In q0 q1) (hl : l < 0 ∨ 4194304 < l) :
    Calls Tryd.prog 40 #[.agg #[.int .i64 p0, .int .i64 p1], .agg #[.int .i64 q0, .int .i64 q1], .int .i64 l] w fun e w' => e = .returned (.tuple #[.agg #[.int .i64 0, .int .i64 0], .int .i64 3]) ∧ Below w.heap.size w w' := by
  rcases chk2 (x := p0) (y := p1) (u := q0) (v := q1) with ⟨hc, _⟩ | ⟨_, hn⟩
  · clear h1 h2
    rcases hl with hl | hl
    all_goals
      go_enter Tryd.func40, Tryd.ntmps40
      go_wp2_with ((go_at_call 53; refine (checkAll_two p0 p1 q0 q1 _ _ _ (by go_size) (by go_cell) (by go_cell) (by go_cell) (by go_cell)).mono ?_; rintro e w1 ⟨rfl, hb1⟩; obtain ⟨hB1, hz1, hc1, hf1⟩ := grow4 (w := w) (by go_grown) hb1; (try simp only [World.size_alloc, World.size_setCell, World.size_drew] at hz1); (try have hy1 := Nat.lt_of_succ_le hz1); (try have hx1 := Nat.lt_of_succ_lt hy1); (try have hw1 := Nat.lt_of_succ_lt hx1); (try have hv1 := Nat.lt_of_succ_lt hw1); (try have ha1 : w.heap.size < w1.heap.size := (by omega)); (try have hi1 : w.heap.size + 1 < w1.heap.size := (by omega)); (try have hj1 : w.heap.size + 1 + 1 < w1.heap.size := (by omega)); (try have hk1 : w.heap.size + 1 + 1 + 1 < w1.heap.size := (by omega)); (try have hl1 : w.heap.size + 1 + 1 + 1 + 1 < w1.heap.size := (by omega))); have k01 : w1.cell? ⟨w.heap.size + 1 + 1, 0, none⟩ = some (.int .i64 0) := (hc1 _ _ (by go_size)).trans (by go_cell); have k11 : w1.cell? ⟨w.heap.size + 1 + 1, 1, none⟩ = some (.int .i64 0) := (hc1 _ _ (by go_size)).trans (by go_cell))
      have z0 := set2a (v0 := .int .i64 0) k01
      have z1 := (set2 (v0 := .int .i64 0) (v1 := .int .i64 0) k01 k11).1
      have z2 := (set2 (v0 := .int .i64 0) (v1 := .int .i64 0) k01 k11).2
      exact bodyPost_ret (v := .tuple #[.agg #[.int .i64 0, .int .i64 0], .int .i64 3]) (by simp [results, Tryd.results40, go_sem, z0, z1, z2]) rfl ⟨rfl, (hB1.setCell (show w.heap.size ≤ w.heap.size + 1 + 1 by omega) _).setCell (show w.heap.size ≤ w.heap.size + 1 + 1 by omega) _⟩
  · exact absurd ⟨h1, h2⟩ hn
set_option maxHeartbeats 1000000 in
theorem Towards_zero (p0 p1 l : Int) (w : World) (h1 : M.In p0 p1) (l1 : 0 ≤ l) (l2 : l ≤ 4194304) :
    Calls Tryd.prog 40 #[.agg #[.int .i64 p0, .int .i64 p1], .agg #[.int .i64 p0, .int .i64 p1], .int .i64 l] w fun e w' => e = .returned (.tuple #[.agg #[.int .i64 0, .int .i64 0], .int .i64 9]) ∧ Below w.heap.size w w' := by
  rcases chk2 (x := p0) (y := p1) (u := p0) (v := p1) with ⟨hc, _⟩ | ⟨_, hn⟩
  · clear h1
    go_enter Tryd.func40, Tryd.ntmps40
    go_wp2_with ((go_at_call 53; refine (checkAll_two p0 p1 p0 p1 _ _ _ (by go_size) (by go_cell) (by go_cell) (by go_cell) (by go_cell)).mono ?_; rintro e w1 ⟨rfl, hb1⟩; obtain ⟨hB1, hz1, hc1, hf1⟩ := grow4 (w := w) (by go_grown) hb1; (try simp only [World.size_alloc, World.size_setCell, World.size_drew] at hz1); (try have hy1 := Nat.lt_of_succ_le hz1); (try have hx1 := Nat.lt_of_succ_lt hy1); (try have hw1 := Nat.lt_of_succ_lt hx1); (try have hv1 := Nat.lt_of_succ_lt hw1); (try have ha1 : w.heap.size < w1.heap.size := (by omega)); (try have hi1 : w.heap.size + 1 < w1.heap.size := (by omega)); (try have hj1 : w.heap.size + 1 + 1 < w1.heap.size := (by omega)); (try have hk1 : w.heap.size + 1 + 1 + 1 < w1.heap.size := (by omega)); (try have hl1 : w.heap.size + 1 + 1 + 1 + 1 < w1.heap.size := (by omega))); have k01 : w1.cell? ⟨w.heap.size + 1 + 1, 0, none⟩ = some (.int .i64 0) := (hc1 _ _ (by go_size)).trans (by go_cell); have k11 : w1.cell? ⟨w.heap.size + 1 + 1, 1, none⟩ = some (.int .i64 0) := (hc1 _ _ (by go_size)).trans (by go_cell))
    have z0 := set2a (v0 := .int .i64 0) k01
    have z1 := (set2 (v0 := .int .i64 0) (v1 := .int .i64 0) k01 k11).1
    have z2 := (set2 (v0 := .int .i64 0) (v1 := .int .i64 0) k01 k11).2
    exact bodyPost_ret (v := .tuple #[.agg #[.int .i64 0, .int .i64 0], .int .i64 9]) (by simp [results, Tryd.results40, go_sem, z0, z1, z2]) rfl ⟨rfl, (hB1.setCell (show w.heap.size ≤ w.heap.size + 1 + 1 by omega) _).setCell (show w.heap.size ≤ w.heap.size + 1 + 1 by omega) _⟩
  · exact absurd ⟨h1, h1⟩ hn

end Go.Proofs.YtfcjdmpfoogljaaDoor
