/-
  Contracts of the document's own answers: places towards another one.
-/
import Derived.Test.YtfcjdmpfoogljaaDoorTowS
set_option linter.unusedVariables false
set_option linter.unusedSimpArgs false
namespace Go.Proofs.YtfcjdmpfoogljaaDoor
open Go.ChangeShapes Go.WideShapes Go.ChangeAt Go.RowKit

set_option maxRecDepth 100000 in
set_option maxHeartbeats 4000000 in
theorem rTow_ok (p0 p1 q0 q1 l X Y : Int) (w : World) (j1 : inB p0 p1 = true) (j2 : inB q0 q1 = true) (j3 : M.among l 0 4194304 = true) (hne : ¬ p0 = q0) (A : ∀ w : World, Calls Tryd.prog 69 #[.agg #[.int .i64 p0, .int .i64 p1], .agg #[.int .i64 q0, .int .i64 q1], .int .i64 l] w fun e w' => e = .returned (.agg #[.int .i64 X, .int .i64 Y]) ∧ Below w.heap.size w w') (c2 : inB X Y = true) :
    Calls Tryd.prog 41 #[.agg #[.int .i64 p0, .int .i64 p1], .agg #[.int .i64 q0, .int .i64 q1], .int .i64 l] w fun e w' => e = .returned (.tuple #[.agg #[.int .i64 X, .int .i64 Y], .int .i64 0]) ∧ Below w.heap.size w w' := by
  have AH := Lib.hid A
  clear A
  go_enter Tryd.func41, Tryd.ntmps41
  go_wp2_with fail
  (go_at_call 55; refine (valid_any p0 p1 _).mono ?_; rintro e w1 ⟨rfl, hb1⟩; obtain ⟨hB1, hz1, hc1, hf1⟩ := grow4 (w := w) (by go_grown) hb1; (try simp only [World.size_alloc, World.size_setCell, World.size_drew] at hz1); (try have hy1 := Nat.lt_of_succ_le hz1); (try have hx1 := Nat.lt_of_succ_lt hy1); (try have hw1 := Nat.lt_of_succ_lt hx1); (try have hv1 := Nat.lt_of_succ_lt hw1); (try have ha1 : w.heap.size < w1.heap.size := (by omega)); (try have hi1 : w.heap.size + 1 < w1.heap.size := (by omega)); (try have hj1 : w.heap.size + 1 + 1 < w1.heap.size := (by omega)); (try have hk1 : w.heap.size + 1 + 1 + 1 < w1.heap.size := (by omega)); (try have hl1 : w.heap.size + 1 + 1 + 1 + 1 < w1.heap.size := (by omega)))
  have k01 : w1.cell? ⟨w.heap.size + 1 + 1, 0, none⟩ = some (.int .i64 0) := (hc1 _ _ (by first | go_size | assumption | omega | (simp; omega))).trans (by first | go_cell | assumption | (refine (World.cell?_alloc_lt _ _ _ (by first | assumption | omega)).trans ?_; assumption))
  have k11 : w1.cell? ⟨w.heap.size + 1 + 1, 1, none⟩ = some (.int .i64 0) := (hc1 _ _ (by first | go_size | assumption | omega | (simp; omega))).trans (by first | go_cell | assumption | (refine (World.cell?_alloc_lt _ _ _ (by first | assumption | omega)).trans ?_; assumption))
  go_wp2_with fail
  (go_at_call 55; refine (valid_any q0 q1 _).mono ?_; rintro e w2 ⟨rfl, hb2⟩; obtain ⟨hB2, hz2, hc2, hf2⟩ := grow4 (w := w) (by go_grown) hb2; (try simp only [World.size_alloc, World.size_setCell, World.size_drew] at hz2); (try have hy2 := Nat.lt_of_succ_le hz2); (try have hx2 := Nat.lt_of_succ_lt hy2); (try have hw2 := Nat.lt_of_succ_lt hx2); (try have hv2 := Nat.lt_of_succ_lt hw2); (try have ha2 : w.heap.size < w2.heap.size := (by omega)); (try have hi2 : w.heap.size + 1 < w2.heap.size := (by omega)); (try have hj2 : w.heap.size + 1 + 1 < w2.heap.size := (by omega)); (try have hk2 : w.heap.size + 1 + 1 + 1 < w2.heap.size := (by omega)); (try have hl2 : w.heap.size + 1 + 1 + 1 + 1 < w2.heap.size := (by omega)))
  have k02 : w2.cell? ⟨w.heap.size + 1 + 1, 0, none⟩ = some (.int .i64 0) := (hc2 _ _ (by first | go_size | assumption | omega | (simp; omega))).trans (by first | go_cell | assumption | (refine (World.cell?_alloc_lt _ _ _ (by first | assumption | omega)).trans ?_; assumption))
  have k12 : w2.cell? ⟨w.heap.size + 1 + 1, 1, none⟩ = some (.int .i64 0) := (hc2 _ _ (by first | go_size | assumption | omega | (simp; omega))).trans (by first | go_cell | assumption | (refine (World.cell?_alloc_lt _ _ _ (by first | assumption | omega)).trans ?_; assumption))
  go_wp2_with fail
  (go_at_call 46; refine (among_any _ _ _ _).mono ?_; rintro e w' ⟨rfl, rfl⟩)
  go_wp2_with fail
  (go_at_call 69; refine (AH.out _).mono ?_; rintro e w3 ⟨rfl, hb3⟩; obtain ⟨hB3, hz3, hc3, hf3⟩ := grow4 (w := w) (by go_grown) hb3; (try simp only [World.size_alloc, World.size_setCell, World.size_drew] at hz3); (try have hy3 := Nat.lt_of_succ_le hz3); (try have hx3 := Nat.lt_of_succ_lt hy3); (try have hw3 := Nat.lt_of_succ_lt hx3); (try have hv3 := Nat.lt_of_succ_lt hw3); (try have ha3 : w.heap.size < w3.heap.size := (by omega)); (try have hi3 : w.heap.size + 1 < w3.heap.size := (by omega)); (try have hj3 : w.heap.size + 1 + 1 < w3.heap.size := (by omega)); (try have hk3 : w.heap.size + 1 + 1 + 1 < w3.heap.size := (by omega)); (try have hl3 : w.heap.size + 1 + 1 + 1 + 1 < w3.heap.size := (by omega)))
  have k03 : w3.cell? ⟨w.heap.size + 1 + 1, 0, none⟩ = some (.int .i64 0) := (hc3 _ _ (by first | go_size | assumption | omega | (simp; omega))).trans (by first | go_cell | assumption | (refine (World.cell?_alloc_lt _ _ _ (by first | assumption | omega)).trans ?_; assumption))
  have k13 : w3.cell? ⟨w.heap.size + 1 + 1, 1, none⟩ = some (.int .i64 0) := (hc3 _ _ (by first | go_size | assumption | omega | (simp; omega))).trans (by first | go_cell | assumption | (refine (World.cell?_alloc_lt _ _ _ (by first | assumption | omega)).trans ?_; assumption))
  go_wp2_with fail
  (go_at_call 55; refine (valid_any X Y _).mono ?_; rintro e w4 ⟨rfl, hb4⟩; obtain ⟨hB4, hz4, hc4, hf4⟩ := grow4 (w := w) (by go_grown) hb4; (try simp only [World.size_alloc, World.size_setCell, World.size_drew] at hz4); (try have hy4 := Nat.lt_of_succ_le hz4); (try have hx4 := Nat.lt_of_succ_lt hy4); (try have hw4 := Nat.lt_of_succ_lt hx4); (try have hv4 := Nat.lt_of_succ_lt hw4); have l3_4 : w3.heap.size < w4.heap.size := (by omega); have m3_4 : w3.heap.size < w4.heap.size + 1 := (by omega); have o3_4 : w3.heap.size ≤ w4.heap.size := (by omega); (try have ha4 : w.heap.size < w4.heap.size := (by omega)); (try have hi4 : w.heap.size + 1 < w4.heap.size := (by omega)); (try have hj4 : w.heap.size + 1 + 1 < w4.heap.size := (by omega)); (try have hk4 : w.heap.size + 1 + 1 + 1 < w4.heap.size := (by omega)); (try have hl4 : w.heap.size + 1 + 1 + 1 + 1 < w4.heap.size := (by omega)))
  have k04 : w4.cell? ⟨w.heap.size + 1 + 1, 0, none⟩ = some (.int .i64 0) := (hc4 _ _ (by first | go_size | assumption | omega | (simp; omega))).trans (by first | go_cell | assumption | (refine (World.cell?_alloc_lt _ _ _ (by first | assumption | omega)).trans ?_; assumption))
  have k14 : w4.cell? ⟨w.heap.size + 1 + 1, 1, none⟩ = some (.int .i64 0) := (hc4 _ _ (by first | go_size | assumption | omega | (simp; omega))).trans (by first | go_cell | assumption | (refine (World.cell?_alloc_lt _ _ _ (by first | assumption | omega)).trans ?_; assumption))
  go_wp2_with fail
  have z0 := set2a (v0 := .int .i64 X) k04
  have z1 := (set2 (v0 := .int .i64 X) (v1 := .int .i64 Y) k04 k14).1
  have z2 := (set2 (v0 := .int .i64 X) (v1 := .int .i64 Y) k04 k14).2
  exact bodyPost_ret (v := .tuple #[.agg #[.int .i64 X, .int .i64 Y], .int .i64 0]) (by simp [results, Tryd.results41, go_sem, z0, z1, z2]) rfl ⟨rfl, (hB4.setCell (show w.heap.size ≤ w.heap.size + 1 + 1 by omega) _).setCell (show w.heap.size ≤ w.heap.size + 1 + 1 by omega) _⟩
set_option maxRecDepth 100000 in
set_option maxHeartbeats 4000000 in
theorem rTow_over (p0 p1 q0 q1 l X Y : Int) (w : World) (j1 : inB p0 p1 = true) (j2 : inB q0 q1 = true) (j3 : M.among l 0 4194304 = true) (hne : ¬ p0 = q0) (A : ∀ w : World, Calls Tryd.prog 69 #[.agg #[.int .i64 p0, .int .i64 p1], .agg #[.int .i64 q0, .int .i64 q1], .int .i64 l] w fun e w' => e = .returned (.agg #[.int .i64 X, .int .i64 Y]) ∧ Below w.heap.size w w') (c2 : inB X Y = false) :
    Calls Tryd.prog 41 #[.agg #[.int .i64 p0, .int .i64 p1], .agg #[.int .i64 q0, .int .i64 q1], .int .i64 l] w fun e w' => e = .returned (.tuple #[.agg #[.int .i64 0, .int .i64 0], .int .i64 4]) ∧ Below w.heap.size w w' := by
  have AH := Lib.hid A
  clear A
  go_enter Tryd.func41, Tryd.ntmps41
  go_wp2_with fail
  (go_at_call 55; refine (valid_any p0 p1 _).mono ?_; rintro e w1 ⟨rfl, hb1⟩; obtain ⟨hB1, hz1, hc1, hf1⟩ := grow4 (w := w) (by go_grown) hb1; (try simp only [World.size_alloc, World.size_setCell, World.size_drew] at hz1); (try have hy1 := Nat.lt_of_succ_le hz1); (try have hx1 := Nat.lt_of_succ_lt hy1); (try have hw1 := Nat.lt_of_succ_lt hx1); (try have hv1 := Nat.lt_of_succ_lt hw1); (try have ha1 : w.heap.size < w1.heap.size := (by omega)); (try have hi1 : w.heap.size + 1 < w1.heap.size := (by omega)); (try have hj1 : w.heap.size + 1 + 1 < w1.heap.size := (by omega)); (try have hk1 : w.heap.size + 1 + 1 + 1 < w1.heap.size := (by omega)); (try have hl1 : w.heap.size + 1 + 1 + 1 + 1 < w1.heap.size := (by omega)))
  have k01 : w1.cell? ⟨w.heap.size + 1 + 1, 0, none⟩ = some (.int .i64 0) := (hc1 _ _ (by first | go_size | assumption | omega | (simp; omega))).trans (by first | go_cell | assumption | (refine (World.cell?_alloc_lt _ _ _ (by first | assumption | omega)).trans ?_; assumption))
  have k11 : w1.cell? ⟨w.heap.size + 1 + 1, 1, none⟩ = some (.int .i64 0) := (hc1 _ _ (by first | go_size | assumption | omega | (simp; omega))).trans (by first | go_cell | assumption | (refine (World.cell?_alloc_lt _ _ _ (by first | assumption | omega)).trans ?_; assumption))
  go_wp2_with fail
  (go_at_call 55; refine (valid_any q0 q1 _).mono ?_; rintro e w2 ⟨rfl, hb2⟩; obtain ⟨hB2, hz2, hc2, hf2⟩ := grow4 (w := w) (by go_grown) hb2; (try simp only [World.size_alloc, World.size_setCell, World.size_drew] at hz2); (try have hy2 := Nat.lt_of_succ_le hz2); (try have hx2 := Nat.lt_of_succ_lt hy2); (try have hw2 := Nat.lt_of_succ_lt hx2); (try have hv2 := Nat.lt_of_succ_lt hw2); (try have ha2 : w.heap.size < w2.heap.size := (by omega)); (try have hi2 : w.heap.size + 1 < w2.heap.size := (by omega)); (try have hj2 : w.heap.size + 1 + 1 < w2.heap.size := (by omega)); (try have hk2 : w.heap.size + 1 + 1 + 1 < w2.heap.size := (by omega)); (try have hl2 : w.heap.size + 1 + 1 + 1 + 1 < w2.heap.size := (by omega)))
  have k02 : w2.cell? ⟨w.heap.size + 1 + 1, 0, none⟩ = some (.int .i64 0) := (hc2 _ _ (by first | go_size | assumption | omega | (simp; omega))).trans (by first | go_cell | assumption | (refine (World.cell?_alloc_lt _ _ _ (by first | assumption | omega)).trans ?_; assumption))
  have k12 : w2.cell? ⟨w.heap.size + 1 + 1, 1, none⟩ = some (.int .i64 0) := (hc2 _ _ (by first | go_size | assumption | omega | (simp; omega))).trans (by first | go_cell | assumption | (refine (World.cell?_alloc_lt _ _ _ (by first | assumption | omega)).trans ?_; assumption))
  go_wp2_with fail
  (go_at_call 46; refine (among_any _ _ _ _).mono ?_; rintro e w' ⟨rfl, rfl⟩)
  go_wp2_with fail
  (go_at_call 69; refine (AH.out _).mono ?_; rintro e w3 ⟨rfl, hb3⟩; obtain ⟨hB3, hz3, hc3, hf3⟩ := grow4 (w := w) (by go_grown) hb3; (try simp only [World.size_alloc, World.size_setCell, World.size_drew] at hz3); (try have hy3 := Nat.lt_of_succ_le hz3); (try have hx3 := Nat.lt_of_succ_lt hy3); (try have hw3 := Nat.lt_of_succ_lt hx3); (try have hv3 := Nat.lt_of_succ_lt hw3); (try have ha3 : w.heap.size < w3.heap.size := (by omega)); (try have hi3 : w.heap.size + 1 < w3.heap.size := (by omega)); (try have hj3 : w.heap.size + 1 + 1 < w3.heap.size := (by omega)); (try have hk3 : w.heap.size + 1 + 1 + 1 < w3.heap.size := (by omega)); (try have hl3 : w.heap.size + 1 + 1 + 1 + 1 < w3.heap.size := (by omega)))
  have k03 : w3.cell? ⟨w.heap.size + 1 + 1, 0, none⟩ = some (.int .i64 0) := (hc3 _ _ (by first | go_size | assumption | omega | (simp; omega))).trans (by first | go_cell | assumption | (refine (World.cell?_alloc_lt _ _ _ (by first | assumption | omega)).trans ?_; assumption))
  have k13 : w3.cell? ⟨w.heap.size + 1 + 1, 1, none⟩ = some (.int .i64 0) := (hc3 _ _ (by first | go_size | assumption | omega | (simp; omega))).trans (by first | go_cell | assumption | (refine (World.cell?_alloc_lt _ _ _ (by first | assumption | omega)).trans ?_; assumption))
  go_wp2_with fail
  (go_at_call 55; refine (valid_any X Y _).mono ?_; rintro e w4 ⟨rfl, hb4⟩; obtain ⟨hB4, hz4, hc4, hf4⟩ := grow4 (w := w) (by go_grown) hb4; (try simp only [World.size_alloc, World.size_setCell, World.size_drew] at hz4); (try have hy4 := Nat.lt_of_succ_le hz4); (try have hx4 := Nat.lt_of_succ_lt hy4); (try have hw4 := Nat.lt_of_succ_lt hx4); (try have hv4 := Nat.lt_of_succ_lt hw4); have l3_4 : w3.heap.size < w4.heap.size := (by omega); have m3_4 : w3.heap.size < w4.heap.size + 1 := (by omega); have o3_4 : w3.heap.size ≤ w4.heap.size := (by omega); (try have ha4 : w.heap.size < w4.heap.size := (by omega)); (try have hi4 : w.heap.size + 1 < w4.heap.size := (by omega)); (try have hj4 : w.heap.size + 1 + 1 < w4.heap.size := (by omega)); (try have hk4 : w.heap.size + 1 + 1 + 1 < w4.heap.size := (by omega)); (try have hl4 : w.heap.size + 1 + 1 + 1 + 1 < w4.heap.size := (by omega)))
  have k04 : w4.cell? ⟨w.heap.size + 1 + 1, 0, none⟩ = some (.int .i64 0) := (hc4 _ _ (by first | go_size | assumption | omega | (simp; omega))).trans (by first | go_cell | assumption | (refine (World.cell?_alloc_lt _ _ _ (by first | assumption | omega)).trans ?_; assumption))
  have k14 : w4.cell? ⟨w.heap.size + 1 + 1, 1, none⟩ = some (.int .i64 0) := (hc4 _ _ (by first | go_size | assumption | omega | (simp; omega))).trans (by first | go_cell | assumption | (refine (World.cell?_alloc_lt _ _ _ (by first | assumption | omega)).trans ?_; assumption))
  go_wp2_with fail
  have z0 := set2a (v0 := .int .i64 0) k04
  have z1 := (set2 (v0 := .int .i64 0) (v1 := .int .i64 0) k04 k14).1
  have z2 := (set2 (v0 := .int .i64 0) (v1 := .int .i64 0) k04 k14).2
  exact bodyPost_ret (v := .tuple #[.agg #[.int .i64 0, .int .i64 0], .int .i64 4]) (by simp [results, Tryd.results41, go_sem, z0, z1, z2]) rfl ⟨rfl, (hB4.setCell (show w.heap.size ≤ w.heap.size + 1 + 1 by omega) _).setCell (show w.heap.size ≤ w.heap.size + 1 + 1 by omega) _⟩
end Go.Proofs.YtfcjdmpfoogljaaDoor
