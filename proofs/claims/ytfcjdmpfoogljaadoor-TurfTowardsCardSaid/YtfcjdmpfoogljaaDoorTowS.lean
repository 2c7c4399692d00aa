/-
  Contracts of the document's own answers: places towards another one, refused.
-/
import Derived.Test.YtfcjdmpfoogljaaDoorTowR
set_option linter.unusedVariables false
set_option linter.unusedSimpArgs false
namespace Go.Proofs.YtfcjdmpfoogljaaDoor
open Go.ChangeShapes Go.WideShapes Go.ChangeAt Go.RowKit

set_option maxHeartbeats 2000000 in
theorem rTowards_bad (p0 p1 q0 q1 l : Int) (w : World) (h : ¬ (M.In p0 p1 ∧ M.In q0 q1)) :
    Calls Tryd.prog 41 #[.agg #[.int .i64 p0, .int .i64 p1], .agg #[.int .i64 q0, .int .i64 q1], .int .i64 l] w fun e w' => e = .returned (.tuple #[.agg #[.int .i64 0, .int .i64 0], .int .i64 2]) ∧ Below w.heap.size w w' := by
  cases j1 : inB p0 p1
  · clear h
    go_enter Tryd.func41, Tryd.ntmps41
    go_wp2_with fail
    (go_at_call 55; refine (valid_any p0 p1 _).mono ?_; rintro e w1 ⟨rfl, hb1⟩; obtain ⟨hB1, hz1, hc1, hf1⟩ := grow4 (w := w) (by go_grown) hb1; (try simp only [World.size_alloc, World.size_setCell, World.size_drew] at hz1); (try have hy1 := Nat.lt_of_succ_le hz1); (try have hx1 := Nat.lt_of_succ_lt hy1); (try have hw1 := Nat.lt_of_succ_lt hx1); (try have hv1 := Nat.lt_of_succ_lt hw1); (try have ha1 : w.heap.size < w1.heap.size := (by omega)); (try have hi1 : w.heap.size + 1 < w1.heap.size := (by omega)); (try have hj1 : w.heap.size + 1 + 1 < w1.heap.size := (by omega)); (try have hk1 : w.heap.size + 1 + 1 + 1 < w1.heap.size := (by omega)); (try have hl1 : w.heap.size + 1 + 1 + 1 + 1 < w1.heap.size := (by omega)))
    have k01 : w1.cell? ⟨w.heap.size + 1 + 1, 0, none⟩ = some (.int .i64 0) := (hc1 _ _ (by first | go_size | assumption | omega | (simp; omega))).trans (by first | go_cell | assumption | (refine (World.cell?_alloc_lt _ _ _ (by first | assumption | omega)).trans ?_; assumption))
    have k11 : w1.cell? ⟨w.heap.size + 1 + 1, 1, none⟩ = some (.int .i64 0) := (hc1 _ _ (by first | go_size | assumption | omega | (simp; omega))).trans (by first | go_cell | assumption | (refine (World.cell?_alloc_lt _ _ _ (by first | assumption | omega)).trans ?_; assumption))
    go_wp2_with fail
    have z0 := set2a (v0 := .int .i64 0) k01
    have z1 := (set2 (v0 := .int .i64 0) (v1 := .int .i64 0) k01 k11).1
    have z2 := (set2 (v0 := .int .i64 0) (v1 := .int .i64 0) k01 k11).2
    exact bodyPost_ret (v := .tuple #[.agg #[.int .i64 0, .int .i64 0], .int .i64 2]) (by simp [results, Tryd.results41, go_sem, z0, z1, z2]) rfl ⟨rfl, (hB1.setCell (show w.heap.size ≤ w.heap.size + 1 + 1 by omega) _).setCell (show w.heap.size ≤ w.heap.size + 1 + 1 by omega) _⟩
  · have j2 : inB q0 q1 = false := inB_no (fun k => h ⟨of_decide_eq_true (p := (-4194304 ≤ p0 ∧ p0 ≤ 4194304) ∧ (-4194304 ≤ p1 ∧ p1 ≤ 4194304)) j1, k⟩)
    clear h
    go_enter Tryd.func41, Tryd.ntmps41
    go_wp2_with fail
    (go_at_call 55; refine (valid_any p0 p1 _).mono ?_; rintro e w1 ⟨rfl, hb1⟩; obtain ⟨hB1, hz1, hc1, hf1⟩ := grow4 (w := w) (by go_grown) hb1; (try simp only [World.size_alloc, World.size_setCell, World.size_drew] at hz1); (try have hy1 := Nat.lt_of_succ_le hz1); (try have hx1 := Nat.lt_of_succ_lt hy1); (try have hw1 := Nat.lt_of_succ_lt hx1); (try have hv1 := Nat.lt_of_succ_lt hw1); (try have ha1 : w.heap.size < w1.heap.size := (by omega)); (try have hi1 : w.heap.size + 1 < w1.heap.size := (by omega)); (try have hj1 : w.heap.size + 1 + 1 < w1.heap.size := (by omega)); (try have hk1 : w.heap.size + 1 + 1 + 1 < w1.heap.size := (by omega)); (try have hl1 : w.heap.size + 1 + 1 + 1 + 1 < w1.heap.size := (by omega)))
    have k01 : w1.cell? ⟨w.heap.size + 1 + 1, 0, none⟩ = some (.int .i64 0) := (hc1 _ _ (by first | go_size | assumption | omega | (simp; omega))).trans (by first | go_cell | assumption | (refine (World.cell?_alloc_lt _ _ _ (by first | assumption | omega)).trans ?_; assumption))
    have k11 : w1.cell? ⟨w.heap.size + 1 + 1, 1, none⟩ = some (.int .i64 0) := (hc1 _ _ (by first | go_size | assumption | omega | (simp; omega))).trans (by first | go_cell | assumption | (refine (World.cell?_alloc_lt _ _ _ (by first | assumption | omega)).trans ?_; assumption))
    go_wp2_with fail
    (go_at_call 55; refine (valid_any q0 q1 _).mono ?_; rintro e w2 ⟨rfl, hb2⟩; obtain ⟨hB2, hz2, hc2, hf2⟩ := grow4 (w := w) (by go_grown) hb2; (try simp only [World.size_alloc, World.size_setCell, World.size_drew] at hz2); (try have hy2 := Nat.lt_of_succ_le hz2); (try have hx2 := Nat.lt_of_succ_lt hy2); (try have hw2 := Nat.lt_of_succ_lt hx2); (try have hv2 := Nat.lt_of_succ_lt hw2); (try have ha2 : w.heap.size < w2.heap.size := (by omega)); (try have hi2 : w.heap.size + 1 < w2.heap.size := (by omega)); (try have hj2 : w.heap.size + 1 + 1 < w2.heap.size := (by omega)); (try have hk2 : w.heap.size + 1 + 1 + 1 < w2.heap.size := (by omega)); (try have hl2 : w.heap.size + 1 + 1 + 1 + 1 < w2.heap.size := (by omega)))
    have k02 : w2.cell? ⟨w.heap.size + 1 + 1, 0, none⟩ = some (.int .i64 0) := (hc2 _ _ (by first | go_size | assumption | omega | (simp; omega))).trans (by first | go_cell | assumption | (refine (World.cell?_alloc_lt _ _ _ (by first | assumption | omega)).trans ?_; assumption))
    have k12 : w2.cell? ⟨w.heap.size + 1 + 1, 1, none⟩ = some (.int .i64 0) := (hc2 _ _ (by first | go_size | assumption | omega | (simp; omega))).trans (by first | go_cell | assumption | (refine (World.cell?_alloc_lt _ _ _ (by first | assumption | omega)).trans ?_; assumption))
    go_wp2_with fail
    have z0 := set2a (v0 := .int .i64 0) k02
    have z1 := (set2 (v0 := .int .i64 0) (v1 := .int .i64 0) k02 k12).1
    have z2 := (set2 (v0 := .int .i64 0) (v1 := .int .i64 0) k02 k12).2
    exact bodyPost_ret (v := .tuple #[.agg #[.int .i64 0, .int .i64 0], .int .i64 2]) (by simp [results, Tryd.results41, go_sem, z0, z1, z2]) rfl ⟨rfl, (hB2.setCell (show w.heap.size ≤ w.heap.size + 1 + 1 by omega) _).setCell (show w.heap.size ≤ w.heap.size + 1 + 1 by omega) _⟩
set_option maxHeartbeats 2000000 in
theorem rTowards_range (p0 p1 q0 q1 l : Int) (w : World) (h1 : M.In p0 p1) (h2 : M.In q0 q1) (hl : l < 0 ∨ 4194304 < l) :
    Calls Tryd.prog 41 #[.agg #[.int .i64 p0, .int .i64 p1], .agg #[.int .i64 q0, .int .i64 q1], .int .i64 l] w fun e w' => e = .returned (.tuple #[.agg #[.int .i64 0, .int .i64 0], .int .i64 3]) ∧ Below w.heap.size w w' := by
  have j1 := inB_yes h1
  have j2 := inB_yes h2
  have j3 : M.among l 0 4194304 = false := M.among_no hl
  clear h1 h2 hl
  go_enter Tryd.func41, Tryd.ntmps41
  go_wp2_with fail
  (go_at_call 55; refine (valid_any p0 p1 _).mono ?_; rintro e w1 ⟨rfl, hb1⟩; obtain ⟨hB1, hz1, hc1, hf1⟩ := grow4 (w := w) (by go_grown) hb1; (try simp only [World.size_alloc, World.size_setCell, World.size_drew] at hz1); (try have hy1 := Nat.lt_of_succ_le hz1); (try have hx1 := Nat.lt_of_succ_lt hy1); (try have hw1 := Nat.lt_of_succ_lt hx1); (try have hv1 := Nat.lt_of_succ_lt hw1); (try have ha1 : w.heap.size < w1.heap.size := (by omega)); (try have hi1 : w.heap.size + 1 < w1.heap.size := (by omega)); (try have hj1 : w.heap.size + 1 + 1 < w1.heap.size := (by omega)); (try have hk1 : w.heap.size + 1 + 1 + 1 < w1.heap.size := (by omega)); (try have hl1 : w.heap.size + 1 + 1 + 1 + 1 < w1.heap.size := (by omega)))
  have k01 : w1.cell? ⟨w.heap.size + 1 + 1, 0, none⟩ = some (.int .i64 0) := (hc1 _ _ (by first | go_size | assumption | omega | (simp; omega))).trans (by first | go_cell | assumption | (refine (World.cell?_alloc_lt _ _ _ (by first | assumption | omega)).trans ?_; assumption))
  have k11 : w1.cell? ⟨w.heap.size + 1 + 1, 1, none⟩ = some (.int .i64 0) := (hc1 _ _ (by first | go_size | assumption | omega | (simp; omega))).trans (by first | go_cell | assumption | (refine (World.cell?_alloc_lt _ _ _ (by first | assumption | omega)).trans ?_; assumption))
  go_wp2_with fail
  (go_at_call 55; refine (valid_any q0 q1 _).mono ?_; rintro e w2 ⟨rfl, hb2⟩; obtain ⟨hB2, hz2, hc2, hf2⟩ := grow4 (w := w) (by go_grown) hb2; (try simp only [World.size_alloc, World.size_setCell, World.size_drew] at hz2); (try have hy2 := Nat.lt_of_succ_le hz2); (try have hx2 := Nat.lt_of_succ_lt hy2); (try have hw2 := Nat.lt_of_succ_lt hx2); (try have hv2 := Nat.lt_of_succ_lt hw2); (try have ha2 : w.heap.size < w2.heap.size := (by omega)); (try have hi2 : w.heap.size + 1 < w2.heap.size := (by omega)); (try have hj2 : w.heap.size + 1 + 1 < w2.heap.size := (by omega)); (try have hk2 : w.heap.size + 1 + 1 + 1 < w2.heap.size := (by omega)); (try have hl2 : w.heap.size + 1 + 1 + 1 + 1 < w2.heap.size := (by omega)))
  have k02 : w2.cell? ⟨w.heap.size + 1 + 1, 0, none⟩ = some (.int .i64 0) := (hc2 _ _ (by first | go_size | assumption | omega | (simp; omega))).trans (by first | go_cell | assumption | (refine (World.cell?_alloc_lt _ _ _ (by first | assumption | omega)).trans ?_; assumption))
  have k12 : w2.cell? ⟨w.heap.size + 1 + 1, 1, none⟩ = some (.int .i64 0) := (hc2 _ _ (by first | go_size | assumption | omega | (simp; omega))).trans (by first | go_cell | assumption | (refine (World.cell?_alloc_lt _ _ _ (by first | assumption | omega)).trans ?_; assumption))
  go_wp2_with fail
  (go_at_call 46; refine (among_any _ _ _ _).mono ?_; rintro e w' ⟨rfl, rfl⟩)
  go_wp2_with fail
  have z0 := set2a (v0 := .int .i64 0) k02
  have z1 := (set2 (v0 := .int .i64 0) (v1 := .int .i64 0) k02 k12).1
  have z2 := (set2 (v0 := .int .i64 0) (v1 := .int .i64 0) k02 k12).2
  exact bodyPost_ret (v := .tuple #[.agg #[.int .i64 0, .int .i64 0], .int .i64 3]) (by simp [results, Tryd.results41, go_sem, z0, z1, z2]) rfl ⟨rfl, (hB2.setCell (show w.heap.size ≤ w.heap.size + 1 + 1 by omega) _).setCell (show w.heap.size ≤ w.heap.size + 1 + 1 by omega) _⟩
set_option maxHeartbeats 2000000 in
theorem rTowards_zero (p0 p1 l : Int) (w : World) (h1 : M.In p0 p1) (l1 : 0 ≤ l) (l2 : l ≤ 4194304) :
    Calls Tryd.prog 41 #[.agg #[.int .i64 p0, .int .i64 p1], .agg #[.int .i64 p0, .int .i64 p1], .int .i64 l] w fun e w' => e = .returned (.tuple #[.agg #[.int .i64 0, .int .i64 0], .int .i64 9]) ∧ Below w.heap.size w w' := by
  have j1 := inB_yes h1
  have j3 := M.among_yes l1 l2
  clear h1 l1 l2
  go_enter Tryd.func41, Tryd.ntmps41
  go_wp2_with fail
  (go_at_call 55; refine (valid_any p0 p1 _).mono ?_; rintro e w1 ⟨rfl, hb1⟩; obtain ⟨hB1, hz1, hc1, hf1⟩ := grow4 (w := w) (by go_grown) hb1; (try simp only [World.size_alloc, World.size_setCell, World.size_drew] at hz1); (try have hy1 := Nat.lt_of_succ_le hz1); (try have hx1 := Nat.lt_of_succ_lt hy1); (try have hw1 := Nat.lt_of_succ_lt hx1); (try have hv1 := Nat.lt_of_succ_lt hw1); (try have ha1 : w.heap.size < w1.heap.size := (by omega)); (try have hi1 : w.heap.size + 1 < w1.heap.size := (by omega)); (try have hj1 : w.heap.size + 1 + 1 < w1.heap.size := (by omega)); (try have hk1 : w.heap.size + 1 + 1 + 1 < w1.heap.size := (by omega)); (try have hl1 : w.heap.size + 1 + 1 + 1 + 1 < w1.heap.size := (by omega)))
  have k01 : w1.cell? ⟨w.heap.size + 1 + 1, 0, none⟩ = some (.int .i64 0) := (hc1 _ _ (by first | go_size | assumption | omega | (simp; omega))).trans (by first | go_cell | assumption | (refine (World.cell?_alloc_lt _ _ _ (by first | assumption | omega)).trans ?_; assumption))
  have k11 : w1.cell? ⟨w.heap.size + 1 + 1, 1, none⟩ = some (.int .i64 0) := (hc1 _ _ (by first | go_size | assumption | omega | (simp; omega))).trans (by first | go_cell | assumption | (refine (World.cell?_alloc_lt _ _ _ (by first | assumption | omega)).trans ?_; assumption))
  go_wp2_with fail
  (go_at_call 55; refine (valid_any p0 p1 _).mono ?_; rintro e w2 ⟨rfl, hb2⟩; obtain ⟨hB2, hz2, hc2, hf2⟩ := grow4 (w := w) (by go_grown) hb2; (try simp only [World.size_alloc, World.size_setCell, World.size_drew] at hz2); (try have hy2 := Nat.lt_of_succ_le hz2); (try have hx2 := Nat.lt_of_succ_lt hy2); (try have hw2 := Nat.lt_of_succ_lt hx2); (try have hv2 := Nat.lt_of_succ_lt hw2); (try have ha2 : w.heap.size < w2.heap.size := (by omega)); (try have hi2 : w.heap.size + 1 < w2.heap.size := (by omega)); (try have hj2 : w.heap.size + 1 + 1 < w2.heap.size := (by omega)); (try have hk2 : w.heap.size + 1 + 1 + 1 < w2.heap.size := (by omega)); (try have hl2 : w.heap.size + 1 + 1 + 1 + 1 < w2.heap.size := (by omega)))
  have k02 : w2.cell? ⟨w.heap.size + 1 + 1, 0, none⟩ = some (.int .i64 0) := (hc2 _ _ (by first | go_size | assumption | omega | (simp; omega))).trans (by first | go_cell | assumption | (refine (World.cell?_alloc_lt _ _ _ (by first | assumption | omega)).trans ?_; assumption))
  have k12 : w2.cell? ⟨w.heap.size + 1 + 1, 1, none⟩ = some (.int .i64 0) := (hc2 _ _ (by first | go_size | assumption | omega | (simp; omega))).trans (by first | go_cell | assumption | (refine (World.cell?_alloc_lt _ _ _ (by first | assumption | omega)).trans ?_; assumption))
  go_wp2_with fail
  (go_at_call 46; refine (among_any _ _ _ _).mono ?_; rintro e w' ⟨rfl, rfl⟩)
  go_wp2_with fail
  have z0 := set2a (v0 := .int .i64 0) k02
  have z1 := (set2 (v0 := .int .i64 0) (v1 := .int .i64 0) k02 k12).1
  have z2 := (set2 (v0 := .int .i64 0) (v1 := .int .i64 0) k02 k12).2
  exact bodyPost_ret (v := .tuple #[.agg #[.int .i64 0, .int .i64 0], .int .i64 9]) (by simp [results, Tryd.results41, go_sem, z0, z1, z2]) rfl ⟨rfl, (hB2.setCell (show w.heap.size ≤ w.heap.size + 1 + 1 by omega) _).setCell (show w.heap.size ≤ w.heap.size + 1 + 1 by omega) _⟩
theorem chk_one {X Y : Int} : (M.chk [(X, Y)] = 0 ∧ inB X Y = true) ∨ (¬ M.chk [(X, Y)] = 0 ∧ inB X Y = false) := by
  rcases M.chk_cases [(X, Y)] with ⟨h, k⟩ | ⟨h, z, hp, hn⟩
  · exact .inl ⟨h, inB_yes (k (X, Y) (by simp))⟩
  · refine .inr ⟨by omega, inB_no (fun k => hn ?_)⟩
    simp at hp
    rw [hp]
    exact k
end Go.Proofs.YtfcjdmpfoogljaaDoor
