/-
  Contracts of layer 1: rings.
-/
import Derived.Test.YtfcjdmpfoogljaaDoorD
import Derived.BigQuiet
import Derived.Deep.QuietTactic
set_option linter.unusedVariables false
set_option linter.unusedSimpArgs false
namespace Go.Proofs.YtfcjdmpfoogljaaDoor
open Go.ChangeShapes Go.WideShapes Go.ChangeAt Go.RowKit

/-- The table of a ring, where the program lays it. -/
structure Tab (w : World) : Prop where
  size : 0 < w.heap.size
  c0 : w.cell? ⟨0, 0, none⟩ = some (.int .i64 4096)
  c1 : w.cell? ⟨0, 1, none⟩ = some (.int .i64 0)
  c2 : w.cell? ⟨0, 2, none⟩ = some (.int .i64 3784)
  c3 : w.cell? ⟨0, 3, none⟩ = some (.int .i64 1567)
  c4 : w.cell? ⟨0, 4, none⟩ = some (.int .i64 2896)
  c5 : w.cell? ⟨0, 5, none⟩ = some (.int .i64 2896)
  c6 : w.cell? ⟨0, 6, none⟩ = some (.int .i64 1567)
  c7 : w.cell? ⟨0, 7, none⟩ = some (.int .i64 3784)
theorem Tab.below {B : Nat} {w w' : World} (h : Tab w) (hb : Below B w w') (hB : 0 < B) : Tab w' :=
  ⟨Nat.lt_of_lt_of_le h.size hb.size, (hb.cell (p := ⟨0, 0, none⟩) hB).trans h.c0, (hb.cell (p := ⟨0, 1, none⟩) hB).trans h.c1, (hb.cell (p := ⟨0, 2, none⟩) hB).trans h.c2, (hb.cell (p := ⟨0, 3, none⟩) hB).trans h.c3,
    (hb.cell (p := ⟨0, 4, none⟩) hB).trans h.c4, (hb.cell (p := ⟨0, 5, none⟩) hB).trans h.c5, (hb.cell (p := ⟨0, 6, none⟩) hB).trans h.c6, (hb.cell (p := ⟨0, 7, none⟩) hB).trans h.c7⟩

theorem below_drewN {B : Nat} {a w : World} (h : Below B a w) (n : Nat) : Below B a (w.drewN n) := ⟨h.os, h.tape, h.output, h.size, h.block⟩

/-- The pairs of the points of a ring. -/
def pairs : List (Int × Int) := [(4096, 0), (3784, 1567), (2896, 2896), (1567, 3784), (0, 4096), (-1567, 3784), (-2896, 2896), (-3784, 1567), (-4096, 0), (-3784, -1567), (-2896, -2896), (-1567, -3784), (0, -4096), (1567, -3784), (2896, -2896), (3784, -1567)]
def pc (k : Nat) : Int := (pairs.getD k (0, 0)).1
def ps (k : Nat) : Int := (pairs.getD k (0, 0)).2

theorem corner_0 (w : World) (h : Tab w) : Calls Tryd.prog 79 #[.int .i64 0] w fun e w' => e = .returned (.tuple #[.int .i64 4096, .int .i64 0]) ∧ Below w.heap.size w w' := by
  obtain ⟨hz, c0, c1, c2, c3, c4, c5, c6, c7⟩ := h
  have hz' : ¬ (0 = w.heap.size) := by omega
  go_enter Tryd.func79, Tryd.ntmps79
  go_wp2
  go_quiet (fail)
  go_wp2
  go_rounds 4
  go_returns
  exact ⟨rfl, below_drewN (by go_grown) _⟩
theorem corner_1 (w : World) (h : Tab w) : Calls Tryd.prog 79 #[.int .i64 1] w fun e w' => e = .returned (.tuple #[.int .i64 3784, .int .i64 1567]) ∧ Below w.heap.size w w' := by
  obtain ⟨hz, c0, c1, c2, c3, c4, c5, c6, c7⟩ := h
  have hz' : ¬ (0 = w.heap.size) := by omega
  go_enter Tryd.func79, Tryd.ntmps79
  go_wp2
  go_quiet (fail)
  go_wp2
  go_rounds 4
  go_returns
  exact ⟨rfl, below_drewN (by go_grown) _⟩
theorem corner_2 (w : World) (h : Tab w) : Calls Tryd.prog 79 #[.int .i64 2] w fun e w' => e = .returned (.tuple #[.int .i64 2896, .int .i64 2896]) ∧ Below w.heap.size w w' := by
  obtain ⟨hz, c0, c1, c2, c3, c4, c5, c6, c7⟩ := h
  have hz' : ¬ (0 = w.heap.size) := by omega
  go_enter Tryd.func79, Tryd.ntmps79
  go_wp2
  go_quiet (fail)
  go_wp2
  go_rounds 4
  go_returns
  exact ⟨rfl, below_drewN (by go_grown) _⟩
theorem corner_3 (w : World) (h : Tab w) : Calls Tryd.prog 79 #[.int .i64 3] w fun e w' => e = .returned (.tuple #[.int .i64 1567, .int .i64 3784]) ∧ Below w.heap.size w w' := by
  obtain ⟨hz, c0, c1, c2, c3, c4, c5, c6, c7⟩ := h
  have hz' : ¬ (0 = w.heap.size) := by omega
  go_enter Tryd.func79, Tryd.ntmps79
  go_wp2
  go_quiet (fail)
  go_wp2
  go_rounds 4
  go_returns
  exact ⟨rfl, below_drewN (by go_grown) _⟩
theorem corner_4 (w : World) (h : Tab w) : Calls Tryd.prog 79 #[.int .i64 4] w fun e w' => e = .returned (.tuple #[.int .i64 0, .int .i64 4096]) ∧ Below w.heap.size w w' := by
  obtain ⟨hz, c0, c1, c2, c3, c4, c5, c6, c7⟩ := h
  have hz' : ¬ (0 = w.heap.size) := by omega
  go_enter Tryd.func79, Tryd.ntmps79
  go_wp2
  go_quiet (fail)
  go_wp2
  go_rounds 4
  go_returns
  exact ⟨rfl, below_drewN (by go_grown) _⟩
theorem corner_5 (w : World) (h : Tab w) : Calls Tryd.prog 79 #[.int .i64 5] w fun e w' => e = .returned (.tuple #[.int .i64 (-1567), .int .i64 3784]) ∧ Below w.heap.size w w' := by
  obtain ⟨hz, c0, c1, c2, c3, c4, c5, c6, c7⟩ := h
  have hz' : ¬ (0 = w.heap.size) := by omega
  go_enter Tryd.func79, Tryd.ntmps79
  go_wp2
  go_quiet (fail)
  go_wp2
  go_rounds 4
  go_returns
  exact ⟨rfl, below_drewN (by go_grown) _⟩
theorem corner_6 (w : World) (h : Tab w) : Calls Tryd.prog 79 #[.int .i64 6] w fun e w' => e = .returned (.tuple #[.int .i64 (-2896), .int .i64 2896]) ∧ Below w.heap.size w w' := by
  obtain ⟨hz, c0, c1, c2, c3, c4, c5, c6, c7⟩ := h
  have hz' : ¬ (0 = w.heap.size) := by omega
  go_enter Tryd.func79, Tryd.ntmps79
  go_wp2
  go_quiet (fail)
  go_wp2
  go_rounds 4
  go_returns
  exact ⟨rfl, below_drewN (by go_grown) _⟩
theorem corner_7 (w : World) (h : Tab w) : Calls Tryd.prog 79 #[.int .i64 7] w fun e w' => e = .returned (.tuple #[.int .i64 (-3784), .int .i64 1567]) ∧ Below w.heap.size w w' := by
  obtain ⟨hz, c0, c1, c2, c3, c4, c5, c6, c7⟩ := h
  have hz' : ¬ (0 = w.heap.size) := by omega
  go_enter Tryd.func79, Tryd.ntmps79
  go_wp2
  go_quiet (fail)
  go_wp2
  go_rounds 4
  go_returns
  exact ⟨rfl, below_drewN (by go_grown) _⟩
theorem corner_8 (w : World) (h : Tab w) : Calls Tryd.prog 79 #[.int .i64 8] w fun e w' => e = .returned (.tuple #[.int .i64 (-4096), .int .i64 0]) ∧ Below w.heap.size w w' := by
  obtain ⟨hz, c0, c1, c2, c3, c4, c5, c6, c7⟩ := h
  have hz' : ¬ (0 = w.heap.size) := by omega
  go_enter Tryd.func79, Tryd.ntmps79
  go_wp2
  go_quiet (fail)
  go_wp2
  go_rounds 4
  go_returns
  exact ⟨rfl, below_drewN (by go_grown) _⟩
theorem corner_9 (w : World) (h : Tab w) : Calls Tryd.prog 79 #[.int .i64 9] w fun e w' => e = .returned (.tuple #[.int .i64 (-3784), .int .i64 (-1567)]) ∧ Below w.heap.size w w' := by
  obtain ⟨hz, c0, c1, c2, c3, c4, c5, c6, c7⟩ := h
  have hz' : ¬ (0 = w.heap.size) := by omega
  go_enter Tryd.func79, Tryd.ntmps79
  go_wp2
  go_quiet (fail)
  go_wp2
  go_rounds 4
  go_returns
  exact ⟨rfl, below_drewN (by go_grown) _⟩
theorem corner_10 (w : World) (h : Tab w) : Calls Tryd.prog 79 #[.int .i64 10] w fun e w' => e = .returned (.tuple #[.int .i64 (-2896), .int .i64 (-2896)]) ∧ Below w.heap.size w w' := by
  obtain ⟨hz, c0, c1, c2, c3, c4, c5, c6, c7⟩ := h
  have hz' : ¬ (0 = w.heap.size) := by omega
  go_enter Tryd.func79, Tryd.ntmps79
  go_wp2
  go_quiet (fail)
  go_wp2
  go_rounds 4
  go_returns
  exact ⟨rfl, below_drewN (by go_grown) _⟩
theorem corner_11 (w : World) (h : Tab w) : Calls Tryd.prog 79 #[.int .i64 11] w fun e w' => e = .returned (.tuple #[.int .i64 (-1567), .int .i64 (-3784)]) ∧ Below w.heap.size w w' := by
  obtain ⟨hz, c0, c1, c2, c3, c4, c5, c6, c7⟩ := h
  have hz' : ¬ (0 = w.heap.size) := by omega
  go_enter Tryd.func79, Tryd.ntmps79
  go_wp2
  go_quiet (fail)
  go_wp2
  go_rounds 4
  go_returns
  exact ⟨rfl, below_drewN (by go_grown) _⟩
theorem corner_12 (w : World) (h : Tab w) : Calls Tryd.prog 79 #[.int .i64 12] w fun e w' => e = .returned (.tuple #[.int .i64 0, .int .i64 (-4096)]) ∧ Below w.heap.size w w' := by
  obtain ⟨hz, c0, c1, c2, c3, c4, c5, c6, c7⟩ := h
  have hz' : ¬ (0 = w.heap.size) := by omega
  go_enter Tryd.func79, Tryd.ntmps79
  go_wp2
  go_quiet (fail)
  go_wp2
  go_rounds 4
  go_returns
  exact ⟨rfl, below_drewN (by go_grown) _⟩
theorem corner_13 (w : World) (h : Tab w) : Calls Tryd.prog 79 #[.int .i64 13] w fun e w' => e = .returned (.tuple #[.int .i64 1567, .int .i64 (-3784)]) ∧ Below w.heap.size w w' := by
  obtain ⟨hz, c0, c1, c2, c3, c4, c5, c6, c7⟩ := h
  have hz' : ¬ (0 = w.heap.size) := by omega
  go_enter Tryd.func79, Tryd.ntmps79
  go_wp2
  go_quiet (fail)
  go_wp2
  go_rounds 4
  go_returns
  exact ⟨rfl, below_drewN (by go_grown) _⟩
theorem corner_14 (w : World) (h : Tab w) : Calls Tryd.prog 79 #[.int .i64 14] w fun e w' => e = .returned (.tuple #[.int .i64 2896, .int .i64 (-2896)]) ∧ Below w.heap.size w w' := by
  obtain ⟨hz, c0, c1, c2, c3, c4, c5, c6, c7⟩ := h
  have hz' : ¬ (0 = w.heap.size) := by omega
  go_enter Tryd.func79, Tryd.ntmps79
  go_wp2
  go_quiet (fail)
  go_wp2
  go_rounds 4
  go_returns
  exact ⟨rfl, below_drewN (by go_grown) _⟩
theorem corner_15 (w : World) (h : Tab w) : Calls Tryd.prog 79 #[.int .i64 15] w fun e w' => e = .returned (.tuple #[.int .i64 3784, .int .i64 (-1567)]) ∧ Below w.heap.size w w' := by
  obtain ⟨hz, c0, c1, c2, c3, c4, c5, c6, c7⟩ := h
  have hz' : ¬ (0 = w.heap.size) := by omega
  go_enter Tryd.func79, Tryd.ntmps79
  go_wp2
  go_quiet (fail)
  go_wp2
  go_rounds 4
  go_returns
  exact ⟨rfl, below_drewN (by go_grown) _⟩
theorem corner_any (k : Nat) (hk : k < 16) (w : World) (h : Tab w) : Calls Tryd.prog 79 #[.int .i64 k] w fun e w' => e = .returned (.tuple #[.int .i64 (pc k), .int .i64 (ps k)]) ∧ Below w.heap.size w w' := by
  match k, hk with
  | 0, _ => exact corner_0 w h
  | 1, _ => exact corner_1 w h
  | 2, _ => exact corner_2 w h
  | 3, _ => exact corner_3 w h
  | 4, _ => exact corner_4 w h
  | 5, _ => exact corner_5 w h
  | 6, _ => exact corner_6 w h
  | 7, _ => exact corner_7 w h
  | 8, _ => exact corner_8 w h
  | 9, _ => exact corner_9 w h
  | 10, _ => exact corner_10 w h
  | 11, _ => exact corner_11 w h
  | 12, _ => exact corner_12 w h
  | 13, _ => exact corner_13 w h
  | 14, _ => exact corner_14 w h
  | 15, _ => exact corner_15 w h
  | n + 16, h => omega
end Go.Proofs.YtfcjdmpfoogljaaDoor
