/-
  What the rows' list of variables gives: the cells of the table of a ring.
-/
import Derived.Test.YtfcjdmpfoogljaaDoorE
import Derived.Test.YtfcjdmpfoogljaaDoorKit
set_option linter.unusedVariables false
set_option linter.unusedSimpArgs false
namespace Go.Proofs.YtfcjdmpfoogljaaDoor
open Go.ChangeShapes Go.WideShapes Go.ChangeAt Go.RowKit

theorem own : ownKnob Tryd.prog.godebug = none := by kernel_rfl
theorem gTab : Tryd.prog.globalNamed "roquet/turf.quarter" = some 0 := by kernel_rfl
theorem gTabType : (Tryd.prog.globals[0]?).map (·.type) = some 107 := by kernel_rfl
theorem cQ : Tryd.prog.cellsOf 107 = 8 := by kernel_rfl
theorem cR : Tryd.prog.cellsOf 106 = 2 := by kernel_rfl
theorem cI : Tryd.prog.cellsOf 2 = 1 := by kernel_rfl

theorem eight_of {α : Type} {l : List α} (h : l.length = 8) : ∃ a b c d e f g i, l = [a, b, c, d, e, f, g, i] := by
  match l, h with
  | [a, b, c, d, e, f, g, i], _ => exact ⟨a, b, c, d, e, f, g, i, rfl⟩
theorem four_of {α : Type} {l : List α} (h : l.length = 4) : ∃ a b c d, l = [a, b, c, d] := by
  match l, h with
  | [a, b, c, d], _ => exact ⟨a, b, c, d, rfl⟩
theorem tab_of {W : World} (h : laidMetH Tryd.prog [("roquet/turf.quarter", Rows.laid_roquet_turf_quarter)] W) : Tab W := by
  rw [MakeChecks.laidMetH_plain _ _ _ (by kernel_rfl)] at h
  obtain ⟨ps, ⟨g0, t0, cs0, f0, p0, q0, hg0, ht0, hv0, hd0, _⟩, _⟩ := h
  obtain rfl := Option.some.inj (gTab.symm.trans hg0)
  obtain rfl := Option.some.inj (gTabType.symm.trans ht0)
  obtain ⟨xs, m, rfl, hx, hlen, hn, hel⟩ := DataW.trod_array Tryd.underlying107 hd0
  rw [cQ] at hlen
  simp only [cR] at hel
  unfold Rows.laid_roquet_turf_quarter at hx
  simp only [Prod.mk.injEq, DataW.agg.injEq] at hx
  obtain ⟨hx, _⟩ := hx
  obtain ⟨l⟩ := cs0
  obtain ⟨v0, v1, v2, v3, v4, v5, v6, v7, rfl⟩ := eight_of hlen
  obtain ⟨x0, x1, x2, x3, rfl⟩ := four_of hn
  simp only [List.map_cons, List.map_nil, List.cons.injEq, and_true] at hx
  obtain ⟨e0, e1, e2, e3⟩ := hx
  have row : ∀ (i : Nat) (x : DataW Unit × List MemPlace) (a b : Int) (u v : Value), i < 4 → [x0, x1, x2, x3][i]? = some x → DataW.agg [.lit (.int .i64 a), .lit (.int .i64 b)] = x.1 →
      (([v0, v1, v2, v3, v4, v5, v6, v7].drop (i * 2)).take 2) = [u, v] → u = .int .i64 a ∧ v = .int .i64 b := fun i x a b u v hi hxi hxe hcs => by
    have h1 := hel i hi
    rw [hxi] at h1
    have h2 : DataW.trod (fun _ => ()) Tryd.prog W 0 (fun _ => true) false m 106 [u, v] = some x := by rw [← hcs]; exact h1
    have h3 : x = (Lib.tabData .i64 [a, b], x.2) := Prod.ext hxe.symm rfl
    rw [h3] at h2
    have h4 := Lib.cells_of_tab Tryd.underlying106 Tryd.underlying2 cI cR h2
    simp only [List.map_cons, List.map_nil, List.cons.injEq, and_true] at h4
    exact h4
  obtain ⟨a0, a1⟩ := row 0 x0 _ _ v0 v1 (by decide) rfl e0 rfl
  obtain ⟨a2, a3⟩ := row 1 x1 _ _ v2 v3 (by decide) rfl e1 rfl
  obtain ⟨a4, a5⟩ := row 2 x2 _ _ v4 v5 (by decide) rfl e2 rfl
  obtain ⟨a6, a7⟩ := row 3 x3 _ _ v6 v7 (by decide) rfl e3 rfl
  have hc := World.var?_cell gTab hv0
  have c0 : W.cell? ⟨0, 0, none⟩ = some (.int .i64 4096) := by rw [hc 0, ← a0]; rfl
  refine ⟨?_, c0, by rw [hc 1, ← a1]; rfl, by rw [hc 2, ← a2]; rfl, by rw [hc 3, ← a3]; rfl, by rw [hc 4, ← a4]; rfl, by rw [hc 5, ← a5]; rfl, by rw [hc 6, ← a6]; rfl, by rw [hc 7, ← a7]; rfl⟩
  rcases Nat.lt_or_ge 0 W.heap.size with hlt | hge
  · exact hlt
  · have : W.heap[0]? = none := Array.getElem?_eq_none hge
    simp [World.cell?, this] at c0

/-- A WORLD FOR THE WITNESSES: the settled one, the table (block 0) holding what its initialiser lays. -/
noncomputable def laidWorld (os : Os) : World :=
  { World.holding Tryd.prog os ⟨#[], #[], []⟩ with heap := (World.holding Tryd.prog os ⟨#[], #[], []⟩).heap.modify 0 fun
      | .cells _ t frozen => .cells #[.int .i64 4096, .int .i64 0, .int .i64 3784, .int .i64 1567, .int .i64 2896, .int .i64 2896, .int .i64 1567, .int .i64 3784] t frozen
      | o => o }
theorem laidOut : laidOutB Tryd.prog = true := by kernel_rfl
end Go.Proofs.YtfcjdmpfoogljaaDoor
