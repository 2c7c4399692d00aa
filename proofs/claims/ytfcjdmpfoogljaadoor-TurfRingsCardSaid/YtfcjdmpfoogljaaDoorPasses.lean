/-
  Contracts of layer 1: does a segment pass a ring?
-/
import Derived.Test.YtfcjdmpfoogljaaDoorPassB
import Derived.Test.YtfcjdmpfoogljaaDoorSegB
import Derived.Test.YtfcjdmpfoogljaaDoorRoundM
set_option linter.unusedVariables false
set_option linter.unusedSimpArgs false
namespace Go.Proofs.YtfcjdmpfoogljaaDoor
open Go.ChangeShapes Go.WideShapes Go.ChangeAt Go.RowKit

theorem passes_any (a0 a1 b0 b1 : Int) (g : Nat) (pt : Nat → Int × Int) (w : World) (ha : M.In a0 a1) (hb : M.In b0 b1) (hpt : ∀ j, M.In (pt j).1 (pt j).2) (hg : g < w.heap.size) (hc : Corners w g pt) :
    Calls Tryd.prog 65 #[.agg #[.int .i64 a0, .int .i64 a1], .agg #[.int .i64 b0, .int .i64 b1], .slice (some ⟨g, 0, none⟩) 16 16] w fun e w' => (∃ r : Bool, e = .returned (.bool r) ∧ (r = true ↔ M.CrossP ((sidesTo pt 16).map (lr pt a0 a1 b0 b1)))) ∧ Below w.heap.size w w' :=
  callsIn_wide.1 (passes_in a0 a1 b0 b1 g pt w ha hb hpt hg hc)
theorem Row.corners {w : World} {g : Nat} {x y r : Int} (h : Row w g x y r 16) : Corners w g (rpt x y r) := h
/-- All corners are valid places. -/
theorem rpt_in (x y r : Int) (hx : M.In x y) (hc : M.chk (ringPts x y r) = 0) (j : Nat) : M.In (rpt x y r j).1 (rpt x y r j).2 := by
  rcases Nat.lt_or_ge j 16 with h | h
  · rcases M.chk_cases (ringPts x y r) with ⟨_, k⟩ | ⟨k, _⟩
    · refine k _ ?_
      unfold ringPts
      exact List.mem_map_of_mem (List.mem_range.2 h)
    · omega
  · have e : pairs.getD j (0, 0) = (0, 0) := by
      unfold List.getD
      rw [List.getElem?_eq_none (by simpa [pairs] using h)]
      rfl
    unfold rpt pc ps
    rw [e]
    simpa using hx
set_option maxHeartbeats 2000000 in
theorem Passes_ok (a0 a1 b0 b1 x y r : Int) (w : World) (ht : Tab w) (ha : M.In a0 a1) (hb : M.In b0 b1) (h : chkDisc x y r = 0) (hc : M.chk (ringPts x y r) = 0) :
    Calls Tryd.prog 36 #[.agg #[.int .i64 a0, .int .i64 a1], .agg #[.int .i64 b0, .int .i64 b1], .agg #[.int .i64 x, .int .i64 y, .int .i64 r]] w fun e w' =>
      (∃ r' : Bool, e = .returned (.tuple #[.bool r', .int .i64 0]) ∧ (r' = true ↔ M.CrossP ((sidesTo (rpt x y r) 16).map (lr (rpt x y r) a0 a1 b0 b1)))) ∧ Below w.heap.size w w' := by
  rcases chk2 (x := a0) (y := a1) (u := b0) (v := b1) with ⟨hk, _⟩ | ⟨_, hn⟩
  · have hz := ht.size
    have HT := Lib.hid ht
    have HA := Lib.hid ha
    have HB := Lib.hid hb
    have HD := Lib.hid h
    have HC := Lib.hid hc
    have HPT := Lib.hid (rpt_in x y r (chkDisc_in h).1 hc)
    clear ht ha hb h hc
    go_enter Tryd.func36, Tryd.ntmps36
    go_wp2_with fail
    (go_at_call 53; refine (checkAll_two a0 a1 b0 b1 _ _ _ (by go_size) (by go_cell) (by go_cell) (by go_cell) (by go_cell)).mono ?_; rintro e w1 ⟨rfl, hb1⟩; obtain ⟨hB1, hz1, hc1, hf1⟩ := grow4 (w := w) (by go_grown) hb1; (try simp only [World.size_alloc, World.size_setCell, World.size_drew] at hz1); (try have hy1 := Nat.lt_of_succ_le hz1); (try have hx1 := Nat.lt_of_succ_lt hy1); (try have hw1 := Nat.lt_of_succ_lt hx1); (try have hv1 := Nat.lt_of_succ_lt hw1); (try have ha1 : w.heap.size < w1.heap.size := (by omega)); (try have hi1 : w.heap.size + 1 < w1.heap.size := (by omega)); (try have hj1 : w.heap.size + 1 + 1 < w1.heap.size := (by omega)); (try have hk1 : w.heap.size + 1 + 1 + 1 < w1.heap.size := (by omega)); (try have hl1 : w.heap.size + 1 + 1 + 1 + 1 < w1.heap.size := (by omega)))
    go_wp2_with fail
    (go_at_call 34; refine (Ring_ok x y r _ (HT.out.below hB1 hz) HD.out HC.out).mono ?_; rintro e w2 ⟨g, rfl, g1, g2, g3, hb2⟩; obtain ⟨hB2, hz2, hc2, hf2⟩ := grow4 (w := w) (by go_grown) hb2)
    have CO := Lib.hid (Row.corners g3)
    clear g3
    have hz12 : w1.heap.size ≤ w2.heap.size := hz2
    have la0 : w.heap.size < w1.heap.size := by omega
    have la1 : w.heap.size + 1 < w1.heap.size := by omega
    go_wp2_with fail
    (go_at_call 65; refine (passes_any a0 a1 b0 b1 g (rpt x y r) _ HA.out HB.out HPT.out g2 CO.out).mono ?_; rintro e w3 ⟨⟨r', rfl, hr'⟩, hb3⟩; obtain ⟨hB3, hz3, hc3, hf3⟩ := grow4 (w := w) (by go_grown) hb3; have HR := Lib.hid hr'; clear hr')
    go_wp2_with fail
    go_returns
    exact ⟨⟨r', rfl, HR.out⟩, hB3⟩
  · exact absurd ⟨ha, hb⟩ hn
end Go.Proofs.YtfcjdmpfoogljaaDoor
