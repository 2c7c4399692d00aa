/-
  Contracts of the document's own answers: rings.
-/
import Derived.Test.YtfcjdmpfoogljaaDoorCirc
import Derived.Test.YtfcjdmpfoogljaaDoorMoveM
set_option linter.unusedVariables false
set_option linter.unusedSimpArgs false
namespace Go.Proofs.YtfcjdmpfoogljaaDoor
open Go.ChangeShapes Go.WideShapes Go.ChangeAt Go.RowKit

theorem rcells_len (x y r : Int) (k : Nat) : (rcells x y r k).length = 2 * k := by
  induction k with
  | zero => rfl
  | succ k ih => rw [rcells_succ, List.length_append, ih]; simp; omega
theorem rcells_get (x y r : Int) (k j : Nat) (h : j < k) : (rcells x y r k)[j * 2]? = some (.int .i64 (rpt x y r j).1) ∧ (rcells x y r k)[j * 2 + 1]? = some (.int .i64 (rpt x y r j).2) := by
  induction k with
  | zero => omega
  | succ k ih =>
    rw [rcells_succ]
    have hl := rcells_len x y r k
    rcases Nat.lt_or_ge j k with hj | hj
    · rw [List.getElem?_append_left (by omega), List.getElem?_append_left (by omega)]
      exact ih hj
    · obtain rfl : j = k := by omega
      rw [List.getElem?_append_right (by omega), List.getElem?_append_right (by omega), hl, show j * 2 - 2 * j = 0 by omega, show j * 2 + 1 - 2 * j = 1 by omega]
      exact ⟨rfl, rfl⟩
theorem addr_add (g j : Nat) : (⟨g, 0, none⟩ : Addr).add j = ⟨g, j, none⟩ := by
  unfold Addr.add
  split <;> simp_all
theorem ring_cells {w : World} {base g cap : Nat} {x y r : Int} (h : w.ownsRow base 34 2 (.slice (some ⟨g, 0, none⟩) 16 cap) 16 (rcells x y r 16)) (j : Nat) (hj : j < 16) :
    w.cell? ⟨g, j * 2, none⟩ = some (.int .i64 (rpt x y r j).1) ∧ w.cell? ⟨g, j * 2 + 1, none⟩ = some (.int .i64 (rpt x y r j).2) := by
  obtain ⟨h1, h2⟩ := rcells_get x y r 16 j hj
  have k1 := h.cells (g := g) rfl (j * 2) _ h1
  have k2 := h.cells (g := g) rfl (j * 2 + 1) _ h2
  rw [addr_add] at k1 k2
  exact ⟨k1, k2⟩
theorem first_bad {x y r : Int} (h : M.chk (ringPts x y r) ≠ 0) : ∃ m, m < 16 ∧ (∀ k, k < m → inB (rpt x y r k).1 (rpt x y r k).2 = true) ∧ inB (rpt x y r m).1 (rpt x y r m).2 = false := by
  obtain ⟨m, h1, h2, h3⟩ := M.first_nat (fun k => !inB (rpt x y r k).1 (rpt x y r k).2) 16
  rcases M.chk_cases (ringPts x y r) with ⟨k, _⟩ | ⟨_, p, hp, hn⟩
  · exact absurd k h
  · unfold ringPts at hp
    obtain ⟨i, hi, rfl⟩ := List.mem_map.1 hp
    have hi16 := List.mem_range.1 hi
    have hb := inB_no hn
    have hm : m < 16 := by
      rcases Nat.lt_or_ge m 16 with q | q
      · exact q
      · have := h2 i (by omega)
        simp [hb] at this
    exact ⟨m, hm, fun k hk => by simpa using h2 k hk, by simpa using h3 hm⟩
theorem all_good {x y r : Int} (h : M.chk (ringPts x y r) = 0) (k : Nat) (hk : k < 16) : inB (rpt x y r k).1 (rpt x y r k).2 = true := by
  rcases M.chk_cases (ringPts x y r) with ⟨_, q⟩ | ⟨q, _⟩
  · exact inB_yes (q _ (by unfold ringPts; exact List.mem_map_of_mem (List.mem_range.2 hk)))
  · omega
set_option maxHeartbeats 1000000 in
theorem rRing_bad (x y r : Int) (w : World) (h : chkDisc x y r = 2) :
    Calls Tryd.prog 35 #[.agg #[.int .i64 x, .int .i64 y, .int .i64 r]] w fun e w' => e = .returned (.tuple #[.slice none 0 0, .int .i64 2]) ∧ Below w.heap.size w w' := by
  go_enter Tryd.func35, Tryd.ntmps35
  go_wp2_with (go_at_call 25; refine (rCheckDisc_any _ _ _ _).mono ?_; rintro e w1 ⟨rfl, hb1⟩; obtain ⟨hB1, hz1, hc1, hf1⟩ := grow4 (w := w) (by go_grown) hb1; (try simp only [World.size_alloc, World.size_setCell, World.size_drew] at hz1); (try have hy1 := Nat.lt_of_succ_le hz1); (try have hx1 := Nat.lt_of_succ_lt hy1); (try have hw1 := Nat.lt_of_succ_lt hx1); (try have hv1 := Nat.lt_of_succ_lt hw1); (try have ha1 : w.heap.size < w1.heap.size := (by omega)); (try have hi1 : w.heap.size + 1 < w1.heap.size := (by omega)); (try have hj1 : w.heap.size + 1 + 1 < w1.heap.size := (by omega)); (try have hk1 : w.heap.size + 1 + 1 + 1 < w1.heap.size := (by omega)); (try have hl1 : w.heap.size + 1 + 1 + 1 + 1 < w1.heap.size := (by omega)))
  go_returns
  exact ⟨rfl, hB1⟩
set_option maxHeartbeats 4000000 in
theorem rRing_over (x y r : Int) (w : World) (h : chkDisc x y r = 0) (hc : M.chk (ringPts x y r) ≠ 0) :
    Calls Tryd.prog 35 #[.agg #[.int .i64 x, .int .i64 y, .int .i64 r]] w fun e w' => e = .returned (.tuple #[.slice none 0 0, .int .i64 4]) ∧ Below w.heap.size w w' := by
  obtain ⟨hx, hr, hr2⟩ := chkDisc_in h
  obtain ⟨m, hm, hgood, hbad⟩ := first_bad hc
  have HG := Lib.hid hgood
  have HX := Lib.hid hx
  clear hgood hx hc
  go_enter Tryd.func35, Tryd.ntmps35
  go_wp2_with fail
  (go_at_call 25; refine (rCheckDisc_any _ _ _ _).mono ?_; rintro e w1 ⟨rfl, hb1⟩; obtain ⟨hB1, hz1, hc1, hf1⟩ := grow4 (w := w) (by go_grown) hb1; (try simp only [World.size_alloc, World.size_setCell, World.size_drew] at hz1); (try have hy1 := Nat.lt_of_succ_le hz1); (try have hx1 := Nat.lt_of_succ_lt hy1); (try have hw1 := Nat.lt_of_succ_lt hx1); (try have hv1 := Nat.lt_of_succ_lt hw1); (try have ha1 : w.heap.size < w1.heap.size := (by omega)); (try have hi1 : w.heap.size + 1 < w1.heap.size := (by omega)); (try have hj1 : w.heap.size + 1 + 1 < w1.heap.size := (by omega)); (try have hk1 : w.heap.size + 1 + 1 + 1 < w1.heap.size := (by omega)); (try have hl1 : w.heap.size + 1 + 1 + 1 + 1 < w1.heap.size := (by omega)))
  go_wp2_with fail
  (go_at_call 64; refine (circle_any x y r _ HX.out (by omega) hr2).mono ?_; rintro e w2 ⟨⟨v, rfl, hown⟩, hb2⟩; obtain ⟨hB2, hz2, hc2, hf2⟩ := grow4 (w := w) (by go_grown) hb2; obtain ⟨g, cap, rfl, hg1, hg2⟩ := hown.form (by omega))
  have CO := Lib.hid (ring_cells hown)
  clear hown hc2 hf2 hc1 hf1
  have HB2 := Lib.hid hB2
  go_wp2
  go_loopw [5] (fun i wr => ∃ k : Nat, k ≤ m ∧ i = .int .i64 k ∧ Below w2.heap.size w2 wr ∧ Below w.heap.size w wr) (fun i _ => m + 1 - (intOf i).toNat)
  case atStart => exact ⟨0, Nat.zero_le _, rfl, Below.refl _ _, HB2.out⟩
  case round =>
    obtain ⟨k, hk, rfl, hBk, hBr⟩ := hrel
    have hk16 : k < 16 := by omega
    have hlt1 : (k : Int) < 16 := by omega
    have y0 := (hBk.cell (p := ⟨g, k * 2, none⟩) hg2).trans (CO.out k hk16).1
    have y1 := (hBk.cell (p := ⟨g, k * 2 + 1, none⟩) hg2).trans (CO.out k hk16).2
    have HBK := Lib.hid hBk
    by_cases hkm : k < m
    · have hv := HG.out k hkm
      generalize (rpt x y r k).1 = X at *
      generalize (rpt x y r k).2 = Y at *
      go_wp2_with fail
      (go_at_call 55; refine (valid_any X Y _).mono ?_; rintro e w3 ⟨rfl, hb3⟩; obtain ⟨hB3, hz3, hc3, hf3⟩ := grow4 (w := w) (by go_grown) hb3; (try simp only [World.size_alloc, World.size_setCell, World.size_drew] at hz3); (try have hy3 := Nat.lt_of_succ_le hz3); (try have hx3 := Nat.lt_of_succ_lt hy3); (try have hw3 := Nat.lt_of_succ_lt hx3); (try have hv3 := Nat.lt_of_succ_lt hw3); (try have ha3 : w.heap.size < w3.heap.size := (by omega)); (try have hi3 : w.heap.size + 1 < w3.heap.size := (by omega)); (try have hj3 : w.heap.size + 1 + 1 < w3.heap.size := (by omega)); (try have hk3 : w.heap.size + 1 + 1 + 1 < w3.heap.size := (by omega)); (try have hl3 : w.heap.size + 1 + 1 + 1 + 1 < w3.heap.size := (by omega)))
      go_wp2
      exact ⟨⟨k + 1, by omega, by go_num, HBK.out.trans (hb3.mono HBK.out.size), hB3⟩, by simp [intOf]; omega⟩
    · obtain rfl : k = m := by omega
      generalize (rpt x y r k).1 = X at *
      generalize (rpt x y r k).2 = Y at *
      go_wp2_with fail
      (go_at_call 55; refine (valid_any X Y _).mono ?_; rintro e w3 ⟨rfl, hb3⟩; obtain ⟨hB3, hz3, hc3, hf3⟩ := grow4 (w := w) (by go_grown) hb3; (try simp only [World.size_alloc, World.size_setCell, World.size_drew] at hz3); (try have hy3 := Nat.lt_of_succ_le hz3); (try have hx3 := Nat.lt_of_succ_lt hy3); (try have hw3 := Nat.lt_of_succ_lt hx3); (try have hv3 := Nat.lt_of_succ_lt hw3); (try have ha3 : w.heap.size < w3.heap.size := (by omega)); (try have hi3 : w.heap.size + 1 < w3.heap.size := (by omega)); (try have hj3 : w.heap.size + 1 + 1 < w3.heap.size := (by omega)); (try have hk3 : w.heap.size + 1 + 1 + 1 < w3.heap.size := (by omega)); (try have hl3 : w.heap.size + 1 + 1 + 1 + 1 < w3.heap.size := (by omega)))
      go_wp2
      go_returns
      exact ⟨rfl, hB3⟩
set_option maxHeartbeats 4000000 in
theorem rRing_ok (x y r : Int) (w : World) (h : chkDisc x y r = 0) (hc : M.chk (ringPts x y r) = 0) :
    Calls Tryd.prog 35 #[.agg #[.int .i64 x, .int .i64 y, .int .i64 r]] w fun e w' => (∃ g cap, e = .returned (.tuple #[.slice (some ⟨g, 0, none⟩) 16 cap, .int .i64 0]) ∧ w.heap.size ≤ g ∧ g < w'.heap.size ∧ (∀ j, j < 16 → w'.cell? ⟨g, j * 2, none⟩ = some (.int .i64 (rpt x y r j).1) ∧ w'.cell? ⟨g, j * 2 + 1, none⟩ = some (.int .i64 (rpt x y r j).2))) ∧ Below w.heap.size w w' := by
  obtain ⟨hx, hr, hr2⟩ := chkDisc_in h
  have HG := Lib.hid (all_good hc)
  have HX := Lib.hid hx
  clear hx hc
  go_enter Tryd.func35, Tryd.ntmps35
  go_wp2_with fail
  (go_at_call 25; refine (rCheckDisc_any _ _ _ _).mono ?_; rintro e w1 ⟨rfl, hb1⟩; obtain ⟨hB1, hz1, hc1, hf1⟩ := grow4 (w := w) (by go_grown) hb1; (try simp only [World.size_alloc, World.size_setCell, World.size_drew] at hz1); (try have hy1 := Nat.lt_of_succ_le hz1); (try have hx1 := Nat.lt_of_succ_lt hy1); (try have hw1 := Nat.lt_of_succ_lt hx1); (try have hv1 := Nat.lt_of_succ_lt hw1); (try have ha1 : w.heap.size < w1.heap.size := (by omega)); (try have hi1 : w.heap.size + 1 < w1.heap.size := (by omega)); (try have hj1 : w.heap.size + 1 + 1 < w1.heap.size := (by omega)); (try have hk1 : w.heap.size + 1 + 1 + 1 < w1.heap.size := (by omega)); (try have hl1 : w.heap.size + 1 + 1 + 1 + 1 < w1.heap.size := (by omega)))
  go_wp2_with fail
  (go_at_call 64; refine (circle_any x y r _ HX.out (by omega) hr2).mono ?_; rintro e w2 ⟨⟨v, rfl, hown⟩, hb2⟩; obtain ⟨hB2, hz2, hc2, hf2⟩ := grow4 (w := w) (by go_grown) hb2; obtain ⟨g, cap, rfl, hg1, hg2⟩ := hown.form (by omega))
  have CO := Lib.hid (ring_cells hown)
  clear hown hc2 hf2 hc1 hf1
  have HB2 := Lib.hid hB2
  have hgw : w.heap.size ≤ g := by omega
  go_wp2
  go_loopw [5] (fun i wr => ∃ k : Nat, k ≤ 16 ∧ i = .int .i64 k ∧ Below w2.heap.size w2 wr ∧ Below w.heap.size w wr) (fun i _ => 16 - (intOf i).toNat)
  case atStart => exact ⟨0, Nat.zero_le _, rfl, Below.refl _ _, HB2.out⟩
  case round =>
    obtain ⟨k, hk, rfl, hBk, hBr⟩ := hrel
    have HBK := Lib.hid hBk
    by_cases hkm : k < 16
    · have hlt1 : (k : Int) < 16 := by omega
      have y0 := (hBk.cell (p := ⟨g, k * 2, none⟩) hg2).trans (CO.out k hkm).1
      have y1 := (hBk.cell (p := ⟨g, k * 2 + 1, none⟩) hg2).trans (CO.out k hkm).2
      have hv := HG.out k hkm
      generalize (rpt x y r k).1 = X at *
      generalize (rpt x y r k).2 = Y at *
      go_wp2_with fail
      (go_at_call 55; refine (valid_any X Y _).mono ?_; rintro e w3 ⟨rfl, hb3⟩; obtain ⟨hB3, hz3, hc3, hf3⟩ := grow4 (w := w) (by go_grown) hb3; (try simp only [World.size_alloc, World.size_setCell, World.size_drew] at hz3); (try have hy3 := Nat.lt_of_succ_le hz3); (try have hx3 := Nat.lt_of_succ_lt hy3); (try have hw3 := Nat.lt_of_succ_lt hx3); (try have hv3 := Nat.lt_of_succ_lt hw3); (try have ha3 : w.heap.size < w3.heap.size := (by omega)); (try have hi3 : w.heap.size + 1 < w3.heap.size := (by omega)); (try have hj3 : w.heap.size + 1 + 1 < w3.heap.size := (by omega)); (try have hk3 : w.heap.size + 1 + 1 + 1 < w3.heap.size := (by omega)); (try have hl3 : w.heap.size + 1 + 1 + 1 + 1 < w3.heap.size := (by omega)))
      go_wp2
      exact ⟨⟨k + 1, by omega, by go_num, HBK.out.trans (hb3.mono HBK.out.size), hB3⟩, by simp [intOf]; omega⟩
    · obtain rfl : k = 16 := by omega
      go_wp2
      go_returns
      exact ⟨⟨g, cap, rfl, hgw, Nat.lt_of_lt_of_le hg2 HBK.out.size, fun j hj => ⟨(HBK.out.cell (p := ⟨g, j * 2, none⟩) hg2).trans (CO.out j hj).1, (HBK.out.cell (p := ⟨g, j * 2 + 1, none⟩) hg2).trans (CO.out j hj).2⟩⟩, hBr⟩
end Go.Proofs.YtfcjdmpfoogljaaDoor
