/-
  Does a segment pass a ring? The program and the document's own answers, alike.
-/
import Derived.Test.YtfcjdmpfoogljaaDoorCross
import Derived.Test.YtfcjdmpfoogljaaDoorPasses
import Derived.Test.YtfcjdmpfoogljaaDoorSegs
set_option linter.unusedVariables false
set_option linter.unusedSimpArgs false
namespace Go.Proofs.YtfcjdmpfoogljaaDoor
open Go.ChangeShapes Go.WideShapes Go.ChangeAt Go.RowKit

set_option maxHeartbeats 2000000 in
theorem Passes_bad (a0 a1 b0 b1 x y r : Int) (w : World) (h : ¬ (M.In a0 a1 ∧ M.In b0 b1)) :
    Calls Tryd.prog 36 #[.agg #[.int .i64 a0, .int .i64 a1], .agg #[.int .i64 b0, .int .i64 b1], .agg #[.int .i64 x, .int .i64 y, .int .i64 r]] w fun e w' => e = .returned (.tuple #[.bool false, .int .i64 2]) ∧ Below w.heap.size w w' := by
  rcases chk2 (x := a0) (y := a1) (u := b0) (v := b1) with ⟨_, k⟩ | ⟨hk, _⟩
  · exact absurd k h
  · clear h
    go_enter Tryd.func36, Tryd.ntmps36
    go_wp2_with (go_at_call 53; refine (checkAll_two a0 a1 b0 b1 _ _ _ (by go_size) (by go_cell) (by go_cell) (by go_cell) (by go_cell)).mono ?_; rintro e w1 ⟨rfl, hb1⟩; obtain ⟨hB1, hz1, hc1, hf1⟩ := grow4 (w := w) (by go_grown) hb1; (try simp only [World.size_alloc, World.size_setCell, World.size_drew] at hz1); (try have hy1 := Nat.lt_of_succ_le hz1); (try have hx1 := Nat.lt_of_succ_lt hy1); (try have hw1 := Nat.lt_of_succ_lt hx1); (try have hv1 := Nat.lt_of_succ_lt hw1); (try have ha1 : w.heap.size < w1.heap.size := (by omega)); (try have hi1 : w.heap.size + 1 < w1.heap.size := (by omega)); (try have hj1 : w.heap.size + 1 + 1 < w1.heap.size := (by omega)); (try have hk1 : w.heap.size + 1 + 1 + 1 < w1.heap.size := (by omega)); (try have hl1 : w.heap.size + 1 + 1 + 1 + 1 < w1.heap.size := (by omega)))
    go_returns
    exact ⟨rfl, hB1⟩
set_option maxHeartbeats 2000000 in
theorem Passes_disc (a0 a1 b0 b1 x y r : Int) (w : World) (h : M.In a0 a1 ∧ M.In b0 b1) (hd : chkDisc x y r = 2) :
    Calls Tryd.prog 36 #[.agg #[.int .i64 a0, .int .i64 a1], .agg #[.int .i64 b0, .int .i64 b1], .agg #[.int .i64 x, .int .i64 y, .int .i64 r]] w fun e w' => e = .returned (.tuple #[.bool false, .int .i64 2]) ∧ Below w.heap.size w w' := by
  rcases chk2 (x := a0) (y := a1) (u := b0) (v := b1) with ⟨hk, _⟩ | ⟨_, k⟩
  · clear h
    have RB := Lib.hid (fun w => Ring_bad x y r w (by omega))
    rw [hd] at RB
    clear hd
    go_enter Tryd.func36, Tryd.ntmps36
    go_wp2_with (first | (go_at_call 53; refine (checkAll_two a0 a1 b0 b1 _ _ _ (by go_size) (by go_cell) (by go_cell) (by go_cell) (by go_cell)).mono ?_; rintro e w1 ⟨rfl, hb1⟩; obtain ⟨hB1, hz1, hc1, hf1⟩ := grow4 (w := w) (by go_grown) hb1; (try simp only [World.size_alloc, World.size_setCell, World.size_drew] at hz1); (try have hy1 := Nat.lt_of_succ_le hz1); (try have hx1 := Nat.lt_of_succ_lt hy1); (try have hw1 := Nat.lt_of_succ_lt hx1); (try have hv1 := Nat.lt_of_succ_lt hw1); (try have ha1 : w.heap.size < w1.heap.size := (by omega)); (try have hi1 : w.heap.size + 1 < w1.heap.size := (by omega)); (try have hj1 : w.heap.size + 1 + 1 < w1.heap.size := (by omega)); (try have hk1 : w.heap.size + 1 + 1 + 1 < w1.heap.size := (by omega)); (try have hl1 : w.heap.size + 1 + 1 + 1 + 1 < w1.heap.size := (by omega))) | (go_at_call 34; refine (RB.out _).mono ?_; rintro e w2 ⟨rfl, hb2⟩; obtain ⟨hB2, hz2, hc2, hf2⟩ := grow4 (w := w) (by go_grown) hb2; (try simp only [World.size_alloc, World.size_setCell, World.size_drew] at hz2); (try have hy2 := Nat.lt_of_succ_le hz2); (try have hx2 := Nat.lt_of_succ_lt hy2); (try have hw2 := Nat.lt_of_succ_lt hx2); (try have hv2 := Nat.lt_of_succ_lt hw2); (try have ha2 : w.heap.size < w2.heap.size := (by omega)); (try have hi2 : w.heap.size + 1 < w2.heap.size := (by omega)); (try have hj2 : w.heap.size + 1 + 1 < w2.heap.size := (by omega)); (try have hk2 : w.heap.size + 1 + 1 + 1 < w2.heap.size := (by omega)); (try have hl2 : w.heap.size + 1 + 1 + 1 + 1 < w2.heap.size := (by omega))))
    go_returns
    exact ⟨rfl, hB2⟩
  · exact absurd h k
set_option maxHeartbeats 2000000 in
theorem Passes_over (a0 a1 b0 b1 x y r : Int) (w : World) (ht : Tab w) (h : M.In a0 a1 ∧ M.In b0 b1) (hd : chkDisc x y r = 0) (hc : M.chk (ringPts x y r) ≠ 0) :
    Calls Tryd.prog 36 #[.agg #[.int .i64 a0, .int .i64 a1], .agg #[.int .i64 b0, .int .i64 b1], .agg #[.int .i64 x, .int .i64 y, .int .i64 r]] w fun e w' => e = .returned (.tuple #[.bool false, .int .i64 4]) ∧ Below w.heap.size w w' := by
  rcases chk2 (x := a0) (y := a1) (u := b0) (v := b1) with ⟨hk, _⟩ | ⟨_, k⟩
  · clear h
    have hz := ht.size
    have HT := Lib.hid ht
    have HR := Lib.hid (And.intro hd hc)
    clear hd hc ht
    go_enter Tryd.func36, Tryd.ntmps36
    go_wp2_with (first | (go_at_call 53; refine (checkAll_two a0 a1 b0 b1 _ _ _ (by go_size) (by go_cell) (by go_cell) (by go_cell) (by go_cell)).mono ?_; rintro e w1 ⟨rfl, hb1⟩; obtain ⟨hB1, hz1, hc1, hf1⟩ := grow4 (w := w) (by go_grown) hb1; (try simp only [World.size_alloc, World.size_setCell, World.size_drew] at hz1); (try have hy1 := Nat.lt_of_succ_le hz1); (try have hx1 := Nat.lt_of_succ_lt hy1); (try have hw1 := Nat.lt_of_succ_lt hx1); (try have hv1 := Nat.lt_of_succ_lt hw1); (try have ha1 : w.heap.size < w1.heap.size := (by omega)); (try have hi1 : w.heap.size + 1 < w1.heap.size := (by omega)); (try have hj1 : w.heap.size + 1 + 1 < w1.heap.size := (by omega)); (try have hk1 : w.heap.size + 1 + 1 + 1 < w1.heap.size := (by omega)); (try have hl1 : w.heap.size + 1 + 1 + 1 + 1 < w1.heap.size := (by omega))) | (go_at_call 34; refine (Ring_over x y r _ (HT.out.below hB1 hz) HR.out.1 HR.out.2).mono ?_; rintro e w2 ⟨rfl, hb2⟩; obtain ⟨hB2, hz2, hc2, hf2⟩ := grow4 (w := w) (by go_grown) hb2; (try simp only [World.size_alloc, World.size_setCell, World.size_drew] at hz2); (try have hy2 := Nat.lt_of_succ_le hz2); (try have hx2 := Nat.lt_of_succ_lt hy2); (try have hw2 := Nat.lt_of_succ_lt hx2); (try have hv2 := Nat.lt_of_succ_lt hw2); (try have ha2 : w.heap.size < w2.heap.size := (by omega)); (try have hi2 : w.heap.size + 1 < w2.heap.size := (by omega)); (try have hj2 : w.heap.size + 1 + 1 < w2.heap.size := (by omega)); (try have hk2 : w.heap.size + 1 + 1 + 1 < w2.heap.size := (by omega)); (try have hl2 : w.heap.size + 1 + 1 + 1 + 1 < w2.heap.size := (by omega))))
    go_returns
    exact ⟨rfl, hB2⟩
  · exact absurd h k

set_option maxHeartbeats 2000000 in
theorem rPasses_bad (a0 a1 b0 b1 x y r : Int) (w : World) (h : ¬ (M.In a0 a1 ∧ M.In b0 b1)) :
    Calls Tryd.prog 37 #[.agg #[.int .i64 a0, .int .i64 a1], .agg #[.int .i64 b0, .int .i64 b1], .agg #[.int .i64 x, .int .i64 y, .int .i64 r]] w fun e w' => e = .returned (.tuple #[.bool false, .int .i64 2]) ∧ Below w.heap.size w w' := by
  cases k1 : inB a0 a1
  · clear h
    go_enter Tryd.func37, Tryd.ntmps37
    go_wp2_with (go_at_call 55; refine (valid_any _ _ _).mono ?_; rintro e w1 ⟨rfl, hb1⟩; obtain ⟨hB1, hz1, hc1, hf1⟩ := grow4 (w := w) (by go_grown) hb1; (try simp only [World.size_alloc, World.size_setCell, World.size_drew] at hz1); (try have hy1 := Nat.lt_of_succ_le hz1); (try have hx1 := Nat.lt_of_succ_lt hy1); (try have hw1 := Nat.lt_of_succ_lt hx1); (try have hv1 := Nat.lt_of_succ_lt hw1); (try have ha1 : w.heap.size < w1.heap.size := (by omega)); (try have hi1 : w.heap.size + 1 < w1.heap.size := (by omega)); (try have hj1 : w.heap.size + 1 + 1 < w1.heap.size := (by omega)); (try have hk1 : w.heap.size + 1 + 1 + 1 < w1.heap.size := (by omega)); (try have hl1 : w.heap.size + 1 + 1 + 1 + 1 < w1.heap.size := (by omega)))
    go_returns
    exact ⟨rfl, hB1⟩
  cases k2 : inB b0 b1
  · clear h
    go_enter Tryd.func37, Tryd.ntmps37
    go_wp2_with (go_at_call 55; refine (valid_any _ _ _).mono ?_; rintro e w1 ⟨rfl, hb1⟩; obtain ⟨hB1, hz1, hc1, hf1⟩ := grow4 (w := w) (by go_grown) hb1; (try simp only [World.size_alloc, World.size_setCell, World.size_drew] at hz1); (try have hy1 := Nat.lt_of_succ_le hz1); (try have hx1 := Nat.lt_of_succ_lt hy1); (try have hw1 := Nat.lt_of_succ_lt hx1); (try have hv1 := Nat.lt_of_succ_lt hw1); (try have ha1 : w.heap.size < w1.heap.size := (by omega)); (try have hi1 : w.heap.size + 1 < w1.heap.size := (by omega)); (try have hj1 : w.heap.size + 1 + 1 < w1.heap.size := (by omega)); (try have hk1 : w.heap.size + 1 + 1 + 1 < w1.heap.size := (by omega)); (try have hl1 : w.heap.size + 1 + 1 + 1 + 1 < w1.heap.size := (by omega)))
    go_returns
    exact ⟨rfl, hB1⟩
  · exact absurd ⟨In_of k1, In_of k2⟩ h
set_option maxHeartbeats 2000000 in
theorem rPasses_disc (a0 a1 b0 b1 x y r : Int) (w : World) (h : M.In a0 a1 ∧ M.In b0 b1) (hd : chkDisc x y r = 2) :
    Calls Tryd.prog 37 #[.agg #[.int .i64 a0, .int .i64 a1], .agg #[.int .i64 b0, .int .i64 b1], .agg #[.int .i64 x, .int .i64 y, .int .i64 r]] w fun e w' => e = .returned (.tuple #[.bool false, .int .i64 2]) ∧ Below w.heap.size w w' := by
  have k1 := inB_yes h.1
  have k2 := inB_yes h.2
  have HD := Lib.hid hd
  clear h hd
  go_enter Tryd.func37, Tryd.ntmps37
  go_wp2_with (first | (go_at_call 55; refine (valid_any _ _ _).mono ?_; rintro e w1 ⟨rfl, hb1⟩; obtain ⟨hB1, hz1, hc1, hf1⟩ := grow4 (w := w) (by go_grown) hb1; (try simp only [World.size_alloc, World.size_setCell, World.size_drew] at hz1); (try have hy1 := Nat.lt_of_succ_le hz1); (try have hx1 := Nat.lt_of_succ_lt hy1); (try have hw1 := Nat.lt_of_succ_lt hx1); (try have hv1 := Nat.lt_of_succ_lt hw1); (try have ha1 : w.heap.size < w1.heap.size := (by omega)); (try have hi1 : w.heap.size + 1 < w1.heap.size := (by omega)); (try have hj1 : w.heap.size + 1 + 1 < w1.heap.size := (by omega)); (try have hk1 : w.heap.size + 1 + 1 + 1 < w1.heap.size := (by omega)); (try have hl1 : w.heap.size + 1 + 1 + 1 + 1 < w1.heap.size := (by omega))) | (go_at_call 35; refine (rRing_bad x y r _ HD.out).mono ?_; rintro e w2 ⟨rfl, hb2⟩; obtain ⟨hB2, hz2, hc2, hf2⟩ := grow4 (w := w) (by go_grown) hb2; (try simp only [World.size_alloc, World.size_setCell, World.size_drew] at hz2); (try have hy2 := Nat.lt_of_succ_le hz2); (try have hx2 := Nat.lt_of_succ_lt hy2); (try have hw2 := Nat.lt_of_succ_lt hx2); (try have hv2 := Nat.lt_of_succ_lt hw2); (try have ha2 : w.heap.size < w2.heap.size := (by omega)); (try have hi2 : w.heap.size + 1 < w2.heap.size := (by omega)); (try have hj2 : w.heap.size + 1 + 1 < w2.heap.size := (by omega)); (try have hk2 : w.heap.size + 1 + 1 + 1 < w2.heap.size := (by omega)); (try have hl2 : w.heap.size + 1 + 1 + 1 + 1 < w2.heap.size := (by omega))))
  go_returns
  exact ⟨rfl, hB2⟩
set_option maxHeartbeats 2000000 in
theorem rPasses_over (a0 a1 b0 b1 x y r : Int) (w : World) (h : M.In a0 a1 ∧ M.In b0 b1) (hd : chkDisc x y r = 0) (hc : M.chk (ringPts x y r) ≠ 0) :
    Calls Tryd.prog 37 #[.agg #[.int .i64 a0, .int .i64 a1], .agg #[.int .i64 b0, .int .i64 b1], .agg #[.int .i64 x, .int .i64 y, .int .i64 r]] w fun e w' => e = .returned (.tuple #[.bool false, .int .i64 4]) ∧ Below w.heap.size w w' := by
  have k1 := inB_yes h.1
  have k2 := inB_yes h.2
  have HD := Lib.hid (And.intro hd hc)
  clear h hd hc
  go_enter Tryd.func37, Tryd.ntmps37
  go_wp2_with (first | (go_at_call 55; refine (valid_any _ _ _).mono ?_; rintro e w1 ⟨rfl, hb1⟩; obtain ⟨hB1, hz1, hc1, hf1⟩ := grow4 (w := w) (by go_grown) hb1; (try simp only [World.size_alloc, World.size_setCell, World.size_drew] at hz1); (try have hy1 := Nat.lt_of_succ_le hz1); (try have hx1 := Nat.lt_of_succ_lt hy1); (try have hw1 := Nat.lt_of_succ_lt hx1); (try have hv1 := Nat.lt_of_succ_lt hw1); (try have ha1 : w.heap.size < w1.heap.size := (by omega)); (try have hi1 : w.heap.size + 1 < w1.heap.size := (by omega)); (try have hj1 : w.heap.size + 1 + 1 < w1.heap.size := (by omega)); (try have hk1 : w.heap.size + 1 + 1 + 1 < w1.heap.size := (by omega)); (try have hl1 : w.heap.size + 1 + 1 + 1 + 1 < w1.heap.size := (by omega))) | (go_at_call 35; refine (rRing_over x y r _ HD.out.1 HD.out.2).mono ?_; rintro e w2 ⟨rfl, hb2⟩; obtain ⟨hB2, hz2, hc2, hf2⟩ := grow4 (w := w) (by go_grown) hb2; (try simp only [World.size_alloc, World.size_setCell, World.size_drew] at hz2); (try have hy2 := Nat.lt_of_succ_le hz2); (try have hx2 := Nat.lt_of_succ_lt hy2); (try have hw2 := Nat.lt_of_succ_lt hx2); (try have hv2 := Nat.lt_of_succ_lt hw2); (try have ha2 : w.heap.size < w2.heap.size := (by omega)); (try have hi2 : w.heap.size + 1 < w2.heap.size := (by omega)); (try have hj2 : w.heap.size + 1 + 1 < w2.heap.size := (by omega)); (try have hk2 : w.heap.size + 1 + 1 + 1 < w2.heap.size := (by omega)); (try have hl2 : w.heap.size + 1 + 1 + 1 + 1 < w2.heap.size := (by omega))))
  go_returns
  exact ⟨rfl, hB2⟩
set_option maxHeartbeats 4000000 in
theorem rPasses_ok (a0 a1 b0 b1 x y r : Int) (w : World) (ha : M.In a0 a1) (hb : M.In b0 b1) (h : chkDisc x y r = 0) (hc : M.chk (ringPts x y r) = 0) :
    Calls Tryd.prog 37 #[.agg #[.int .i64 a0, .int .i64 a1], .agg #[.int .i64 b0, .int .i64 b1], .agg #[.int .i64 x, .int .i64 y, .int .i64 r]] w fun e w' =>
      (∃ r' : Bool, e = .returned (.tuple #[.bool r', .int .i64 0]) ∧ (r' = true ↔ M.CrossP ((sidesTo (rpt x y r) 16).map (lr (rpt x y r) a0 a1 b0 b1)))) ∧ Below w.heap.size w w' := by
  have k1 := inB_yes ha
  have k2 := inB_yes hb
  have HA := Lib.hid ha
  have HB := Lib.hid hb
  have HD := Lib.hid h
  have HC := Lib.hid hc
  have HPT := Lib.hid (rpt_in x y r (chkDisc_in h).1 hc)
  clear ha hb h hc
  go_enter Tryd.func37, Tryd.ntmps37
  go_wp2_with (go_at_call 55; refine (valid_any _ _ _).mono ?_; rintro e w1 ⟨rfl, hb1⟩; obtain ⟨hB1, hz1, hc1, hf1⟩ := grow4 (w := w) (by go_grown) hb1; (try simp only [World.size_alloc, World.size_setCell, World.size_drew] at hz1); (try have hy1 := Nat.lt_of_succ_le hz1); (try have hx1 := Nat.lt_of_succ_lt hy1); (try have hw1 := Nat.lt_of_succ_lt hx1); (try have hv1 := Nat.lt_of_succ_lt hw1); (try have ha1 : w.heap.size < w1.heap.size := (by omega)); (try have hi1 : w.heap.size + 1 < w1.heap.size := (by omega)); (try have hj1 : w.heap.size + 1 + 1 < w1.heap.size := (by omega)); (try have hk1 : w.heap.size + 1 + 1 + 1 < w1.heap.size := (by omega)); (try have hl1 : w.heap.size + 1 + 1 + 1 + 1 < w1.heap.size := (by omega)))
  (go_at_call 35; refine (rRing_ok x y r _ HD.out HC.out).mono ?_; rintro e w2 ⟨⟨g, cap, rfl, g0, g1, g2⟩, hb2⟩; obtain ⟨hB2, hz2, hc2, hf2⟩ := grow4 (w := w) (by go_grown) hb2; try simp only [World.size_alloc, World.size_setCell, World.size_drew] at hz2)
  have CO := Lib.hid g2
  clear g2
  have la0 : w.heap.size < w2.heap.size := by omega
  have la1 : w.heap.size + 1 < w2.heap.size := by omega
  go_wp2_with fail
  (go_at_call 66; refine (rCross_any _ a0 a1 b0 b1 g cap (rpt x y r) _ HA.out HB.out HPT.out g1 rfl CO.out).mono ?_; rintro e w3 ⟨⟨r', rfl, hr'⟩, hb3⟩; obtain ⟨hB3, hz3, hc3, hf3⟩ := grow4 (w := w) (by go_grown) hb3; have HR := Lib.hid hr'; clear hr')
  go_wp2_with fail
  go_returns
  exact ⟨⟨r', rfl, HR.out⟩, hB3⟩

open Classical in
/-- Both answer alike. -/
theorem passes_both (a0 a1 b0 b1 x y r : Int) : ∃ (n : Bool) (e : Int),
    (∀ w : World, Tab w → Calls Tryd.prog 36 #[.agg #[.int .i64 a0, .int .i64 a1], .agg #[.int .i64 b0, .int .i64 b1], .agg #[.int .i64 x, .int .i64 y, .int .i64 r]] w fun e' w' => e' = .returned (.tuple #[.bool n, .int .i64 e]) ∧ Below w.heap.size w w') ∧
    (∀ w : World, Calls Tryd.prog 37 #[.agg #[.int .i64 a0, .int .i64 a1], .agg #[.int .i64 b0, .int .i64 b1], .agg #[.int .i64 x, .int .i64 y, .int .i64 r]] w fun e' w' => e' = .returned (.tuple #[.bool n, .int .i64 e]) ∧ Below w.heap.size w w') := by
  by_cases h : M.In a0 a1 ∧ M.In b0 b1
  · rcases chkDisc_cases x y r with ⟨hd, _⟩ | hd
    · by_cases hc : M.chk (ringPts x y r) = 0
      · have bq : ∀ (r' : Bool) (p : Prop), (r' = true ↔ p) → r' = decide p := fun r' p hp => by
          by_cases q : p
          · rw [decide_eq_true q]; exact hp.2 q
          · rw [decide_eq_false q]; cases r' with
            | false => rfl
            | true => exact absurd (hp.1 rfl) q
        exact ⟨decide (M.CrossP ((sidesTo (rpt x y r) 16).map (lr (rpt x y r) a0 a1 b0 b1))), 0,
          fun w ht => (Passes_ok a0 a1 b0 b1 x y r w ht h.1 h.2 hd hc).mono fun e w' ⟨⟨r', he, hr⟩, hb⟩ => ⟨by rw [he, bq r' _ hr], hb⟩,
          fun w => (rPasses_ok a0 a1 b0 b1 x y r w h.1 h.2 hd hc).mono fun e w' ⟨⟨r', he, hr⟩, hb⟩ => ⟨by rw [he, bq r' _ hr], hb⟩⟩
      · exact ⟨false, 4, fun w ht => Passes_over a0 a1 b0 b1 x y r w ht h hd hc, fun w => rPasses_over a0 a1 b0 b1 x y r w h hd hc⟩
    · exact ⟨false, 2, fun w _ => Passes_disc a0 a1 b0 b1 x y r w h hd, fun w => rPasses_disc a0 a1 b0 b1 x y r w h hd⟩
  · exact ⟨false, 2, fun w _ => Passes_bad a0 a1 b0 b1 x y r w h, fun w => rPasses_bad a0 a1 b0 b1 x y r w h⟩
end Go.Proofs.YtfcjdmpfoogljaaDoor
