/-
  TurfRings: whatever the places and the disc, the law returns true (its walk).
-/
import Derived.Test.YtfcjdmpfoogljaaDoorPassesR
import Derived.Test.YtfcjdmpfoogljaaDoorFine
set_option linter.unusedVariables false
set_option linter.unusedSimpArgs false
namespace Go.Proofs.YtfcjdmpfoogljaaDoor
open Go.ChangeShapes Go.WideShapes Go.ChangeAt Go.RowKit

set_option maxRecDepth 100000 in
set_option maxHeartbeats 8000000 in
theorem rings_walk (a0 a1 b0 b1 x y r : Int) (w : World) (ht : Tab w) :
    Calls Tryd.prog 5 #[.agg #[.int .i64 a0, .int .i64 a1], .agg #[.int .i64 b0, .int .i64 b1], .agg #[.int .i64 x, .int .i64 y, .int .i64 r]] w fun e w' => e = .returned (.bool true) ∧ Below w.heap.size w w' := by
  have hz := ht.size
  have HT := Lib.hid ht
  clear ht
  obtain ⟨n, er, q1, q2⟩ := passes_both a0 a1 b0 b1 x y r
  have Q1 := Lib.hid q1
  have Q2 := Lib.hid q2
  clear q1 q2
  by_cases hok : chkDisc x y r = 0 ∧ M.chk (ringPts x y r) = 0
  · have HOK := Lib.hid hok
    clear hok
    go_enter Tryd.func5, Tryd.ntmps5
    go_wp2_with fail
    (go_at_call 34; refine (Ring_ok x y r _ (HT.out.below (by (first | assumption | go_grown) : Below w.heap.size w _) hz) HOK.out.1 HOK.out.2).mono ?_; rintro e w1 ⟨g, rfl, g1, g2, g3, hb1⟩; obtain ⟨hB1, hz1, hc1, hf1⟩ := grow4 (w := w) (by go_grown) hb1)
    try simp only [World.size_alloc, World.size_setCell, World.size_drew] at hz1 g1
    have CG := Lib.hid (show ∀ j, j < 16 → w1.cell? ⟨g, j * 2, none⟩ = some (.int .i64 (rpt x y r j).1) ∧ w1.cell? ⟨g, j * 2 + 1, none⟩ = some (.int .i64 (rpt x y r j).2) from fun j hj => by obtain ⟨cs, k1, k2, k3⟩ := g3; exact ⟨(R.cell_blk k1 _).trans (k3 j hj).1, (R.cell_blk k1 _).trans (k3 j hj).2⟩)
    clear g3
    have la0 : w.heap.size < w1.heap.size := by omega
    have la1 : w.heap.size + 1 < w1.heap.size := by omega
    have la2 : w.heap.size + 2 < w1.heap.size := by omega
    have la3 : w.heap.size + 1 + 1 < w1.heap.size := by omega
    go_wp2_with fail
    (go_at_call 35; refine (rRing_ok x y r _ HOK.out.1 HOK.out.2).mono ?_; rintro e w2 ⟨⟨h, cap, rfl, h0, h1, h2⟩, hb2⟩; obtain ⟨hB2, hz2, hc2, hf2⟩ := grow4 (w := w) (by go_grown) hb2; have HC2 := Lib.hid hc2)
    have CH := Lib.hid h2
    clear h2
    have lb0 : w.heap.size < w2.heap.size := by omega
    have lb1 : w.heap.size + 1 < w2.heap.size := by omega
    have lb2 : w.heap.size + 2 < w2.heap.size := by omega
    have lb3 : w.heap.size + 1 + 1 < w2.heap.size := by omega
    have lbg : g < w2.heap.size := by omega
    have e0 : w2.cell? ⟨w.heap.size, 0, none⟩ = some (.int .i64 a0) := by go_cell
    have e1 : w2.cell? ⟨w.heap.size, 1, none⟩ = some (.int .i64 a1) := by go_cell
    have e2 : w2.cell? ⟨w.heap.size + 1, 0, none⟩ = some (.int .i64 b0) := by go_cell
    have e3 : w2.cell? ⟨w.heap.size + 1, 1, none⟩ = some (.int .i64 b1) := by go_cell
    have e4 : w2.cell? ⟨w.heap.size + 1 + 1, 0, none⟩ = some (.int .i64 x) := by go_cell
    have e5 : w2.cell? ⟨w.heap.size + 1 + 1, 1, none⟩ = some (.int .i64 y) := by go_cell
    have e6 : w2.cell? ⟨w.heap.size + 1 + 1, 2, none⟩ = some (.int .i64 r) := by go_cell
    have E := Lib.hid (And.intro e0 (And.intro e1 (And.intro e2 (And.intro e3 (And.intro e4 (And.intro e5 e6))))))
    have HB2 := Lib.hid hB2
    have CG2 := Lib.hid (show ∀ j, j < 16 → w2.cell? ⟨g, j * 2, none⟩ = some (.int .i64 (rpt x y r j).1) ∧ w2.cell? ⟨g, j * 2 + 1, none⟩ = some (.int .i64 (rpt x y r j).2) from fun j hj => ⟨(hc2 _ _ g2).trans (CG.out j hj).1, (hc2 _ _ g2).trans (CG.out j hj).2⟩)
    clear hc1 hc2 hf1 hf2 hb1 hb2 e0 e1 e2 e3 e4 e5 e6 CG HC2
    go_wp2
    go_loopw [11] (fun i wr => ∃ k : Nat, k ≤ 16 ∧ i = .int .i64 k ∧ Below w2.heap.size w2 wr ∧ Below w.heap.size w wr) (fun i _ => 16 - (intOf i).toNat)
    case atStart => exact ⟨0, by omega, rfl, Below.refl _ _, HB2.out⟩
    case round =>
      obtain ⟨k, hk, rfl, hBk, hBr⟩ := hrel
      have HBK := Lib.hid (And.intro hBk hBr)
      by_cases hkm : k < 16
      · have hlt1 : (k : Int) < 16 := by omega
        have y0 := (hBk.cell (p := ⟨g, k * 2, none⟩) lbg).trans (CG2.out k hkm).1
        have y1 := (hBk.cell (p := ⟨g, k * 2 + 1, none⟩) lbg).trans (CG2.out k hkm).2
        have z0 := (hBk.cell (p := ⟨h, k * 2, none⟩) h1).trans (CH.out k hkm).1
        have z1 := (hBk.cell (p := ⟨h, k * 2 + 1, none⟩) h1).trans (CH.out k hkm).2
        generalize (rpt x y r k).1 = X at *
        generalize (rpt x y r k).2 = Y at *
        go_wp2
        try (go_quiet (fail))
        try go_wp2
        exact ⟨⟨k + 1, by omega, by go_num, by first | exact HBK.out.1 | exact below_drewN HBK.out.1 _, by first | exact HBK.out.2 | exact below_drewN HBK.out.2 _⟩, by simp [intOf]; omega⟩
      · have hk16 : ¬ (k : Int) < 16 := by omega
        have v0 := (hBk.cell (p := ⟨w.heap.size, 0, none⟩) lb0).trans E.out.1
        have v1 := (hBk.cell (p := ⟨w.heap.size, 1, none⟩) lb0).trans E.out.2.1
        have v2 := (hBk.cell (p := ⟨w.heap.size + 1, 0, none⟩) lb1).trans E.out.2.2.1
        have v3 := (hBk.cell (p := ⟨w.heap.size + 1, 1, none⟩) lb1).trans E.out.2.2.2.1
        have v4 := (hBk.cell (p := ⟨w.heap.size + 1 + 1, 0, none⟩) lb3).trans E.out.2.2.2.2.1
        have v5 := (hBk.cell (p := ⟨w.heap.size + 1 + 1, 1, none⟩) lb3).trans E.out.2.2.2.2.2.1
        have v6 := (hBk.cell (p := ⟨w.heap.size + 1 + 1, 2, none⟩) lb3).trans E.out.2.2.2.2.2.2
        have hs2 := hBk.size
        have lw0 : w.heap.size < wr.heap.size := by omega
        have lw1 : w.heap.size + 1 < wr.heap.size := by omega
        have lw2 : w.heap.size + 1 + 1 < wr.heap.size := by omega
        clear hkm hk
        go_wp2_with (first | (go_at_call 36; refine (Q1.out _ (HT.out.below (by (first | assumption | go_grown) : Below w.heap.size w _) hz)).mono ?_; rintro e w3 ⟨rfl, hb3⟩; obtain ⟨hB3, hz3, hc3, hf3⟩ := grow4 (w := w) (by go_grown) hb3; (try simp only [World.size_alloc, World.size_setCell, World.size_drew] at hz3); (try have hy3 := Nat.lt_of_succ_le hz3); (try have hx3 := Nat.lt_of_succ_lt hy3); (try have hw3 := Nat.lt_of_succ_lt hx3); (try have hv3 := Nat.lt_of_succ_lt hw3); (try have ha3 : w.heap.size < w3.heap.size := (by omega)); (try have hi3 : w.heap.size + 1 < w3.heap.size := (by omega)); (try have hj3 : w.heap.size + 1 + 1 < w3.heap.size := (by omega)); (try have hk3 : w.heap.size + 1 + 1 + 1 < w3.heap.size := (by omega)); (try have hl3 : w.heap.size + 1 + 1 + 1 + 1 < w3.heap.size := (by omega))) | (go_at_call 37; refine (Q2.out _).mono ?_; rintro e w4 ⟨rfl, hb4⟩; obtain ⟨hB4, hz4, hc4, hf4⟩ := grow4 (w := w) (by go_grown) hb4; (try simp only [World.size_alloc, World.size_setCell, World.size_drew] at hz4); (try have hy4 := Nat.lt_of_succ_le hz4); (try have hx4 := Nat.lt_of_succ_lt hy4); (try have hw4 := Nat.lt_of_succ_lt hx4); (try have hv4 := Nat.lt_of_succ_lt hw4); (try have ha4 : w.heap.size < w4.heap.size := (by omega)); (try have hi4 : w.heap.size + 1 < w4.heap.size := (by omega)); (try have hj4 : w.heap.size + 1 + 1 < w4.heap.size := (by omega)); (try have hk4 : w.heap.size + 1 + 1 + 1 < w4.heap.size := (by omega)); (try have hl4 : w.heap.size + 1 + 1 + 1 + 1 < w4.heap.size := (by omega))) | (go_at_call 19; refine (fine_any _ (HT.out.below (by (first | assumption | go_grown) : Below w.heap.size w _) hz)).mono ?_; rintro e w5 ⟨rfl, hb5⟩; obtain ⟨hB5, hz5, hc5, hf5⟩ := grow4 (w := w) (by go_grown) hb5; (try simp only [World.size_alloc, World.size_setCell, World.size_drew] at hz5); (try have hy5 := Nat.lt_of_succ_le hz5); (try have hx5 := Nat.lt_of_succ_lt hy5); (try have hw5 := Nat.lt_of_succ_lt hx5); (try have hv5 := Nat.lt_of_succ_lt hw5); (try have ha5 : w.heap.size < w5.heap.size := (by omega)); (try have hi5 : w.heap.size + 1 < w5.heap.size := (by omega)); (try have hj5 : w.heap.size + 1 + 1 < w5.heap.size := (by omega)); (try have hk5 : w.heap.size + 1 + 1 + 1 < w5.heap.size := (by omega)); (try have hl5 : w.heap.size + 1 + 1 + 1 + 1 < w5.heap.size := (by omega))))
        go_returns
        exact ⟨rfl, hB5⟩
  · obtain ⟨E, hE⟩ : ∃ E : Int, (∀ w : World, Tab w → Calls Tryd.prog 34 #[.agg #[.int .i64 x, .int .i64 y, .int .i64 r]] w fun e w' => e = .returned (.tuple #[.slice none 0 0, .int .i64 E]) ∧ Below w.heap.size w w') ∧ (∀ w : World, Calls Tryd.prog 35 #[.agg #[.int .i64 x, .int .i64 y, .int .i64 r]] w fun e w' => e = .returned (.tuple #[.slice none 0 0, .int .i64 E]) ∧ Below w.heap.size w w') := by
      rcases chkDisc_cases x y r with ⟨hd, _⟩ | hd
      · have hc : M.chk (ringPts x y r) ≠ 0 := fun hc => hok ⟨hd, hc⟩
        exact ⟨4, fun w ht => Ring_over x y r w ht hd hc, fun w => rRing_over x y r w hd hc⟩
      · refine ⟨2, fun w _ => ?_, fun w => rRing_bad x y r w hd⟩
        have := Ring_bad x y r w (by omega)
        rwa [hd] at this
    have HE := Lib.hid hE
    clear hE hok
    go_enter Tryd.func5, Tryd.ntmps5
    go_wp2_with (first | (go_at_call 34; refine (HE.out.1 _ (HT.out.below (by (first | assumption | go_grown) : Below w.heap.size w _) hz)).mono ?_; rintro e w1 ⟨rfl, hb1⟩; obtain ⟨hB1, hz1, hc1, hf1⟩ := grow4 (w := w) (by go_grown) hb1; (try simp only [World.size_alloc, World.size_setCell, World.size_drew] at hz1); (try have hy1 := Nat.lt_of_succ_le hz1); (try have hx1 := Nat.lt_of_succ_lt hy1); (try have hw1 := Nat.lt_of_succ_lt hx1); (try have hv1 := Nat.lt_of_succ_lt hw1); (try have ha1 : w.heap.size < w1.heap.size := (by omega)); (try have hi1 : w.heap.size + 1 < w1.heap.size := (by omega)); (try have hj1 : w.heap.size + 1 + 1 < w1.heap.size := (by omega)); (try have hk1 : w.heap.size + 1 + 1 + 1 < w1.heap.size := (by omega)); (try have hl1 : w.heap.size + 1 + 1 + 1 + 1 < w1.heap.size := (by omega))) | (go_at_call 35; refine (HE.out.2 _).mono ?_; rintro e w2 ⟨rfl, hb2⟩; obtain ⟨hB2, hz2, hc2, hf2⟩ := grow4 (w := w) (by go_grown) hb2; (try simp only [World.size_alloc, World.size_setCell, World.size_drew] at hz2); (try have hy2 := Nat.lt_of_succ_le hz2); (try have hx2 := Nat.lt_of_succ_lt hy2); (try have hw2 := Nat.lt_of_succ_lt hx2); (try have hv2 := Nat.lt_of_succ_lt hw2); (try have ha2 : w.heap.size < w2.heap.size := (by omega)); (try have hi2 : w.heap.size + 1 < w2.heap.size := (by omega)); (try have hj2 : w.heap.size + 1 + 1 < w2.heap.size := (by omega)); (try have hk2 : w.heap.size + 1 + 1 + 1 < w2.heap.size := (by omega)); (try have hl2 : w.heap.size + 1 + 1 + 1 + 1 < w2.heap.size := (by omega))))
    refine wp_loop_rounds 1 ?_
    rw [rounds_succ]
    go_wp2_with (first | (go_at_call 36; refine (Q1.out _ (HT.out.below (by (first | assumption | go_grown) : Below w.heap.size w _) hz)).mono ?_; rintro e w3 ⟨rfl, hb3⟩; obtain ⟨hB3, hz3, hc3, hf3⟩ := grow4 (w := w) (by go_grown) hb3; (try simp only [World.size_alloc, World.size_setCell, World.size_drew] at hz3); (try have hy3 := Nat.lt_of_succ_le hz3); (try have hx3 := Nat.lt_of_succ_lt hy3); (try have hw3 := Nat.lt_of_succ_lt hx3); (try have hv3 := Nat.lt_of_succ_lt hw3); (try have ha3 : w.heap.size < w3.heap.size := (by omega)); (try have hi3 : w.heap.size + 1 < w3.heap.size := (by omega)); (try have hj3 : w.heap.size + 1 + 1 < w3.heap.size := (by omega)); (try have hk3 : w.heap.size + 1 + 1 + 1 < w3.heap.size := (by omega)); (try have hl3 : w.heap.size + 1 + 1 + 1 + 1 < w3.heap.size := (by omega))) | (go_at_call 37; refine (Q2.out _).mono ?_; rintro e w4 ⟨rfl, hb4⟩; obtain ⟨hB4, hz4, hc4, hf4⟩ := grow4 (w := w) (by go_grown) hb4; (try simp only [World.size_alloc, World.size_setCell, World.size_drew] at hz4); (try have hy4 := Nat.lt_of_succ_le hz4); (try have hx4 := Nat.lt_of_succ_lt hy4); (try have hw4 := Nat.lt_of_succ_lt hx4); (try have hv4 := Nat.lt_of_succ_lt hw4); (try have ha4 : w.heap.size < w4.heap.size := (by omega)); (try have hi4 : w.heap.size + 1 < w4.heap.size := (by omega)); (try have hj4 : w.heap.size + 1 + 1 < w4.heap.size := (by omega)); (try have hk4 : w.heap.size + 1 + 1 + 1 < w4.heap.size := (by omega)); (try have hl4 : w.heap.size + 1 + 1 + 1 + 1 < w4.heap.size := (by omega))) | (go_at_call 19; refine (fine_any _ (HT.out.below (by (first | assumption | go_grown) : Below w.heap.size w _) hz)).mono ?_; rintro e w5 ⟨rfl, hb5⟩; obtain ⟨hB5, hz5, hc5, hf5⟩ := grow4 (w := w) (by go_grown) hb5; (try simp only [World.size_alloc, World.size_setCell, World.size_drew] at hz5); (try have hy5 := Nat.lt_of_succ_le hz5); (try have hx5 := Nat.lt_of_succ_lt hy5); (try have hw5 := Nat.lt_of_succ_lt hx5); (try have hv5 := Nat.lt_of_succ_lt hw5); (try have ha5 : w.heap.size < w5.heap.size := (by omega)); (try have hi5 : w.heap.size + 1 < w5.heap.size := (by omega)); (try have hj5 : w.heap.size + 1 + 1 < w5.heap.size := (by omega)); (try have hk5 : w.heap.size + 1 + 1 + 1 < w5.heap.size := (by omega)); (try have hl5 : w.heap.size + 1 + 1 + 1 + 1 < w5.heap.size := (by omega))))
    go_returns
    exact ⟨rfl, hB5⟩
end Go.Proofs.YtfcjdmpfoogljaaDoor
