/-
  Contracts of layer 1: what the functions of segments answer.
-/
import Derived.Test.YtfcjdmpfoogljaaDoorSeg
set_option linter.unusedVariables false
set_option linter.unusedSimpArgs false
namespace Go.Proofs.YtfcjdmpfoogljaaDoor
open Go.ChangeShapes Go.WideShapes Go.ChangeAt Go.RowKit

theorem chk2 {x y u v : Int} : (M.chk [(x, y), (u, v)] = 0 ∧ M.In x y ∧ M.In u v) ∨ (M.chk [(x, y), (u, v)] = 2 ∧ ¬ (M.In x y ∧ M.In u v)) := by
  rcases M.chk_cases [(x, y), (u, v)] with ⟨h, k⟩ | ⟨h, p, hp, hn⟩
  · exact .inl ⟨h, k (x, y) (by simp), k (u, v) (by simp)⟩
  · refine .inr ⟨h, fun ⟨a, b⟩ => hn ?_⟩
    simp at hp
    rcases hp with rfl | rfl
    · exact a
    · exact b
theorem chk3 {x y u v p q : Int} : (M.chk [(x, y), (u, v), (p, q)] = 0 ∧ M.In x y ∧ M.In u v ∧ M.In p q) ∨ (M.chk [(x, y), (u, v), (p, q)] = 2 ∧ ¬ (M.In x y ∧ M.In u v ∧ M.In p q)) := by
  rcases M.chk_cases [(x, y), (u, v), (p, q)] with ⟨h, k⟩ | ⟨h, z, hp, hn⟩
  · exact .inl ⟨h, k (x, y) (by simp), k (u, v) (by simp), k (p, q) (by simp)⟩
  · refine .inr ⟨h, fun ⟨a, b, c⟩ => hn ?_⟩
    simp at hp
    rcases hp with rfl | rfl | rfl
    · exact a
    · exact b
    · exact c

theorem Square_ok (x y u v : Int) (w : World) (h1 : M.In x y) (h2 : M.In u v) :
    Calls Tryd.prog 20 #[.agg #[.int .i64 x, .int .i64 y], .agg #[.int .i64 u, .int .i64 v]] w fun e w' => e = .returned (.tuple #[.int .i64 (M.sq x y u v), .int .i64 0]) ∧ Below w.heap.size w w' := by
  rcases chk2 (x := x) (y := y) (u := u) (v := v) with ⟨hc, _⟩ | ⟨_, hn⟩
  · have H1 := Lib.hid h1
    have H2 := Lib.hid h2
    clear h1 h2
    go_enter Tryd.func20, Tryd.ntmps20
    go_wp2_with (first | (go_at_call 53; refine (checkAll_two x y u v _ _ _ (by go_size) (by go_cell) (by go_cell) (by go_cell) (by go_cell)).mono ?_; rintro e w1 ⟨rfl, hb1⟩; obtain ⟨hB1, hz1, hc1, hf1⟩ := grow4 (w := w) (by go_grown) hb1; (try simp only [World.size_alloc, World.size_setCell, World.size_drew] at hz1); (try have hy1 := Nat.lt_of_succ_le hz1); (try have hx1 := Nat.lt_of_succ_lt hy1); (try have hw1 := Nat.lt_of_succ_lt hx1); (try have hv1 := Nat.lt_of_succ_lt hw1); (try have ha1 : w.heap.size < w1.heap.size := (by omega)); (try have hi1 : w.heap.size + 1 < w1.heap.size := (by omega)); (try have hj1 : w.heap.size + 1 + 1 < w1.heap.size := (by omega)); (try have hk1 : w.heap.size + 1 + 1 + 1 < w1.heap.size := (by omega)); (try have hl1 : w.heap.size + 1 + 1 + 1 + 1 < w1.heap.size := (by omega))) | (go_at_call 54; refine (sq_call x y u v _ H1.out H2.out).mono ?_; rintro e w2 ⟨rfl, hb2⟩; obtain ⟨hB2, hz2, hc2, hf2⟩ := grow4 (w := w) (by go_grown) hb2; (try simp only [World.size_alloc, World.size_setCell, World.size_drew] at hz2); (try have hy2 := Nat.lt_of_succ_le hz2); (try have hx2 := Nat.lt_of_succ_lt hy2); (try have hw2 := Nat.lt_of_succ_lt hx2); (try have hv2 := Nat.lt_of_succ_lt hw2); (try have ha2 : w.heap.size < w2.heap.size := (by omega)); (try have hi2 : w.heap.size + 1 < w2.heap.size := (by omega)); (try have hj2 : w.heap.size + 1 + 1 < w2.heap.size := (by omega)); (try have hk2 : w.heap.size + 1 + 1 + 1 < w2.heap.size := (by omega)); (try have hl2 : w.heap.size + 1 + 1 + 1 + 1 < w2.heap.size := (by omega))))
    go_returns
    exact ⟨rfl, hB2⟩
  · exact absurd ⟨h1, h2⟩ hn
theorem Square_bad (x y u v : Int) (w : World) (h : ¬ (M.In x y ∧ M.In u v)) :
    Calls Tryd.prog 20 #[.agg #[.int .i64 x, .int .i64 y], .agg #[.int .i64 u, .int .i64 v]] w fun e w' => e = .returned (.tuple #[.int .i64 0, .int .i64 2]) ∧ Below w.heap.size w w' := by
  rcases chk2 (x := x) (y := y) (u := u) (v := v) with ⟨_, hn⟩ | ⟨hc, _⟩
  · exact absurd hn h
  · clear h
    go_enter Tryd.func20, Tryd.ntmps20
    go_wp2_with (first | (go_at_call 53; refine (checkAll_two x y u v _ _ _ (by go_size) (by go_cell) (by go_cell) (by go_cell) (by go_cell)).mono ?_; rintro e w1 ⟨rfl, hb1⟩; obtain ⟨hB1, hz1, hc1, hf1⟩ := grow4 (w := w) (by go_grown) hb1; (try simp only [World.size_alloc, World.size_setCell, World.size_drew] at hz1); (try have hy1 := Nat.lt_of_succ_le hz1); (try have hx1 := Nat.lt_of_succ_lt hy1); (try have hw1 := Nat.lt_of_succ_lt hx1); (try have hv1 := Nat.lt_of_succ_lt hw1); (try have ha1 : w.heap.size < w1.heap.size := (by omega)); (try have hi1 : w.heap.size + 1 < w1.heap.size := (by omega)); (try have hj1 : w.heap.size + 1 + 1 < w1.heap.size := (by omega)); (try have hk1 : w.heap.size + 1 + 1 + 1 < w1.heap.size := (by omega)); (try have hl1 : w.heap.size + 1 + 1 + 1 + 1 < w1.heap.size := (by omega))))
    go_returns
    exact ⟨rfl, hB1⟩

set_option maxHeartbeats 1000000 in
theorem Side_ok (x y u v p q : Int) (w : World) (h1 : M.In x y) (h2 : M.In u v) (h3 : M.In p q) :
    Calls Tryd.prog 26 #[.agg #[.int .i64 x, .int .i64 y], .agg #[.int .i64 u, .int .i64 v], .agg #[.int .i64 p, .int .i64 q]] w fun e w' => e = .returned (.tuple #[.int .i64 (M.cmp (M.left x y u v p q) 0), .int .i64 0]) ∧ Below w.heap.size w w' := by
  rcases chk3 (x := x) (y := y) (u := u) (v := v) (p := p) (q := q) with ⟨hc, _⟩ | ⟨_, hn⟩
  · have H1 := Lib.hid h1
    have H2 := Lib.hid h2
    have H3 := Lib.hid h3
    clear h1 h2 h3
    go_enter Tryd.func26, Tryd.ntmps26
    go_wp2_with (first | (go_at_call 53; refine (checkAll_three x y u v p q _ _ _ (by go_size) (by go_cell) (by go_cell) (by go_cell) (by go_cell) (by go_cell) (by go_cell)).mono ?_; rintro e w1 ⟨rfl, hb1⟩; obtain ⟨hB1, hz1, hc1, hf1⟩ := grow4 (w := w) (by go_grown) hb1; (try simp only [World.size_alloc, World.size_setCell, World.size_drew] at hz1); (try have hy1 := Nat.lt_of_succ_le hz1); (try have hx1 := Nat.lt_of_succ_lt hy1); (try have hw1 := Nat.lt_of_succ_lt hx1); (try have hv1 := Nat.lt_of_succ_lt hw1); (try have ha1 : w.heap.size < w1.heap.size := (by omega)); (try have hi1 : w.heap.size + 1 < w1.heap.size := (by omega)); (try have hj1 : w.heap.size + 1 + 1 < w1.heap.size := (by omega)); (try have hk1 : w.heap.size + 1 + 1 + 1 < w1.heap.size := (by omega)); (try have hl1 : w.heap.size + 1 + 1 + 1 + 1 < w1.heap.size := (by omega))) | (go_at_call 58; refine (left_call x y u v p q _ H1.out H2.out H3.out).mono ?_; rintro e w2 ⟨rfl, hb2⟩; obtain ⟨hB2, hz2, hc2, hf2⟩ := grow4 (w := w) (by go_grown) hb2; (try simp only [World.size_alloc, World.size_setCell, World.size_drew] at hz2); (try have hy2 := Nat.lt_of_succ_le hz2); (try have hx2 := Nat.lt_of_succ_lt hy2); (try have hw2 := Nat.lt_of_succ_lt hx2); (try have hv2 := Nat.lt_of_succ_lt hw2); (try have ha2 : w.heap.size < w2.heap.size := (by omega)); (try have hi2 : w.heap.size + 1 < w2.heap.size := (by omega)); (try have hj2 : w.heap.size + 1 + 1 < w2.heap.size := (by omega)); (try have hk2 : w.heap.size + 1 + 1 + 1 < w2.heap.size := (by omega)); (try have hl2 : w.heap.size + 1 + 1 + 1 + 1 < w2.heap.size := (by omega))) | (go_at_call 57; refine (cmp64 _ _ _).mono ?_; rintro e w' ⟨rfl, rfl⟩))
    go_returns
    exact ⟨rfl, hB2⟩
  · exact absurd ⟨h1, h2, h3⟩ hn
theorem Side_bad (x y u v p q : Int) (w : World) (h : ¬ (M.In x y ∧ M.In u v ∧ M.In p q)) :
    Calls Tryd.prog 26 #[.agg #[.int .i64 x, .int .i64 y], .agg #[.int .i64 u, .int .i64 v], .agg #[.int .i64 p, .int .i64 q]] w fun e w' => e = .returned (.tuple #[.int .i64 0, .int .i64 2]) ∧ Below w.heap.size w w' := by
  rcases chk3 (x := x) (y := y) (u := u) (v := v) (p := p) (q := q) with ⟨_, hn⟩ | ⟨hc, _⟩
  · exact absurd hn h
  · clear h
    go_enter Tryd.func26, Tryd.ntmps26
    go_wp2_with (first | (go_at_call 53; refine (checkAll_three x y u v p q _ _ _ (by go_size) (by go_cell) (by go_cell) (by go_cell) (by go_cell) (by go_cell) (by go_cell)).mono ?_; rintro e w1 ⟨rfl, hb1⟩; obtain ⟨hB1, hz1, hc1, hf1⟩ := grow4 (w := w) (by go_grown) hb1; (try simp only [World.size_alloc, World.size_setCell, World.size_drew] at hz1); (try have hy1 := Nat.lt_of_succ_le hz1); (try have hx1 := Nat.lt_of_succ_lt hy1); (try have hw1 := Nat.lt_of_succ_lt hx1); (try have hv1 := Nat.lt_of_succ_lt hw1); (try have ha1 : w.heap.size < w1.heap.size := (by omega)); (try have hi1 : w.heap.size + 1 < w1.heap.size := (by omega)); (try have hj1 : w.heap.size + 1 + 1 < w1.heap.size := (by omega)); (try have hk1 : w.heap.size + 1 + 1 + 1 < w1.heap.size := (by omega)); (try have hl1 : w.heap.size + 1 + 1 + 1 + 1 < w1.heap.size := (by omega))))
    go_returns
    exact ⟨rfl, hB1⟩

set_option maxHeartbeats 1000000 in
theorem Lies_ok (x y u v p q r : Int) (w : World) (h1 : M.In x y) (h2 : M.In u v) (h3 : M.In p q) (r1 : 0 ≤ r) (r2 : r ≤ 8388608) :
    Calls Tryd.prog 28 #[.agg #[.int .i64 x, .int .i64 y], .agg #[.int .i64 u, .int .i64 v], .agg #[.int .i64 p, .int .i64 q], .int .i64 r] w fun e w' => e = .returned (.tuple #[.int .i64 (M.liesV x y u v p q r), .int .i64 0]) ∧ Below w.heap.size w w' := by
  rcases chk3 (x := x) (y := y) (u := u) (v := v) (p := p) (q := q) with ⟨hc, _⟩ | ⟨_, hn⟩
  · have H1 := Lib.hid h1
    have H2 := Lib.hid h2
    have H3 := Lib.hid h3
    clear h1 h2 h3
    go_enter Tryd.func28, Tryd.ntmps28
    go_wp2_with (first | (go_at_call 53; refine (checkAll_three x y u v p q _ _ _ (by go_size) (by go_cell) (by go_cell) (by go_cell) (by go_cell) (by go_cell) (by go_cell)).mono ?_; rintro e w1 ⟨rfl, hb1⟩; obtain ⟨hB1, hz1, hc1, hf1⟩ := grow4 (w := w) (by go_grown) hb1; (try simp only [World.size_alloc, World.size_setCell, World.size_drew] at hz1); (try have hy1 := Nat.lt_of_succ_le hz1); (try have hx1 := Nat.lt_of_succ_lt hy1); (try have hw1 := Nat.lt_of_succ_lt hx1); (try have hv1 := Nat.lt_of_succ_lt hw1); (try have ha1 : w.heap.size < w1.heap.size := (by omega)); (try have hi1 : w.heap.size + 1 < w1.heap.size := (by omega)); (try have hj1 : w.heap.size + 1 + 1 < w1.heap.size := (by omega)); (try have hk1 : w.heap.size + 1 + 1 + 1 < w1.heap.size := (by omega)); (try have hl1 : w.heap.size + 1 + 1 + 1 + 1 < w1.heap.size := (by omega))) | (go_at_call 61; refine (lies_any x y u v p q r _ H1.out H2.out H3.out r1 r2).mono ?_; rintro e w2 ⟨rfl, hb2⟩; obtain ⟨hB2, hz2, hc2, hf2⟩ := grow4 (w := w) (by go_grown) hb2; (try simp only [World.size_alloc, World.size_setCell, World.size_drew] at hz2); (try have hy2 := Nat.lt_of_succ_le hz2); (try have hx2 := Nat.lt_of_succ_lt hy2); (try have hw2 := Nat.lt_of_succ_lt hx2); (try have hv2 := Nat.lt_of_succ_lt hw2); (try have ha2 : w.heap.size < w2.heap.size := (by omega)); (try have hi2 : w.heap.size + 1 < w2.heap.size := (by omega)); (try have hj2 : w.heap.size + 1 + 1 < w2.heap.size := (by omega)); (try have hk2 : w.heap.size + 1 + 1 + 1 < w2.heap.size := (by omega)); (try have hl2 : w.heap.size + 1 + 1 + 1 + 1 < w2.heap.size := (by omega))))
    go_returns
    exact ⟨rfl, hB2⟩
  · exact absurd ⟨h1, h2, h3⟩ hn
theorem Lies_bad (x y u v p q r : Int) (w : World) (h : ¬ (M.In x y ∧ M.In u v ∧ M.In p q)) :
    Calls Tryd.prog 28 #[.agg #[.int .i64 x, .int .i64 y], .agg #[.int .i64 u, .int .i64 v], .agg #[.int .i64 p, .int .i64 q], .int .i64 r] w fun e w' => e = .returned (.tuple #[.int .i64 0, .int .i64 2]) ∧ Below w.heap.size w w' := by
  rcases chk3 (x := x) (y := y) (u := u) (v := v) (p := p) (q := q) with ⟨_, hn⟩ | ⟨hc, _⟩
  · exact absurd hn h
  · clear h
    go_enter Tryd.func28, Tryd.ntmps28
    go_wp2_with (first | (go_at_call 53; refine (checkAll_three x y u v p q _ _ _ (by go_size) (by go_cell) (by go_cell) (by go_cell) (by go_cell) (by go_cell) (by go_cell)).mono ?_; rintro e w1 ⟨rfl, hb1⟩; obtain ⟨hB1, hz1, hc1, hf1⟩ := grow4 (w := w) (by go_grown) hb1; (try simp only [World.size_alloc, World.size_setCell, World.size_drew] at hz1); (try have hy1 := Nat.lt_of_succ_le hz1); (try have hx1 := Nat.lt_of_succ_lt hy1); (try have hw1 := Nat.lt_of_succ_lt hx1); (try have hv1 := Nat.lt_of_succ_lt hw1); (try have ha1 : w.heap.size < w1.heap.size := (by omega)); (try have hi1 : w.heap.size + 1 < w1.heap.size := (by omega)); (try have hj1 : w.heap.size + 1 + 1 < w1.heap.size := (by omega)); (try have hk1 : w.heap.size + 1 + 1 + 1 < w1.heap.size := (by omega)); (try have hl1 : w.heap.size + 1 + 1 + 1 + 1 < w1.heap.size := (by omega))))
    go_returns
    exact ⟨rfl, hB1⟩
set_option maxHeartbeats 1000000 in
theorem Lies_range (x y u v p q r : Int) (w : World) (h1 : M.In x y) (h2 : M.In u v) (h3 : M.In p q) (hr : r < 0 ∨ 8388608 < r) :
    Calls Tryd.prog 28 #[.agg #[.int .i64 x, .int .i64 y], .agg #[.int .i64 u, .int .i64 v], .agg #[.int .i64 p, .int .i64 q], .int .i64 r] w fun e w' => e = .returned (.tuple #[.int .i64 0, .int .i64 3]) ∧ Below w.heap.size w w' := by
  rcases chk3 (x := x) (y := y) (u := u) (v := v) (p := p) (q := q) with ⟨hc, _⟩ | ⟨_, hn⟩
  · clear h1 h2 h3
    rcases hr with hr | hr
    all_goals
      go_enter Tryd.func28, Tryd.ntmps28
      go_wp2_with (first | (go_at_call 53; refine (checkAll_three x y u v p q _ _ _ (by go_size) (by go_cell) (by go_cell) (by go_cell) (by go_cell) (by go_cell) (by go_cell)).mono ?_; rintro e w1 ⟨rfl, hb1⟩; obtain ⟨hB1, hz1, hc1, hf1⟩ := grow4 (w := w) (by go_grown) hb1; (try simp only [World.size_alloc, World.size_setCell, World.size_drew] at hz1); (try have hy1 := Nat.lt_of_succ_le hz1); (try have hx1 := Nat.lt_of_succ_lt hy1); (try have hw1 := Nat.lt_of_succ_lt hx1); (try have hv1 := Nat.lt_of_succ_lt hw1); (try have ha1 : w.heap.size < w1.heap.size := (by omega)); (try have hi1 : w.heap.size + 1 < w1.heap.size := (by omega)); (try have hj1 : w.heap.size + 1 + 1 < w1.heap.size := (by omega)); (try have hk1 : w.heap.size + 1 + 1 + 1 < w1.heap.size := (by omega)); (try have hl1 : w.heap.size + 1 + 1 + 1 + 1 < w1.heap.size := (by omega))))
      all_goals first | (exfalso; omega) | (go_returns; exact ⟨rfl, hB1⟩)
  · exact absurd ⟨h1, h2, h3⟩ hn

theorem chkDisc_in {x y r : Int} (h : chkDisc x y r = 0) : M.In x y ∧ 1 ≤ r ∧ r ≤ 65536 := by
  unfold chkDisc at h
  split at h
  · omega
  · rcases M.chk_cases [(x, y)] with ⟨_, k⟩ | ⟨k, _⟩
    · exact ⟨k (x, y) (by simp), by omega, by omega⟩
    · omega
theorem chkDisc_two {x y r : Int} (h : ¬ chkDisc x y r = 0) : chkDisc x y r = 2 := by
  unfold chkDisc at h ⊢
  split at h
  · rename_i hr; rw [if_pos hr]
  · rename_i hr
    rw [if_neg hr]
    rcases M.chk_cases [(x, y)] with ⟨k, _⟩ | ⟨k, _⟩
    · exact absurd k h
    · exact k
set_option maxHeartbeats 1000000 in
theorem Cuts_ok (x y u v p q r : Int) (w : World) (h1 : M.In x y) (h2 : M.In u v) (h3 : chkDisc p q r = 0) :
    Calls Tryd.prog 30 #[.agg #[.int .i64 x, .int .i64 y], .agg #[.int .i64 u, .int .i64 v], .agg #[.int .i64 p, .int .i64 q, .int .i64 r]] w fun e w' => e = .returned (.tuple #[.bool (decide (M.liesV x y u v p q r < 0)), .int .i64 0]) ∧ Below w.heap.size w w' := by
  rcases chk2 (x := x) (y := y) (u := u) (v := v) with ⟨hc, _⟩ | ⟨_, hn⟩
  · obtain ⟨h4, r1, r2⟩ := chkDisc_in h3
    have H1 := Lib.hid h1
    have H2 := Lib.hid h2
    have H4 := Lib.hid h4
    clear h1 h2 h4
    go_enter Tryd.func30, Tryd.ntmps30
    go_wp2_with (first | (go_at_call 53; refine (checkAll_two x y u v _ _ _ (by go_size) (by go_cell) (by go_cell) (by go_cell) (by go_cell)).mono ?_; rintro e w1 ⟨rfl, hb1⟩; obtain ⟨hB1, hz1, hc1, hf1⟩ := grow4 (w := w) (by go_grown) hb1; (try simp only [World.size_alloc, World.size_setCell, World.size_drew] at hz1); (try have hy1 := Nat.lt_of_succ_le hz1); (try have hx1 := Nat.lt_of_succ_lt hy1); (try have hw1 := Nat.lt_of_succ_lt hx1); (try have hv1 := Nat.lt_of_succ_lt hw1); (try have ha1 : w.heap.size < w1.heap.size := (by omega)); (try have hi1 : w.heap.size + 1 < w1.heap.size := (by omega)); (try have hj1 : w.heap.size + 1 + 1 < w1.heap.size := (by omega)); (try have hk1 : w.heap.size + 1 + 1 + 1 < w1.heap.size := (by omega)); (try have hl1 : w.heap.size + 1 + 1 + 1 + 1 < w1.heap.size := (by omega))) | (go_at_call 24; refine (CheckDisc_any p q r _).mono ?_; rintro e w2 ⟨rfl, hb2⟩; obtain ⟨hB2, hz2, hc2, hf2⟩ := grow4 (w := w) (by go_grown) hb2; (try simp only [World.size_alloc, World.size_setCell, World.size_drew] at hz2); (try have hy2 := Nat.lt_of_succ_le hz2); (try have hx2 := Nat.lt_of_succ_lt hy2); (try have hw2 := Nat.lt_of_succ_lt hx2); (try have hv2 := Nat.lt_of_succ_lt hw2); (try have ha2 : w.heap.size < w2.heap.size := (by omega)); (try have hi2 : w.heap.size + 1 < w2.heap.size := (by omega)); (try have hj2 : w.heap.size + 1 + 1 < w2.heap.size := (by omega)); (try have hk2 : w.heap.size + 1 + 1 + 1 < w2.heap.size := (by omega)); (try have hl2 : w.heap.size + 1 + 1 + 1 + 1 < w2.heap.size := (by omega))) | (go_at_call 61; refine (lies_any x y u v p q r _ H1.out H2.out H4.out (by omega) (by omega)).mono ?_; rintro e w3 ⟨rfl, hb3⟩; obtain ⟨hB3, hz3, hc3, hf3⟩ := grow4 (w := w) (by go_grown) hb3; (try simp only [World.size_alloc, World.size_setCell, World.size_drew] at hz3); (try have hy3 := Nat.lt_of_succ_le hz3); (try have hx3 := Nat.lt_of_succ_lt hy3); (try have hw3 := Nat.lt_of_succ_lt hx3); (try have hv3 := Nat.lt_of_succ_lt hw3); (try have ha3 : w.heap.size < w3.heap.size := (by omega)); (try have hi3 : w.heap.size + 1 < w3.heap.size := (by omega)); (try have hj3 : w.heap.size + 1 + 1 < w3.heap.size := (by omega)); (try have hk3 : w.heap.size + 1 + 1 + 1 < w3.heap.size := (by omega)); (try have hl3 : w.heap.size + 1 + 1 + 1 + 1 < w3.heap.size := (by omega))))
    go_returns
    exact ⟨rfl, hB3⟩
  · exact absurd ⟨h1, h2⟩ hn
set_option maxHeartbeats 1000000 in
theorem Cuts_bad (x y u v p q r : Int) (w : World) (h : ¬ (M.In x y ∧ M.In u v ∧ chkDisc p q r = 0)) :
    Calls Tryd.prog 30 #[.agg #[.int .i64 x, .int .i64 y], .agg #[.int .i64 u, .int .i64 v], .agg #[.int .i64 p, .int .i64 q, .int .i64 r]] w fun e w' => e = .returned (.tuple #[.bool false, .int .i64 2]) ∧ Below w.heap.size w w' := by
  rcases chk2 (x := x) (y := y) (u := u) (v := v) with ⟨hc, k1, k2⟩ | ⟨hc, _⟩
  · have h4 := chkDisc_two (x := p) (y := q) (r := r) (fun k => h ⟨k1, k2, k⟩)
    clear h k1 k2
    go_enter Tryd.func30, Tryd.ntmps30
    go_wp2_with (first | (go_at_call 53; refine (checkAll_two x y u v _ _ _ (by go_size) (by go_cell) (by go_cell) (by go_cell) (by go_cell)).mono ?_; rintro e w1 ⟨rfl, hb1⟩; obtain ⟨hB1, hz1, hc1, hf1⟩ := grow4 (w := w) (by go_grown) hb1; (try simp only [World.size_alloc, World.size_setCell, World.size_drew] at hz1); (try have hy1 := Nat.lt_of_succ_le hz1); (try have hx1 := Nat.lt_of_succ_lt hy1); (try have hw1 := Nat.lt_of_succ_lt hx1); (try have hv1 := Nat.lt_of_succ_lt hw1); (try have ha1 : w.heap.size < w1.heap.size := (by omega)); (try have hi1 : w.heap.size + 1 < w1.heap.size := (by omega)); (try have hj1 : w.heap.size + 1 + 1 < w1.heap.size := (by omega)); (try have hk1 : w.heap.size + 1 + 1 + 1 < w1.heap.size := (by omega)); (try have hl1 : w.heap.size + 1 + 1 + 1 + 1 < w1.heap.size := (by omega))) | (go_at_call 24; refine (CheckDisc_any p q r _).mono ?_; rintro e w2 ⟨rfl, hb2⟩; obtain ⟨hB2, hz2, hc2, hf2⟩ := grow4 (w := w) (by go_grown) hb2; (try simp only [World.size_alloc, World.size_setCell, World.size_drew] at hz2); (try have hy2 := Nat.lt_of_succ_le hz2); (try have hx2 := Nat.lt_of_succ_lt hy2); (try have hw2 := Nat.lt_of_succ_lt hx2); (try have hv2 := Nat.lt_of_succ_lt hw2); (try have ha2 : w.heap.size < w2.heap.size := (by omega)); (try have hi2 : w.heap.size + 1 < w2.heap.size := (by omega)); (try have hj2 : w.heap.size + 1 + 1 < w2.heap.size := (by omega)); (try have hk2 : w.heap.size + 1 + 1 + 1 < w2.heap.size := (by omega)); (try have hl2 : w.heap.size + 1 + 1 + 1 + 1 < w2.heap.size := (by omega))))
    go_returns
    exact ⟨rfl, hB2⟩
  · clear h
    go_enter Tryd.func30, Tryd.ntmps30
    go_wp2_with (first | (go_at_call 53; refine (checkAll_two x y u v _ _ _ (by go_size) (by go_cell) (by go_cell) (by go_cell) (by go_cell)).mono ?_; rintro e w1 ⟨rfl, hb1⟩; obtain ⟨hB1, hz1, hc1, hf1⟩ := grow4 (w := w) (by go_grown) hb1; (try simp only [World.size_alloc, World.size_setCell, World.size_drew] at hz1); (try have hy1 := Nat.lt_of_succ_le hz1); (try have hx1 := Nat.lt_of_succ_lt hy1); (try have hw1 := Nat.lt_of_succ_lt hx1); (try have hv1 := Nat.lt_of_succ_lt hw1); (try have ha1 : w.heap.size < w1.heap.size := (by omega)); (try have hi1 : w.heap.size + 1 < w1.heap.size := (by omega)); (try have hj1 : w.heap.size + 1 + 1 < w1.heap.size := (by omega)); (try have hk1 : w.heap.size + 1 + 1 + 1 < w1.heap.size := (by omega)); (try have hl1 : w.heap.size + 1 + 1 + 1 + 1 < w1.heap.size := (by omega))))
    go_returns
    exact ⟨rfl, hB1⟩
end Go.Proofs.YtfcjdmpfoogljaaDoor
