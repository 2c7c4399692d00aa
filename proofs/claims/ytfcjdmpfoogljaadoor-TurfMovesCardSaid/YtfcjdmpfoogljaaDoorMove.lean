/-
  Contracts of layer 1: the first contact.
-/
import Derived.Test.YtfcjdmpfoogljaaDoorMoveM
import Derived.Test.YtfcjdmpfoogljaaDoorSegB
set_option linter.unusedVariables false
set_option linter.unusedSimpArgs false
namespace Go.Proofs.YtfcjdmpfoogljaaDoor
open Go.ChangeShapes Go.WideShapes Go.ChangeAt Go.RowKit

theorem within_any (x y r : Int) (b : Bool) (w : World) (h1 : 0 ≤ r) (h2 : r ≤ 134217728) (h : M.near x y r = b) :
    Calls Tryd.prog 68 #[.int .i64 x, .int .i64 y, .int .i64 r] w fun e w' => e = .returned (.bool b) ∧ Below w.heap.size w w' := by
  by_cases k1 : -r ≤ x
  case neg =>
    obtain rfl : b = false := by rw [← h]; exact M.near_no (fun hh => k1 hh.1)
    clear h
    have k1' : x < -r := by omega
    go_enter Tryd.func68, Tryd.ntmps68
    go_wp2
    go_returns
    exact ⟨rfl, by go_grown⟩
  by_cases k2 : x ≤ r
  case neg =>
    obtain rfl : b = false := by rw [← h]; exact M.near_no (fun hh => k2 hh.2.1)
    clear h
    go_enter Tryd.func68, Tryd.ntmps68
    go_wp2
    go_returns
    exact ⟨rfl, by go_grown⟩
  by_cases k3 : -r ≤ y
  case neg =>
    obtain rfl : b = false := by rw [← h]; exact M.near_no (fun hh => k3 hh.2.2.1)
    clear h
    go_enter Tryd.func68, Tryd.ntmps68
    go_wp2
    go_returns
    exact ⟨rfl, by go_grown⟩
  by_cases k4 : y ≤ r
  case neg =>
    obtain rfl : b = false := by rw [← h]; exact M.near_no (fun hh => k4 hh.2.2.2.1)
    clear h
    go_enter Tryd.func68, Tryd.ntmps68
    go_wp2
    go_returns
    exact ⟨rfl, by go_grown⟩
  have s1 := M.sq_le_of k1 k2
  have s2 := M.sq_le_of k3 k4
  have s3 := M.sq_nonneg x
  have s4 := M.sq_nonneg y
  have s5 : r * r ≤ 134217728 * 134217728 := Int.mul_le_mul h2 h2 h1 (by omega)
  by_cases k5 : x * x + y * y ≤ r * r
  · obtain rfl : b = true := by rw [← h]; exact M.near_yes k1 k2 k3 k4 k5
    clear h
    go_enter Tryd.func68, Tryd.ntmps68
    go_wp2
    go_returns
    exact ⟨by first | rfl | (simp; omega), by go_grown⟩
  · obtain rfl : b = false := by rw [← h]; exact M.near_no (fun hh => k5 hh.2.2.2.2)
    clear h
    go_enter Tryd.func68, Tryd.ntmps68
    go_wp2
    go_returns
    exact ⟨by first | rfl | (simp; omega), by go_grown⟩
theorem chk4 {x y u v p q r s : Int} : (M.chk [(x, y), (u, v), (p, q), (r, s)] = 0 ∧ M.In x y ∧ M.In u v ∧ M.In p q ∧ M.In r s) ∨ (M.chk [(x, y), (u, v), (p, q), (r, s)] = 2 ∧ ¬ (M.In x y ∧ M.In u v ∧ M.In p q ∧ M.In r s)) := by
  rcases M.chk_cases [(x, y), (u, v), (p, q), (r, s)] with ⟨h, k⟩ | ⟨h, z, hp, hn⟩
  · exact .inl ⟨h, k (x, y) (by simp), k (u, v) (by simp), k (p, q) (by simp), k (r, s) (by simp)⟩
  · refine .inr ⟨h, fun ⟨a, b, c, d⟩ => hn ?_⟩
    simp at hp
    rcases hp with rfl | rfl | rfl | rfl
    · exact a
    · exact b
    · exact c
    · exact d

set_option maxHeartbeats 1000000 in
theorem First_bad (p0 p1 v0 v1 q0 q1 u0 u1 r n : Int) (w : World) (h : ¬ (M.In p0 p1 ∧ M.In v0 v1 ∧ M.In q0 q1 ∧ M.In u0 u1)) :
    Calls Tryd.prog 38 #[.agg #[.int .i64 p0, .int .i64 p1], .agg #[.int .i64 v0, .int .i64 v1], .agg #[.int .i64 q0, .int .i64 q1], .agg #[.int .i64 u0, .int .i64 u1], .int .i64 r, .int .i64 n] w fun e w' => e = .returned (.tuple #[.int .i64 0, .int .i64 2]) ∧ Below w.heap.size w w' := by
  rcases chk4 (x := p0) (y := p1) (u := v0) (v := v1) (p := q0) (q := q1) (r := u0) (s := u1) with ⟨_, hn⟩ | ⟨hc, _⟩
  · exact absurd hn h
  · clear h
    go_enter Tryd.func38, Tryd.ntmps38
    go_wp2_with (first | (go_at_call 53; refine (checkAll_four p0 p1 v0 v1 q0 q1 u0 u1 _ _ _ (by go_size) (by go_cell) (by go_cell) (by go_cell) (by go_cell) (by go_cell) (by go_cell) (by go_cell) (by go_cell)).mono ?_; rintro e w1 ⟨rfl, hb1⟩; obtain ⟨hB1, hz1, hc1, hf1⟩ := grow4 (w := w) (by go_grown) hb1; (try simp only [World.size_alloc, World.size_setCell, World.size_drew] at hz1); (try have hy1 := Nat.lt_of_succ_le hz1); (try have hx1 := Nat.lt_of_succ_lt hy1); (try have hw1 := Nat.lt_of_succ_lt hx1); (try have hv1 := Nat.lt_of_succ_lt hw1); (try have ha1 : w.heap.size < w1.heap.size := (by omega)); (try have hi1 : w.heap.size + 1 < w1.heap.size := (by omega)); (try have hj1 : w.heap.size + 1 + 1 < w1.heap.size := (by omega)); (try have hk1 : w.heap.size + 1 + 1 + 1 < w1.heap.size := (by omega)); (try have hl1 : w.heap.size + 1 + 1 + 1 + 1 < w1.heap.size := (by omega))))
    go_returns
    exact ⟨rfl, hB1⟩
set_option maxHeartbeats 1000000 in
theorem First_range (p0 p1 v0 v1 q0 q1 u0 u1 r n : Int) (w : World) (h1 : M.In p0 p1) (h2 : M.In v0 v1) (h3 : M.In q0 q1) (h4 : M.In u0 u1) (hr : r < 0 ∨ 131072 < r ∨ n < 1 ∨ 1024 < n) :
    Calls Tryd.prog 38 #[.agg #[.int .i64 p0, .int .i64 p1], .agg #[.int .i64 v0, .int .i64 v1], .agg #[.int .i64 q0, .int .i64 q1], .agg #[.int .i64 u0, .int .i64 u1], .int .i64 r, .int .i64 n] w fun e w' => e = .returned (.tuple #[.int .i64 0, .int .i64 3]) ∧ Below w.heap.size w w' := by
  rcases chk4 (x := p0) (y := p1) (u := v0) (v := v1) (p := q0) (q := q1) (r := u0) (s := u1) with ⟨hc, _⟩ | ⟨_, hn⟩
  · clear h1 h2 h3 h4
    by_cases k1 : r < 0
    case pos =>
      clear hr
      go_enter Tryd.func38, Tryd.ntmps38
      go_wp2_with (first | (go_at_call 53; refine (checkAll_four p0 p1 v0 v1 q0 q1 u0 u1 _ _ _ (by go_size) (by go_cell) (by go_cell) (by go_cell) (by go_cell) (by go_cell) (by go_cell) (by go_cell) (by go_cell)).mono ?_; rintro e w1 ⟨rfl, hb1⟩; obtain ⟨hB1, hz1, hc1, hf1⟩ := grow4 (w := w) (by go_grown) hb1; (try simp only [World.size_alloc, World.size_setCell, World.size_drew] at hz1); (try have hy1 := Nat.lt_of_succ_le hz1); (try have hx1 := Nat.lt_of_succ_lt hy1); (try have hw1 := Nat.lt_of_succ_lt hx1); (try have hv1 := Nat.lt_of_succ_lt hw1); (try have ha1 : w.heap.size < w1.heap.size := (by omega)); (try have hi1 : w.heap.size + 1 < w1.heap.size := (by omega)); (try have hj1 : w.heap.size + 1 + 1 < w1.heap.size := (by omega)); (try have hk1 : w.heap.size + 1 + 1 + 1 < w1.heap.size := (by omega)); (try have hl1 : w.heap.size + 1 + 1 + 1 + 1 < w1.heap.size := (by omega))))
      go_returns
      exact ⟨rfl, hB1⟩
    by_cases k2 : 131072 < r
    case pos =>
      clear hr
      go_enter Tryd.func38, Tryd.ntmps38
      go_wp2_with (first | (go_at_call 53; refine (checkAll_four p0 p1 v0 v1 q0 q1 u0 u1 _ _ _ (by go_size) (by go_cell) (by go_cell) (by go_cell) (by go_cell) (by go_cell) (by go_cell) (by go_cell) (by go_cell)).mono ?_; rintro e w1 ⟨rfl, hb1⟩; obtain ⟨hB1, hz1, hc1, hf1⟩ := grow4 (w := w) (by go_grown) hb1; (try simp only [World.size_alloc, World.size_setCell, World.size_drew] at hz1); (try have hy1 := Nat.lt_of_succ_le hz1); (try have hx1 := Nat.lt_of_succ_lt hy1); (try have hw1 := Nat.lt_of_succ_lt hx1); (try have hv1 := Nat.lt_of_succ_lt hw1); (try have ha1 : w.heap.size < w1.heap.size := (by omega)); (try have hi1 : w.heap.size + 1 < w1.heap.size := (by omega)); (try have hj1 : w.heap.size + 1 + 1 < w1.heap.size := (by omega)); (try have hk1 : w.heap.size + 1 + 1 + 1 < w1.heap.size := (by omega)); (try have hl1 : w.heap.size + 1 + 1 + 1 + 1 < w1.heap.size := (by omega))))
      go_returns
      exact ⟨rfl, hB1⟩
    by_cases k3 : n < 1
    case pos =>
      clear hr
      go_enter Tryd.func38, Tryd.ntmps38
      go_wp2_with (first | (go_at_call 53; refine (checkAll_four p0 p1 v0 v1 q0 q1 u0 u1 _ _ _ (by go_size) (by go_cell) (by go_cell) (by go_cell) (by go_cell) (by go_cell) (by go_cell) (by go_cell) (by go_cell)).mono ?_; rintro e w1 ⟨rfl, hb1⟩; obtain ⟨hB1, hz1, hc1, hf1⟩ := grow4 (w := w) (by go_grown) hb1; (try simp only [World.size_alloc, World.size_setCell, World.size_drew] at hz1); (try have hy1 := Nat.lt_of_succ_le hz1); (try have hx1 := Nat.lt_of_succ_lt hy1); (try have hw1 := Nat.lt_of_succ_lt hx1); (try have hv1 := Nat.lt_of_succ_lt hw1); (try have ha1 : w.heap.size < w1.heap.size := (by omega)); (try have hi1 : w.heap.size + 1 < w1.heap.size := (by omega)); (try have hj1 : w.heap.size + 1 + 1 < w1.heap.size := (by omega)); (try have hk1 : w.heap.size + 1 + 1 + 1 < w1.heap.size := (by omega)); (try have hl1 : w.heap.size + 1 + 1 + 1 + 1 < w1.heap.size := (by omega))))
      go_returns
      exact ⟨rfl, hB1⟩
    · have k4 : 1024 < n := by omega
      clear hr
      go_enter Tryd.func38, Tryd.ntmps38
      go_wp2_with (first | (go_at_call 53; refine (checkAll_four p0 p1 v0 v1 q0 q1 u0 u1 _ _ _ (by go_size) (by go_cell) (by go_cell) (by go_cell) (by go_cell) (by go_cell) (by go_cell) (by go_cell) (by go_cell)).mono ?_; rintro e w1 ⟨rfl, hb1⟩; obtain ⟨hB1, hz1, hc1, hf1⟩ := grow4 (w := w) (by go_grown) hb1; (try simp only [World.size_alloc, World.size_setCell, World.size_drew] at hz1); (try have hy1 := Nat.lt_of_succ_le hz1); (try have hx1 := Nat.lt_of_succ_lt hy1); (try have hw1 := Nat.lt_of_succ_lt hx1); (try have hv1 := Nat.lt_of_succ_lt hw1); (try have ha1 : w.heap.size < w1.heap.size := (by omega)); (try have hi1 : w.heap.size + 1 < w1.heap.size := (by omega)); (try have hj1 : w.heap.size + 1 + 1 < w1.heap.size := (by omega)); (try have hk1 : w.heap.size + 1 + 1 + 1 < w1.heap.size := (by omega)); (try have hl1 : w.heap.size + 1 + 1 + 1 + 1 < w1.heap.size := (by omega))))
      go_returns
      exact ⟨rfl, hB1⟩
  · exact absurd ⟨h1, h2, h3, h4⟩ hn

set_option maxHeartbeats 2000000 in
theorem First_ok (p0 p1 v0 v1 q0 q1 u0 u1 r n : Int) (m : Nat) (w : World) (h1 : M.In p0 p1) (h2 : M.In v0 v1) (h3 : M.In q0 q1) (h4 : M.In u0 u1) (r1 : 0 ≤ r) (r2 : r ≤ 131072) (n1 : 1 ≤ n) (n2 : n ≤ 1024) (hm : M.FirstAt (q0 - p0) (u0 - v0) (q1 - p1) (u1 - v1) r n m) :
    Calls Tryd.prog 38 #[.agg #[.int .i64 p0, .int .i64 p1], .agg #[.int .i64 v0, .int .i64 v1], .agg #[.int .i64 q0, .int .i64 q1], .agg #[.int .i64 u0, .int .i64 u1], .int .i64 r, .int .i64 n] w fun e w' => e = .returned (.tuple #[.int .i64 (M.firstK m n), .int .i64 (M.firstE m n)]) ∧ Below w.heap.size w w' := by
  rcases chk4 (x := p0) (y := p1) (u := v0) (v := v1) (p := q0) (q := q1) (r := u0) (s := u1) with ⟨hc, _⟩ | ⟨_, hn⟩
  · obtain ⟨⟨a1, a2⟩, ⟨a3, a4⟩⟩ := h1
    obtain ⟨⟨b1, b2⟩, ⟨b3, b4⟩⟩ := h2
    obtain ⟨⟨c1, c2⟩, ⟨c3, c4⟩⟩ := h3
    obtain ⟨⟨d1, d2⟩, ⟨d3, d4⟩⟩ := h4
    have hm1 := hm.1
    have HM := Lib.hid hm
    clear hm
    obtain ⟨s1, s2⟩ := M.mul_bd n r 1024 131072 (by omega) n2 (by omega) r2
    have s3 := Int.mul_nonneg (show 0 ≤ n by omega) r1
    go_enter Tryd.func38, Tryd.ntmps38
    go_wp2_with (first | (go_at_call 53; refine (checkAll_four p0 p1 v0 v1 q0 q1 u0 u1 _ _ _ (by go_size) (by go_cell) (by go_cell) (by go_cell) (by go_cell) (by go_cell) (by go_cell) (by go_cell) (by go_cell)).mono ?_; rintro e w1 ⟨rfl, hb1⟩; obtain ⟨hB1, hz1, hc1, hf1⟩ := grow4 (w := w) (by go_grown) hb1; (try simp only [World.size_alloc, World.size_setCell, World.size_drew] at hz1); (try have hy1 := Nat.lt_of_succ_le hz1); (try have hx1 := Nat.lt_of_succ_lt hy1); (try have hw1 := Nat.lt_of_succ_lt hx1); (try have hv1 := Nat.lt_of_succ_lt hw1); (try have ha1 : w.heap.size < w1.heap.size := (by omega)); (try have hi1 : w.heap.size + 1 < w1.heap.size := (by omega)); (try have hj1 : w.heap.size + 1 + 1 < w1.heap.size := (by omega)); (try have hk1 : w.heap.size + 1 + 1 + 1 < w1.heap.size := (by omega)); (try have hl1 : w.heap.size + 1 + 1 + 1 + 1 < w1.heap.size := (by omega))))
    refine R.region_grow [.val (.agg #[.int .i64 p0, .int .i64 p1]), .val (.agg #[.int .i64 q0, .int .i64 q1]), .val (.agg #[.int .i64 (q0 - p0), .int .i64 (q1 - p1)]), .val (.agg #[.int .i64 v0, .int .i64 v1]), .val (.agg #[.int .i64 u0, .int .i64 u1]), .val (.agg #[.int .i64 (u0 - v0), .int .i64 (u1 - v1)]), .new 34 #[.int .i64 0, .int .i64 0], .new 34 #[.int .i64 0, .int .i64 0], .put 6 #[.int .i64 (q0 - p0), .int .i64 (q1 - p1)], .put 7 #[.int .i64 (u0 - v0), .int .i64 (u1 - v1)]] (by kernel_rfl) (by kernel_rfl) (by kernel_rfl) (by kernel_rfl) ?_ ?_
    · refine ⟨?_, ?_, ?_, ?_, ?_, ?_, ?_, ?_, ?_, ?_, trivial⟩
      · intro act wx KK E hk hK
        have e6 := E 6 _ rfl
        obtain ⟨hc, hf⟩ := hk.cells rfl
        try simp only [World.size_drew] at hc hf
        go_simp
        exact hK _ (Below.refl _ _)
      · intro act wx KK E hk hK
        have e8 := E 8 _ rfl
        obtain ⟨hc, hf⟩ := hk.cells rfl
        try simp only [World.size_drew] at hc hf
        go_simp
        exact hK _ (Below.refl _ _)
      · intro act wx KK E hk hK
        have e41 := E 41 _ rfl
        have e42 := E 42 _ rfl
        go_simp
        refine (way_any _ _ _ _ _ (by omega) (by omega) (by omega) (by omega) (by omega) (by omega) (by omega) (by omega)).mono ?_
        rintro e w' ⟨rfl, rfl⟩
        exact hK _ (by go_grown)
      · intro act wx KK E hk hK
        have e7 := E 7 _ rfl
        obtain ⟨hc, hf⟩ := hk.cells rfl
        try simp only [World.size_drew] at hc hf
        go_simp
        exact hK _ (Below.refl _ _)
      · intro act wx KK E hk hK
        have e9 := E 9 _ rfl
        obtain ⟨hc, hf⟩ := hk.cells rfl
        try simp only [World.size_drew] at hc hf
        go_simp
        exact hK _ (Below.refl _ _)
      · intro act wx KK E hk hK
        have e44 := E 44 _ rfl
        have e45 := E 45 _ rfl
        go_simp
        refine (way_any _ _ _ _ _ (by omega) (by omega) (by omega) (by omega) (by omega) (by omega) (by omega) (by omega)).mono ?_
        rintro e w' ⟨rfl, rfl⟩
        exact hK _ (by go_grown)
      · intro act wx KK hK
        go_simp
        exact hK
      · intro act wx KK hK
        go_simp
        exact hK
      · intro TT zz hT act wx KK bb cs0 dd E hk hd hb hh hsz hK
        cases hT
        obtain ⟨c0, c1, rfl⟩ := R.of_size2 hsz
        cases hd
        have e43 := E 43 _ rfl
        have kc0 := R.cell_blk hh 0
        have kf0 := R.free_blk hh 0
        have kc1 := R.cell_blk hh 1
        have kf1 := R.free_blk hh 1
        have hK' := hK _ (R.rewrites2 hh)
        clear hK
        go_simp
        exact hK'
      · intro TT zz hT act wx KK bb cs0 dd E hk hd hb hh hsz hK
        cases hT
        obtain ⟨c0, c1, rfl⟩ := R.of_size2 hsz
        cases hd
        have e46 := E 46 _ rfl
        have kc0 := R.cell_blk hh 0
        have kf0 := R.free_blk hh 0
        have kc1 := R.cell_blk hh 1
        have kf1 := R.free_blk hh 1
        have hK' := hK _ (R.rewrites2 hh)
        clear hK
        go_simp
        exact hK'
    intro β2 w2 F
    simp only [R.finAct, R.Item.value, Act.put, List.getElem?_toArray, List.getElem?_cons_zero, List.getElem?_cons_succ, List.size_toArray, List.length_cons, List.length_nil, Nat.reduceAdd, List.setIfInBounds_toArray, List.set_cons_zero, List.set_cons_succ]
    have hB2 := stepB (w := w) (by go_grown) (F.kept.below rfl)
    obtain ⟨hc2, hf2⟩ := F.kept.cells rfl
    try simp only [World.size_drew] at hc2 hf2
    have hz2 := F.kept.size
    try simp only [World.size_alloc, World.size_setCell, World.size_drew] at hz2
    try have ha2 : w.heap.size < w2.heap.size := (by omega)
    try have hi2 : w.heap.size + 1 < w2.heap.size := (by omega)
    try have hj2 : w.heap.size + 1 + 1 < w2.heap.size := (by omega)
    try have hk2 : w.heap.size + 1 + 1 + 1 < w2.heap.size := (by omega)
    try have hl2 : w.heap.size + 1 + 1 + 1 + 1 < w2.heap.size := (by omega)
    obtain ⟨n6a2, n6b2, _⟩ := F.news 6 _ _ rfl
    obtain ⟨n7a2, n7b2, _⟩ := F.news 7 _ _ rfl
    have p82 := F.puts 8 6 _ _ _ rfl rfl
    have q8_02 := R.cell_blk p82 0
    have f8_02 := R.free_blk p82 0
    have q8_12 := R.cell_blk p82 1
    have f8_12 := R.free_blk p82 1
    replace p82 := Lib.hid p82
    have p92 := F.puts 9 7 _ _ _ rfl rfl
    have q9_02 := R.cell_blk p92 0
    have f9_02 := R.free_blk p92 0
    have q9_12 := R.cell_blk p92 1
    have f9_12 := R.free_blk p92 1
    replace p92 := Lib.hid p92
    have d6_72 := F.apart 6 7 _ _ _ _ rfl rfl (by omega)
    clear F
    go_wp2
    have P8 := p82
    have P9 := p92
    generalize β2 6 = B6 at *
    generalize β2 7 = B7 at *
    clear p82 p92 q8_02 q8_12 q9_02 q9_12 f8_02 f8_12 f9_02 f9_12
    go_loopw [49] (fun i wr => ∃ k : Nat, k ≤ m ∧ i = .int .i64 k ∧ Below w.heap.size w wr ∧ wr.heap[B6]? = some (.cells #[.int .i64 (q0 - p0), .int .i64 (q1 - p1)] 34 (0, 0)) ∧ wr.heap[B7]? = some (.cells #[.int .i64 (u0 - v0), .int .i64 (u1 - v1)] 34 (0, 0))) (fun i _ => m + 1 - (intOf i).toNat)
    case atStart => exact ⟨0, Nat.zero_le _, rfl, hB2, P8.out, P9.out⟩
    case round =>
      obtain ⟨k, hk, rfl, hB, i6, i7⟩ := hrel
      have c0 := R.cell_blk i6 0
      have c1 := R.cell_blk i6 1
      have c2 := R.cell_blk i7 0
      have c3 := R.cell_blk i7 1
      have s6 := R.heap_lt i6
      have s7 := R.heap_lt i7
      have I6 := Lib.hid i6
      have I7 := Lib.hid i7
      clear i6 i7
      have hzr := hB.size
      by_cases hlt : (k : Int) ≤ n
      · obtain ⟨x1, x2, x3, x4⟩ := M.along_bd n (q0 - p0) k (u0 - v0) (by omega) n2 hlt (by omega) (by omega) (by omega) (by omega)
        obtain ⟨y1, y2, y3, y4⟩ := M.along_bd n (q1 - p1) k (u1 - v1) (by omega) n2 hlt (by omega) (by omega) (by omega) (by omega)
        by_cases hkm : k = m
        · subst hkm
          have FK := Lib.hid (show M.firstK k n = k ∧ M.firstE k n = 0 from ⟨if_pos hlt, if_pos hlt⟩)
          have MT := Lib.hid (HM.out.2.2 hlt)
          go_wp2_with (first | (go_at_call 68; refine (within_any (n * (q0 - p0) + k * (u0 - v0)) (n * (q1 - p1) + k * (u1 - v1)) (n * r) true _ s3 (by omega) MT.out).mono ?_; rintro e w3 ⟨rfl, hb3⟩; obtain ⟨hB3, hz3, hc3, hf3⟩ := grow4 (w := w) (by go_grown) hb3; (try simp only [World.size_alloc, World.size_setCell, World.size_drew] at hz3); (try have hy3 := Nat.lt_of_succ_le hz3); (try have hx3 := Nat.lt_of_succ_lt hy3); (try have hw3 := Nat.lt_of_succ_lt hx3); (try have hv3 := Nat.lt_of_succ_lt hw3); (try have ha3 : w.heap.size < w3.heap.size := (by omega)); (try have hi3 : w.heap.size + 1 < w3.heap.size := (by omega)); (try have hj3 : w.heap.size + 1 + 1 < w3.heap.size := (by omega)); (try have hk3 : w.heap.size + 1 + 1 + 1 < w3.heap.size := (by omega)); (try have hl3 : w.heap.size + 1 + 1 + 1 + 1 < w3.heap.size := (by omega))))
          go_returns
          exact ⟨by rw [FK.out.1, FK.out.2]; rfl, hB3⟩
        · have MF := Lib.hid (HM.out.2.1 k (by omega))
          go_wp2_with (first | (go_at_call 68; refine (within_any (n * (q0 - p0) + k * (u0 - v0)) (n * (q1 - p1) + k * (u1 - v1)) (n * r) false _ s3 (by omega) MF.out).mono ?_; rintro e w3 ⟨rfl, hb3⟩; obtain ⟨hB3, hz3, hc3, hf3⟩ := grow4 (w := w) (by go_grown) hb3; (try simp only [World.size_alloc, World.size_setCell, World.size_drew] at hz3); (try have hy3 := Nat.lt_of_succ_le hz3); (try have hx3 := Nat.lt_of_succ_lt hy3); (try have hw3 := Nat.lt_of_succ_lt hx3); (try have hv3 := Nat.lt_of_succ_lt hw3); (try have ha3 : w.heap.size < w3.heap.size := (by omega)); (try have hi3 : w.heap.size + 1 < w3.heap.size := (by omega)); (try have hj3 : w.heap.size + 1 + 1 < w3.heap.size := (by omega)); (try have hk3 : w.heap.size + 1 + 1 + 1 < w3.heap.size := (by omega)); (try have hl3 : w.heap.size + 1 + 1 + 1 + 1 < w3.heap.size := (by omega))))
          exact ⟨⟨k + 1, by omega, by go_num, hB3, (hb3.block _ s6).trans I6.out, (hb3.block _ s7).trans I7.out⟩, by simp [intOf]; omega⟩
      · have hkm : k = m := by omega
        subst hkm
        have FK := Lib.hid (show M.firstK k n = 0 ∧ M.firstE k n = 5 from ⟨if_neg hlt, if_neg hlt⟩)
        go_wp2
        go_returns
        exact ⟨by rw [FK.out.1, FK.out.2]; rfl, hB⟩
  · exact absurd ⟨h1, h2, h3, h4⟩ hn
end Go.Proofs.YtfcjdmpfoogljaaDoor
