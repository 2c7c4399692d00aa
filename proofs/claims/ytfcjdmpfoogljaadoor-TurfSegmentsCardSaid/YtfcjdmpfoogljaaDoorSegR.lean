/-
  Contracts of the reference of layer 1: places and segments.
-/
import Derived.Test.YtfcjdmpfoogljaaDoorSegB
import Derived.Test.YtfcjdmpfoogljaaDoorRefB
set_option linter.unusedVariables false
set_option linter.unusedSimpArgs false
namespace Go.Proofs.YtfcjdmpfoogljaaDoor
open Go.ChangeShapes Go.WideShapes Go.ChangeAt Go.RowKit

/-- Is a place valid? -/
def inB (x y : Int) : Bool := decide ((-4194304 ≤ x ∧ x ≤ 4194304) ∧ (-4194304 ≤ y ∧ y ≤ 4194304))
theorem inB_yes {x y : Int} (h : M.In x y) : inB x y = true := by unfold inB; exact decide_eq_true h
theorem inB_no {x y : Int} (h : ¬ M.In x y) : inB x y = false := by unfold inB; exact decide_eq_false h
theorem valid_any (x y : Int) (w : World) :
    Calls Tryd.prog 55 #[.agg #[.int .i64 x, .int .i64 y]] w fun e w' => e = .returned (.bool (inB x y)) ∧ Below w.heap.size w w' := by
  by_cases h1 : -4194304 ≤ x ∧ x ≤ 4194304
  · have k1 := M.among_yes h1.1 h1.2
    by_cases h2 : -4194304 ≤ y ∧ y ≤ 4194304
    · have k2 := M.among_yes h2.1 h2.2
      rw [inB_yes ⟨h1, h2⟩]
      clear h1 h2
      go_enter Tryd.func55, Tryd.ntmps55
      go_wp2_with (go_at_call 46; refine (among_any _ _ _ _).mono ?_; rintro e w' ⟨rfl, rfl⟩)
      go_returns
      exact ⟨rfl, by go_grown⟩
    · have k2 : M.among y (-4194304) 4194304 = false := M.among_no (by omega)
      rw [inB_no (fun h => h2 h.2)]
      clear h1 h2
      go_enter Tryd.func55, Tryd.ntmps55
      go_wp2_with (go_at_call 46; refine (among_any _ _ _ _).mono ?_; rintro e w' ⟨rfl, rfl⟩)
      go_returns
      exact ⟨rfl, by go_grown⟩
  · have k1 : M.among x (-4194304) 4194304 = false := M.among_no (by omega)
    rw [inB_no (fun h => h1 h.1)]
    clear h1
    go_enter Tryd.func55, Tryd.ntmps55
    go_wp2_with (go_at_call 46; refine (among_any _ _ _ _).mono ?_; rintro e w' ⟨rfl, rfl⟩)
    go_returns
    exact ⟨rfl, by go_grown⟩

theorem rCheck_any (x y : Int) (w : World) :
    Calls Tryd.prog 23 #[.agg #[.int .i64 x, .int .i64 y]] w fun e w' => e = .returned (.int .i64 (M.chk [(x, y)])) ∧ Below w.heap.size w w' := by
  rcases M.chk_cases [(x, y)] with ⟨h, k⟩ | ⟨h, z, hz, hn⟩
  · have k1 := inB_yes (k (x, y) (by simp))
    rw [h]
    clear h k
    go_enter Tryd.func23, Tryd.ntmps23
    go_wp2_with (go_at_call 55; refine (valid_any _ _ _).mono ?_; rintro e w1 ⟨rfl, hb1⟩; obtain ⟨hB1, hz1, hc1, hf1⟩ := grow4 (w := w) (by go_grown) hb1; (try simp only [World.size_alloc, World.size_setCell, World.size_drew] at hz1); (try have hy1 := Nat.lt_of_succ_le hz1); (try have hx1 := Nat.lt_of_succ_lt hy1); (try have hw1 := Nat.lt_of_succ_lt hx1); (try have hv1 := Nat.lt_of_succ_lt hw1); (try have ha1 : w.heap.size < w1.heap.size := (by omega)); (try have hi1 : w.heap.size + 1 < w1.heap.size := (by omega)); (try have hj1 : w.heap.size + 1 + 1 < w1.heap.size := (by omega)); (try have hk1 : w.heap.size + 1 + 1 + 1 < w1.heap.size := (by omega)); (try have hl1 : w.heap.size + 1 + 1 + 1 + 1 < w1.heap.size := (by omega)))
    go_returns
    exact ⟨rfl, hB1⟩
  · simp at hz
    subst hz
    have k1 := inB_no hn
    rw [h]
    clear h hn
    go_enter Tryd.func23, Tryd.ntmps23
    go_wp2_with (go_at_call 55; refine (valid_any _ _ _).mono ?_; rintro e w1 ⟨rfl, hb1⟩; obtain ⟨hB1, hz1, hc1, hf1⟩ := grow4 (w := w) (by go_grown) hb1; (try simp only [World.size_alloc, World.size_setCell, World.size_drew] at hz1); (try have hy1 := Nat.lt_of_succ_le hz1); (try have hx1 := Nat.lt_of_succ_lt hy1); (try have hw1 := Nat.lt_of_succ_lt hx1); (try have hv1 := Nat.lt_of_succ_lt hw1); (try have ha1 : w.heap.size < w1.heap.size := (by omega)); (try have hi1 : w.heap.size + 1 < w1.heap.size := (by omega)); (try have hj1 : w.heap.size + 1 + 1 < w1.heap.size := (by omega)); (try have hk1 : w.heap.size + 1 + 1 + 1 < w1.heap.size := (by omega)); (try have hl1 : w.heap.size + 1 + 1 + 1 + 1 < w1.heap.size := (by omega)))
    go_returns
    exact ⟨rfl, hB1⟩

theorem chkDisc_of {x y r : Int} (h1 : M.In x y) (h2 : 1 ≤ r) (h3 : r ≤ 65536) : chkDisc x y r = 0 := by
  unfold chkDisc
  rw [if_neg (by omega)]
  rcases M.chk_cases [(x, y)] with ⟨h, k⟩ | ⟨h, z, hz, hn⟩
  · exact h
  · simp at hz
    subst hz
    exact absurd h1 hn
theorem rCheckDisc_any (x y r : Int) (w : World) :
    Calls Tryd.prog 25 #[.agg #[.int .i64 x, .int .i64 y, .int .i64 r]] w fun e w' => e = .returned (.int .i64 (chkDisc x y r)) ∧ Below w.heap.size w w' := by
  by_cases h1 : M.In x y
  · have k1 := inB_yes h1
    by_cases h2 : 1 ≤ r ∧ r ≤ 65536
    · rw [chkDisc_of h1 h2.1 h2.2]
      have k2 := M.among_yes h2.1 h2.2
      clear h1 h2
      go_enter Tryd.func25, Tryd.ntmps25
      go_wp2_with (first | (go_at_call 55; refine (valid_any _ _ _).mono ?_; rintro e w1 ⟨rfl, hb1⟩; obtain ⟨hB1, hz1, hc1, hf1⟩ := grow4 (w := w) (by go_grown) hb1; (try simp only [World.size_alloc, World.size_setCell, World.size_drew] at hz1); (try have hy1 := Nat.lt_of_succ_le hz1); (try have hx1 := Nat.lt_of_succ_lt hy1); (try have hw1 := Nat.lt_of_succ_lt hx1); (try have hv1 := Nat.lt_of_succ_lt hw1); (try have ha1 : w.heap.size < w1.heap.size := (by omega)); (try have hi1 : w.heap.size + 1 < w1.heap.size := (by omega)); (try have hj1 : w.heap.size + 1 + 1 < w1.heap.size := (by omega)); (try have hk1 : w.heap.size + 1 + 1 + 1 < w1.heap.size := (by omega)); (try have hl1 : w.heap.size + 1 + 1 + 1 + 1 < w1.heap.size := (by omega))) | (go_at_call 46; refine (among_any _ _ _ _).mono ?_; rintro e w' ⟨rfl, rfl⟩))
      go_returns
      exact ⟨rfl, hB1⟩
    · rw [chkDisc_two (fun h => h2 (chkDisc_in h).2)]
      have k2 : M.among r 1 65536 = false := M.among_no (by omega)
      clear h1 h2
      go_enter Tryd.func25, Tryd.ntmps25
      go_wp2_with (first | (go_at_call 55; refine (valid_any _ _ _).mono ?_; rintro e w1 ⟨rfl, hb1⟩; obtain ⟨hB1, hz1, hc1, hf1⟩ := grow4 (w := w) (by go_grown) hb1; (try simp only [World.size_alloc, World.size_setCell, World.size_drew] at hz1); (try have hy1 := Nat.lt_of_succ_le hz1); (try have hx1 := Nat.lt_of_succ_lt hy1); (try have hw1 := Nat.lt_of_succ_lt hx1); (try have hv1 := Nat.lt_of_succ_lt hw1); (try have ha1 : w.heap.size < w1.heap.size := (by omega)); (try have hi1 : w.heap.size + 1 < w1.heap.size := (by omega)); (try have hj1 : w.heap.size + 1 + 1 < w1.heap.size := (by omega)); (try have hk1 : w.heap.size + 1 + 1 + 1 < w1.heap.size := (by omega)); (try have hl1 : w.heap.size + 1 + 1 + 1 + 1 < w1.heap.size := (by omega))) | (go_at_call 46; refine (among_any _ _ _ _).mono ?_; rintro e w' ⟨rfl, rfl⟩))
      go_returns
      exact ⟨rfl, hB1⟩
  · rw [chkDisc_two (fun h => h1 (chkDisc_in h).1)]
    have k1 := inB_no h1
    clear h1
    go_enter Tryd.func25, Tryd.ntmps25
    go_wp2_with (first | (go_at_call 55; refine (valid_any _ _ _).mono ?_; rintro e w1 ⟨rfl, hb1⟩; obtain ⟨hB1, hz1, hc1, hf1⟩ := grow4 (w := w) (by go_grown) hb1; (try simp only [World.size_alloc, World.size_setCell, World.size_drew] at hz1); (try have hy1 := Nat.lt_of_succ_le hz1); (try have hx1 := Nat.lt_of_succ_lt hy1); (try have hw1 := Nat.lt_of_succ_lt hx1); (try have hv1 := Nat.lt_of_succ_lt hw1); (try have ha1 : w.heap.size < w1.heap.size := (by omega)); (try have hi1 : w.heap.size + 1 < w1.heap.size := (by omega)); (try have hj1 : w.heap.size + 1 + 1 < w1.heap.size := (by omega)); (try have hk1 : w.heap.size + 1 + 1 + 1 < w1.heap.size := (by omega)); (try have hl1 : w.heap.size + 1 + 1 + 1 + 1 < w1.heap.size := (by omega))) | (go_at_call 46; refine (among_any _ _ _ _).mono ?_; rintro e w' ⟨rfl, rfl⟩))
    go_returns
    exact ⟨rfl, hB1⟩

theorem sign_any (n : Int) (w : World) :
    Calls Tryd.prog 59 #[.int .i64 n] w fun e w' => e = .returned (.int .i64 (M.cmp n 0)) ∧ w = w' := by
  rcases Int.lt_trichotomy n 0 with h | h | h
  · rw [M.cmp_lt h]
    go_enter Tryd.func59, Tryd.ntmps59
    go_wp2
    go_returns
    exact ⟨rfl, rfl⟩
  · subst h
    rw [M.cmp_eq]
    go_enter Tryd.func59, Tryd.ntmps59
    go_wp2
    go_returns
    exact ⟨rfl, rfl⟩
  · rw [M.cmp_gt h]
    go_enter Tryd.func59, Tryd.ntmps59
    go_wp2
    go_returns
    exact ⟨rfl, rfl⟩
theorem cmp_sub (a b : Int) : M.cmp (a - b) 0 = M.cmp a b := by
  rcases Int.lt_trichotomy a b with h | h | h
  · rw [M.cmp_lt h, M.cmp_lt (by omega)]
  · rw [h, M.cmp_eq, show b - b = 0 by omega, M.cmp_eq]
  · rw [M.cmp_gt h, M.cmp_gt (by omega)]

theorem far_any (x y u v : Int) (w : World) (h1 : M.In x y) (h2 : M.In u v) :
    Calls Tryd.prog 56 #[.agg #[.int .i64 x, .int .i64 y], .agg #[.int .i64 u, .int .i64 v]] w fun e w' => e = .returned (.int .i64 (M.sq x y u v)) ∧ Below w.heap.size w w' := by
  have e : M.sq x y u v = (x - u) * (x - u) + (y - v) * (y - v) := by unfold M.sq; grind
  rw [e]
  clear e
  unfold M.In at h1 h2
  obtain ⟨b1, b2⟩ := M.mul_bd (x - u) (x - u) 33554432 33554432 (by omega) (by omega) (by omega) (by omega)
  obtain ⟨b3, b4⟩ := M.mul_bd (y - v) (y - v) 33554432 33554432 (by omega) (by omega) (by omega) (by omega)
  obtain ⟨⟨a1, a2⟩, ⟨a3, a4⟩⟩ := h1
  obtain ⟨⟨a5, a6⟩, ⟨a7, a8⟩⟩ := h2
  go_enter Tryd.func56, Tryd.ntmps56
  go_wp2
  go_returns
  exact ⟨rfl, by go_grown⟩
theorem turn_any (x y u v p q : Int) (w : World) (h1 : M.In x y) (h2 : M.In u v) (h3 : M.In p q) :
    Calls Tryd.prog 60 #[.agg #[.int .i64 x, .int .i64 y], .agg #[.int .i64 u, .int .i64 v], .agg #[.int .i64 p, .int .i64 q]] w fun e w' => e = .returned (.int .i64 (M.left x y u v p q)) ∧ Below w.heap.size w w' := by
  unfold M.In at h1 h2 h3
  unfold M.left
  obtain ⟨b1, b2⟩ := M.mul_bd (u - x) (q - y) 33554432 33554432 (by omega) (by omega) (by omega) (by omega)
  obtain ⟨b3, b4⟩ := M.mul_bd (v - y) (p - x) 33554432 33554432 (by omega) (by omega) (by omega) (by omega)
  obtain ⟨⟨a1, a2⟩, ⟨a3, a4⟩⟩ := h1
  obtain ⟨⟨a5, a6⟩, ⟨a7, a8⟩⟩ := h2
  obtain ⟨⟨a9, a10⟩, ⟨a11, a12⟩⟩ := h3
  go_enter Tryd.func60, Tryd.ntmps60
  go_wp2
  go_returns
  exact ⟨rfl, by go_grown⟩

theorem max_sq (t : Int) : max t (-t) * max t (-t) = t * t := by
  rcases Int.le_total 0 t with h | h
  · rw [show max t (-t) = t by omega]
  · rw [show max t (-t) = -t by omega]; grind
set_option maxHeartbeats 2000000 in
theorem how_any (x y u v p q r : Int) (w : World) (h1 : M.In x y) (h2 : M.In u v) (h3 : M.In p q) (r1 : 0 ≤ r) (r2 : r ≤ 8388608) :
    Calls Tryd.prog 62 #[.agg #[.int .i64 x, .int .i64 y], .agg #[.int .i64 u, .int .i64 v], .agg #[.int .i64 p, .int .i64 q], .int .i64 r] w fun e w' => e = .returned (.int .i64 (M.liesV x y u v p q r)) ∧ Below w.heap.size w w' := by
  obtain ⟨s1, s2⟩ := M.sq_bd h1 h2
  obtain ⟨s3, s4⟩ := M.sq_bd h1 h3
  obtain ⟨s5, s6⟩ := M.sq_bd h2 h3
  obtain ⟨l1, l2⟩ := M.left_bd h1 h2 h3
  obtain ⟨m1, m2⟩ := M.mul_range r r 8388608 8388608 (by omega) (by omega) (by omega) (by omega)
  have H1 := Lib.hid h1
  have H2 := Lib.hid h2
  have H3 := Lib.hid h3
  unfold M.In at h1 h2 h3
  obtain ⟨b1, b2⟩ := M.mul_bd (p - x) (u - x) 33554432 33554432 (by omega) (by omega) (by omega) (by omega)
  obtain ⟨b3, b4⟩ := M.mul_bd (q - y) (v - y) 33554432 33554432 (by omega) (by omega) (by omega) (by omega)
  obtain ⟨⟨a1, a2⟩, ⟨a3, a4⟩⟩ := h1
  obtain ⟨⟨a5, a6⟩, ⟨a7, a8⟩⟩ := h2
  obtain ⟨⟨a9, a10⟩, ⟨a11, a12⟩⟩ := h3
  unfold M.liesV
  have e : M.ahead x y u v p q = (p - x) * (u - x) + (q - y) * (v - y) := by unfold M.ahead; grind
  rw [e]
  clear e
  by_cases c1 : (p - x) * (u - x) + (q - y) * (v - y) ≤ 0
  · rw [if_pos c1, ← cmp_sub]
    go_enter Tryd.func62, Tryd.ntmps62
    go_wp2_with (first | (go_at_call 56; refine (far_any x y p q _ H1.out H3.out).mono ?_; rintro e w2 ⟨rfl, hb2⟩; obtain ⟨hB2, hz2, hc2, hf2⟩ := grow4 (w := w) (by go_grown) hb2; (try simp only [World.size_alloc, World.size_setCell, World.size_drew] at hz2); (try have hy2 := Nat.lt_of_succ_le hz2); (try have hx2 := Nat.lt_of_succ_lt hy2); (try have hw2 := Nat.lt_of_succ_lt hx2); (try have hv2 := Nat.lt_of_succ_lt hw2); (try have ha2 : w.heap.size < w2.heap.size := (by omega)); (try have hi2 : w.heap.size + 1 < w2.heap.size := (by omega)); (try have hj2 : w.heap.size + 1 + 1 < w2.heap.size := (by omega)); (try have hk2 : w.heap.size + 1 + 1 + 1 < w2.heap.size := (by omega)); (try have hl2 : w.heap.size + 1 + 1 + 1 + 1 < w2.heap.size := (by omega))) | (go_at_call 59; refine (sign_any _ _).mono ?_; rintro e w' ⟨rfl, rfl⟩))
    go_returns
    exact ⟨rfl, hB2⟩
  rw [if_neg c1]
  by_cases c2 : M.sq x y u v ≤ (p - x) * (u - x) + (q - y) * (v - y)
  · rw [if_pos c2, ← cmp_sub]
    go_enter Tryd.func62, Tryd.ntmps62
    go_wp2_with fail
    refine (far_any x y u v _ H1.out H2.out).mono ?_
    rintro e w1 ⟨rfl, hb1⟩
    obtain ⟨hB1, hz1, hc1, hf1⟩ := grow4 (w := w) (by go_grown) hb1
    go_wp2_with fail
    refine (far_any u v p q _ H2.out H3.out).mono ?_
    rintro e w2 ⟨rfl, hb2⟩
    obtain ⟨hB2, hz2, hc2, hf2⟩ := grow4 (w := w) (by go_grown) hb2
    go_wp2_with (go_at_call 59; refine (sign_any _ _).mono ?_; rintro e w' ⟨rfl, rfl⟩)
    go_returns
    exact ⟨rfl, hB2⟩
  rw [if_neg c2, ← max_sq]
  go_enter Tryd.func62, Tryd.ntmps62
  go_wp2_with (first | (go_at_call 56; refine (far_any x y u v _ H1.out H2.out).mono ?_; rintro e w1 ⟨rfl, hb1⟩; obtain ⟨hB1, hz1, hc1, hf1⟩ := grow4 (w := w) (by go_grown) hb1; (try simp only [World.size_alloc, World.size_setCell, World.size_drew] at hz1); (try have hy1 := Nat.lt_of_succ_le hz1); (try have hx1 := Nat.lt_of_succ_lt hy1); (try have hw1 := Nat.lt_of_succ_lt hx1); (try have hv1 := Nat.lt_of_succ_lt hw1); (try have ha1 : w.heap.size < w1.heap.size := (by omega)); (try have hi1 : w.heap.size + 1 < w1.heap.size := (by omega)); (try have hj1 : w.heap.size + 1 + 1 < w1.heap.size := (by omega)); (try have hk1 : w.heap.size + 1 + 1 + 1 < w1.heap.size := (by omega)); (try have hl1 : w.heap.size + 1 + 1 + 1 + 1 < w1.heap.size := (by omega))) | (go_at_call 60; refine (turn_any x y u v p q _ H1.out H2.out H3.out).mono ?_; rintro e w2 ⟨rfl, hb2⟩; obtain ⟨hB2, hz2, hc2, hf2⟩ := grow4 (w := w) (by go_grown) hb2; (try simp only [World.size_alloc, World.size_setCell, World.size_drew] at hz2); (try have hy2 := Nat.lt_of_succ_le hz2); (try have hx2 := Nat.lt_of_succ_lt hy2); (try have hw2 := Nat.lt_of_succ_lt hx2); (try have hv2 := Nat.lt_of_succ_lt hw2); (try have ha2 : w.heap.size < w2.heap.size := (by omega)); (try have hi2 : w.heap.size + 1 < w2.heap.size := (by omega)); (try have hj2 : w.heap.size + 1 + 1 < w2.heap.size := (by omega)); (try have hk2 : w.heap.size + 1 + 1 + 1 < w2.heap.size := (by omega)); (try have hl2 : w.heap.size + 1 + 1 + 1 + 1 < w2.heap.size := (by omega))) | (go_at_call 52; refine (less_any _ _ _ _ _ (by omega) (by omega) (by omega) (by omega)).mono ?_; rintro e w3 ⟨rfl, hb3⟩; obtain ⟨hB3, hz3, hc3, hf3⟩ := grow4 (w := w) (by go_grown) hb3; (try simp only [World.size_alloc, World.size_setCell, World.size_drew] at hz3); (try have hy3 := Nat.lt_of_succ_le hz3); (try have hx3 := Nat.lt_of_succ_lt hy3); (try have hw3 := Nat.lt_of_succ_lt hx3); (try have hv3 := Nat.lt_of_succ_lt hw3); (try have ha3 : w.heap.size < w3.heap.size := (by omega)); (try have hi3 : w.heap.size + 1 < w3.heap.size := (by omega)); (try have hj3 : w.heap.size + 1 + 1 < w3.heap.size := (by omega)); (try have hk3 : w.heap.size + 1 + 1 + 1 < w3.heap.size := (by omega)); (try have hl3 : w.heap.size + 1 + 1 + 1 + 1 < w3.heap.size := (by omega))))
  go_returns
  exact ⟨rfl, hB3⟩
end Go.Proofs.YtfcjdmpfoogljaaDoor
