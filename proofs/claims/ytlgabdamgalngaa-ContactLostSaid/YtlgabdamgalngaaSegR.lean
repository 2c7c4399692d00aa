/-
  Contracts of the reference of layer 1: places and segments.
-/
import Derived.Test.YtlgabdamgalngaaSegB
import Derived.Test.YtlgabdamgalngaaRefB
set_option linter.unusedVariables false
set_option linter.unusedSimpArgs false
namespace Go.Proofs.Ytlgabdamgalngaa
open Go.ChangeShapes Go.WideShapes Go.ChangeAt Go.RowKit

/-- Is a place valid? -/
def inB (x y : Int) : Bool := decide ((-4194304 ≤ x ∧ x ≤ 4194304) ∧ (-4194304 ≤ y ∧ y ≤ 4194304))
theorem inB_yes {x y : Int} (h : M.In x y) : inB x y = true := by unfold inB; exact decide_eq_true h
theorem inB_no {x y : Int} (h : ¬ M.In x y) : inB x y = false := by unfold inB; exact decide_eq_false h
theorem valid_any (x y : Int) (w : World) :
    Calls Try.prog 45 #[.agg #[.int .i64 x, .int .i64 y]] w fun e w' => e = .returned (.bool (inB x y)) ∧ Below w.heap.size w w' := by
  by_cases h1 : -4194304 ≤ x ∧ x ≤ 4194304
  · have k1 := M.among_yes h1.1 h1.2
    by_cases h2 : -4194304 ≤ y ∧ y ≤ 4194304
    · have k2 := M.among_yes h2.1 h2.2
      rw [inB_yes ⟨h1, h2⟩]
      clear h1 h2
      go_enter Try.func45, Try.ntmps45
      go_wp2_with (go_at_call 82; refine (among_any _ _ _ _).mono ?_; rintro e w' ⟨rfl, rfl⟩)
      go_returns
      exact ⟨rfl, by go_grown⟩
    · have k2 : M.among y (-4194304) 4194304 = false := M.among_no (by omega)
      rw [inB_no (fun h => h2 h.2)]
      clear h1 h2
      go_enter Try.func45, Try.ntmps45
      go_wp2_with (go_at_call 82; refine (among_any _ _ _ _).mono ?_; rintro e w' ⟨rfl, rfl⟩)
      go_returns
      exact ⟨rfl, by go_grown⟩
  · have k1 : M.among x (-4194304) 4194304 = false := M.among_no (by omega)
    rw [inB_no (fun h => h1 h.1)]
    clear h1
    go_enter Try.func45, Try.ntmps45
    go_wp2_with (go_at_call 82; refine (among_any _ _ _ _).mono ?_; rintro e w' ⟨rfl, rfl⟩)
    go_returns
    exact ⟨rfl, by go_grown⟩

theorem chkDisc_of {x y r : Int} (h1 : M.In x y) (h2 : 1 ≤ r) (h3 : r ≤ 65536) : chkDisc x y r = 0 := by
  unfold chkDisc
  rw [if_neg (by omega)]
  rcases M.chk_cases [(x, y)] with ⟨h, k⟩ | ⟨h, z, hz, hn⟩
  · exact h
  · simp at hz
    subst hz
    exact absurd h1 hn
theorem rCheckDisc_any (x y r : Int) (w : World) :
    Calls Try.prog 69 #[.agg #[.int .i64 x, .int .i64 y, .int .i64 r]] w fun e w' => e = .returned (.int .i64 (chkDisc x y r)) ∧ Below w.heap.size w w' := by
  by_cases h1 : M.In x y
  · have k1 := inB_yes h1
    by_cases h2 : 1 ≤ r ∧ r ≤ 65536
    · rw [chkDisc_of h1 h2.1 h2.2]
      have k2 := M.among_yes h2.1 h2.2
      clear h1 h2
      go_enter Try.func69, Try.ntmps69
      go_wp2_with (first | (go_at_call 45; refine (valid_any _ _ _).mono ?_; rintro e w1 ⟨rfl, hb1⟩; obtain ⟨hB1, hz1, hc1, hf1⟩ := grow4 (w := w) (by go_grown) hb1; (try simp only [World.size_alloc, World.size_setCell, World.size_drew] at hz1); (try have hy1 := Nat.lt_of_succ_le hz1); (try have hx1 := Nat.lt_of_succ_lt hy1); (try have hw1 := Nat.lt_of_succ_lt hx1); (try have hv1 := Nat.lt_of_succ_lt hw1); (try have ha1 : w.heap.size < w1.heap.size := (by omega)); (try have hi1 : w.heap.size + 1 < w1.heap.size := (by omega)); (try have hj1 : w.heap.size + 1 + 1 < w1.heap.size := (by omega)); (try have hk1 : w.heap.size + 1 + 1 + 1 < w1.heap.size := (by omega)); (try have hl1 : w.heap.size + 1 + 1 + 1 + 1 < w1.heap.size := (by omega))) | (go_at_call 82; refine (among_any _ _ _ _).mono ?_; rintro e w' ⟨rfl, rfl⟩))
      go_returns
      exact ⟨rfl, hB1⟩
    · rw [chkDisc_two (fun h => h2 (chkDisc_in h).2)]
      have k2 : M.among r 1 65536 = false := M.among_no (by omega)
      clear h1 h2
      go_enter Try.func69, Try.ntmps69
      go_wp2_with (first | (go_at_call 45; refine (valid_any _ _ _).mono ?_; rintro e w1 ⟨rfl, hb1⟩; obtain ⟨hB1, hz1, hc1, hf1⟩ := grow4 (w := w) (by go_grown) hb1; (try simp only [World.size_alloc, World.size_setCell, World.size_drew] at hz1); (try have hy1 := Nat.lt_of_succ_le hz1); (try have hx1 := Nat.lt_of_succ_lt hy1); (try have hw1 := Nat.lt_of_succ_lt hx1); (try have hv1 := Nat.lt_of_succ_lt hw1); (try have ha1 : w.heap.size < w1.heap.size := (by omega)); (try have hi1 : w.heap.size + 1 < w1.heap.size := (by omega)); (try have hj1 : w.heap.size + 1 + 1 < w1.heap.size := (by omega)); (try have hk1 : w.heap.size + 1 + 1 + 1 < w1.heap.size := (by omega)); (try have hl1 : w.heap.size + 1 + 1 + 1 + 1 < w1.heap.size := (by omega))) | (go_at_call 82; refine (among_any _ _ _ _).mono ?_; rintro e w' ⟨rfl, rfl⟩))
      go_returns
      exact ⟨rfl, hB1⟩
  · rw [chkDisc_two (fun h => h1 (chkDisc_in h).1)]
    have k1 := inB_no h1
    clear h1
    go_enter Try.func69, Try.ntmps69
    go_wp2_with (first | (go_at_call 45; refine (valid_any _ _ _).mono ?_; rintro e w1 ⟨rfl, hb1⟩; obtain ⟨hB1, hz1, hc1, hf1⟩ := grow4 (w := w) (by go_grown) hb1; (try simp only [World.size_alloc, World.size_setCell, World.size_drew] at hz1); (try have hy1 := Nat.lt_of_succ_le hz1); (try have hx1 := Nat.lt_of_succ_lt hy1); (try have hw1 := Nat.lt_of_succ_lt hx1); (try have hv1 := Nat.lt_of_succ_lt hw1); (try have ha1 : w.heap.size < w1.heap.size := (by omega)); (try have hi1 : w.heap.size + 1 < w1.heap.size := (by omega)); (try have hj1 : w.heap.size + 1 + 1 < w1.heap.size := (by omega)); (try have hk1 : w.heap.size + 1 + 1 + 1 < w1.heap.size := (by omega)); (try have hl1 : w.heap.size + 1 + 1 + 1 + 1 < w1.heap.size := (by omega))) | (go_at_call 82; refine (among_any _ _ _ _).mono ?_; rintro e w' ⟨rfl, rfl⟩))
    go_returns
    exact ⟨rfl, hB1⟩

theorem cmp_sub (a b : Int) : M.cmp (a - b) 0 = M.cmp a b := by
  rcases Int.lt_trichotomy a b with h | h | h
  · rw [M.cmp_lt h, M.cmp_lt (by omega)]
  · rw [h, M.cmp_eq, show b - b = 0 by omega, M.cmp_eq]
  · rw [M.cmp_gt h, M.cmp_gt (by omega)]

theorem far_any (x y u v : Int) (w : World) (h1 : M.In x y) (h2 : M.In u v) :
    Calls Try.prog 76 #[.agg #[.int .i64 x, .int .i64 y], .agg #[.int .i64 u, .int .i64 v]] w fun e w' => e = .returned (.int .i64 (M.sq x y u v)) ∧ Below w.heap.size w w' := by
  have e : M.sq x y u v = (x - u) * (x - u) + (y - v) * (y - v) := by unfold M.sq; grind
  rw [e]
  clear e
  unfold M.In at h1 h2
  obtain ⟨b1, b2⟩ := M.mul_bd (x - u) (x - u) 33554432 33554432 (by omega) (by omega) (by omega) (by omega)
  obtain ⟨b3, b4⟩ := M.mul_bd (y - v) (y - v) 33554432 33554432 (by omega) (by omega) (by omega) (by omega)
  obtain ⟨⟨a1, a2⟩, ⟨a3, a4⟩⟩ := h1
  obtain ⟨⟨a5, a6⟩, ⟨a7, a8⟩⟩ := h2
  go_enter Try.func76, Try.ntmps76
  go_wp2
  go_returns
  exact ⟨rfl, by go_grown⟩
theorem max_sq (t : Int) : max t (-t) * max t (-t) = t * t := by
  rcases Int.le_total 0 t with h | h
  · rw [show max t (-t) = t by omega]
  · rw [show max t (-t) = -t by omega]; grind
end Go.Proofs.Ytlgabdamgalngaa
