/-
  Contracts of the reference of layer 1: numbers.
-/
import Derived.Test.YtlgabdamgalngaaA
import Derived.Test.YtlgabdamgalngaaGrow
import Derived.Test.YtlgabdamgalngaaWide
set_option linter.unusedVariables false
set_option linter.unusedSimpArgs false
namespace Go.Proofs.Ytlgabdamgalngaa
open Go.ChangeShapes Go.WideShapes Go.ChangeAt Go.RowKit

theorem among_any (x l h : Int) (w : World) :
    Calls Try.prog 82 #[.int .i64 x, .int .i64 l, .int .i64 h] w fun e w' => e = .returned (.bool (M.among x l h)) ∧ w = w' := by
  by_cases h1 : l ≤ x
  · by_cases h2 : x ≤ h
    · rw [M.among_yes h1 h2]
      go_enter Try.func82, Try.ntmps82
      go_wp2
      go_returns
      exact ⟨rfl, rfl⟩
    · rw [M.among_no (by omega)]
      go_enter Try.func82, Try.ntmps82
      go_wp2
      go_returns
      exact ⟨by first | rfl | (simp; omega), rfl⟩
  · rw [M.among_no (by omega)]
    go_enter Try.func82, Try.ntmps82
    go_wp2
    go_returns
    exact ⟨by first | rfl | (simp; omega), rfl⟩

set_option maxHeartbeats 1000000 in
theorem parted_any (n d : Int) (w : World) (h1 : -1152921504606846976 ≤ n) (h2 : n ≤ 1152921504606846976) (h3 : 1 ≤ d) (h4 : d ≤ 1152921504606846976) :
    Calls Try.prog 44 #[.int .i64 n, .int .i64 d] w fun e w' => e = .returned (.agg #[.int .i64 (M.whole n d), .int .i64 (M.rest n d)]) ∧ Below w.heap.size w w' := by
  obtain ⟨hq1, hq2⟩ := M.tdiv_bd n d (by omega) (-1152921504606846976) 1152921504606846976 (by omega) (by omega) h1 h2
  have hr := Int.tmod_lt_of_pos n (show 0 < d by omega)
  have hr2 : -d < n.tmod d := by
    have h1 := Int.tmod_lt_of_pos (-n) (show 0 < d by omega)
    rw [Int.neg_tmod] at h1
    omega
  have e := Int.mul_tdiv_add_tmod n d
  have e1 : n.tdiv d * d = n - n.tmod d := by rw [Int.mul_comm]; omega
  have e2 : (n.tdiv d + 1) * d = n - n.tmod d + d := by rw [Int.add_mul]; omega
  have e3 : (n.tdiv d - 1) * d = n - n.tmod d - d := by rw [Int.sub_mul]; omega
  by_cases c1 : d ≤ 2 * n.tmod d
  · obtain ⟨k1, k2⟩ := M.part_up n d (by omega) c1
    have k3 : n - (n - n.tmod d + d) = n.tmod d - d := by omega
    rw [← k1, ← k2]
    clear k1 k2 e
    go_enter Try.func44, Try.ntmps44
    go_wp2
    refine wp_loop_rounds 2 ?_
    repeat any_goals (rw [rounds_succ]; go_wp2)
    refine wp_loop_rounds 1 ?_
    repeat any_goals (rw [rounds_succ]; go_wp2)
    go_returns
    exact ⟨by first | rfl | rw [k3], by go_grown⟩
  by_cases c2 : 2 * n.tmod d < -d
  · obtain ⟨k1, k2⟩ := M.part_down n d (by omega) c2
    have k3 : n - (n - n.tmod d - d) = n.tmod d + d := by omega
    rw [← k1, ← k2]
    clear k1 k2 e
    go_enter Try.func44, Try.ntmps44
    go_wp2
    refine wp_loop_rounds 1 ?_
    repeat any_goals (rw [rounds_succ]; go_wp2)
    refine wp_loop_rounds 2 ?_
    repeat any_goals (rw [rounds_succ]; go_wp2)
    go_returns
    exact ⟨by first | rfl | rw [k3], by go_grown⟩
  · obtain ⟨k1, k2⟩ := M.part_mid n d (by omega) c1 c2
    have k3 : n - (n - n.tmod d) = n.tmod d := by omega
    rw [← k1, ← k2]
    clear k1 k2 e
    go_enter Try.func44, Try.ntmps44
    go_wp2
    refine wp_loop_rounds 1 ?_
    repeat any_goals (rw [rounds_succ]; go_wp2)
    refine wp_loop_rounds 1 ?_
    repeat any_goals (rw [rounds_succ]; go_wp2)
    go_returns
    exact ⟨by first | rfl | rw [k3], by go_grown⟩

set_option maxHeartbeats 1000000 in
theorem sqrt_any (n r : Int) (w : World) (h3 : 0 ≤ n) (h4 : n ≤ 4611686018427387904) (hr : M.IsRoot n r) :
    Calls Try.prog 87 #[.int .i64 n] w fun e w' => e = .returned (.int .i64 r) ∧ w = w' := by
  have HR := Lib.hid hr
  have hr0 := hr.1
  have hr1 : r ≤ 2147483648 := by
    have := M.sq_lt hr.1 (show r * r < 2147483649 * 2147483649 by have := hr.2.1; omega) (by omega)
    omega
  clear hr
  go_enter Try.func87, Try.ntmps87
  go_wp2
  go_loop [3, 4] (fun l h => ∃ a b : Int, l = .int .i64 a ∧ h = .int .i64 b ∧ 0 ≤ a ∧ a ≤ r ∧ r ≤ b ∧ b ≤ 2147483648) (fun l h => (intOf h - intOf l).toNat)
  case atStart => exact ⟨0, 2147483648, rfl, rfl, by omega, hr0, hr1, by omega⟩
  case round =>
    obtain ⟨a, b, rfl, rfl, a1, a2, a3, a4⟩ := hrel
    by_cases hlt : a < b
    · obtain ⟨m1, m2⟩ := M.mul_bd ((a + b + 1) / 2) ((a + b + 1) / 2) 2147483648 2147483648 (by omega) (by omega) (by omega) (by omega)
      by_cases hm : (a + b + 1) / 2 * ((a + b + 1) / 2) ≤ n
      · have hle : (a + b + 1) / 2 ≤ r := by
          have := M.sq_lt (a := (a + b + 1) / 2) (b := r + 1) (by omega) (by have := HR.out.2.2; omega) (by omega)
          omega
        go_wp2
        exact ⟨⟨(a + b + 1) / 2, b, rfl, rfl, by omega, hle, a3, a4⟩, by simp [intOf]; omega⟩
      · have hle : r ≤ (a + b + 1) / 2 - 1 := by
          have := M.sq_lt (a := r) (b := (a + b + 1) / 2) hr0 (by have := HR.out.2.1; omega) (by omega)
          omega
        go_wp2
        exact ⟨⟨a, (a + b + 1) / 2 - 1, rfl, rfl, a1, a2, hle, by omega⟩, by simp [intOf]; omega⟩
    · have e : a = r := by omega
      subst e
      go_wp2
      go_returns
      exact ⟨rfl, rfl⟩
end Go.Proofs.Ytlgabdamgalngaa
