/-
  Contracts of layer 1: wide products.
-/
import Derived.Test.YtfcjdmpfoogljaaDoorA
import Derived.Test.YtfcjdmpfoogljaaDoorGrow
import Derived.Test.YtfcjdmpfoogljaaDoorShelf
set_option linter.unusedVariables false
set_option linter.unusedSimpArgs false
namespace Go.Proofs.YtfcjdmpfoogljaaDoor
open Go.ChangeShapes Go.WideShapes Go.ChangeAt Go.RowKit

theorem mul64_any (a b : Int) (w : World) (h1 : 0 ≤ a) (h2 : a ≤ 4611686018427387904) (h3 : 0 ≤ b) (h4 : b ≤ 4611686018427387904) :
    Calls Tryd.prog 74 #[.int .u64 a, .int .u64 b] w fun e w' => e = .returned (.tuple #[.int .u64 (M.hi (a * b)), .int .u64 (M.lo (a * b))]) ∧ w = w' := by
  obtain ⟨x, rfl⟩ := Int.eq_ofNat_of_zero_le h1
  obtain ⟨y, rfl⟩ := Int.eq_ofNat_of_zero_le h3
  refine (Tryd.bits_Mul64 x y (by omega) (by omega) w).mono fun e w' h => ⟨?_, h.2.symm⟩
  rw [h.1]
  unfold M.hi M.lo
  rw [Int.natCast_ediv, Int.natCast_emod, Int.natCast_mul]
  rfl

theorem product_any (a b : Int) (w : World) (h1 : 0 ≤ a) (h2 : a ≤ 4611686018427387904) (h3 : 0 ≤ b) (h4 : b ≤ 4611686018427387904) :
    Calls Tryd.prog 51 #[.int .i64 a, .int .i64 b] w fun e w' => e = .returned (.agg #[.int .u64 (M.hi (a * b)), .int .u64 (M.lo (a * b))]) ∧ Below w.heap.size w w' := by
  go_enter Tryd.func51, Tryd.ntmps51
  go_wp2_with (go_at_call 74; refine (mul64_any a b _ h1 h2 h3 h4).mono ?_; rintro e w' ⟨rfl, rfl⟩)
  go_returns
  exact ⟨rfl, by go_grown⟩

theorem arr_eq (d : Nat) (a b c e : Int) (w : World) : (Op.equalIn (d + 2) 74 (.agg #[.int .u64 a, .int .u64 b]) (.agg #[.int .u64 c, .int .u64 e])).run Tryd.prog w = .ok (a == c && b == e) w := by
  have h : ∀ (x y : Int) (w : World), (Op.equalIn (d + 1) 73 (.int .u64 x) (.int .u64 y)).run Tryd.prog w = .ok (x == y) w := fun x y w => run_equalIn_int w d _ _ _ x y Tryd.underlying73
  rw [show d + 2 = (d + 1) + 1 from rfl]
  simp only [Op.equalIn, Sem.run_bind, run_underlying Tryd.underlying74, Result.andThen_ok]
  rw [Tryd.sizeOf73]
  simp only [Result.andThen_ok]
  rw [Std.Legacy.Range.forIn_eq_forIn_range']
  simp [Std.Legacy.Range.size, List.range', go_sem, h]
  by_cases h1 : a = c <;> by_cases h2 : b = e <;> simp [h1, h2]
theorem arr_eq' (a b c e : Int) (w : World) : (Op.equalIn 10000 74 (.agg #[.int .u64 a, .int .u64 b]) (.agg #[.int .u64 c, .int .u64 e])).run Tryd.prog w = .ok (a == c && b == e) w := arr_eq 9998 a b c e w
set_option maxRecDepth 100000 in
set_option maxHeartbeats 1000000 in
theorem compareWide_any (x y : Int) (w : World) :
    Calls Tryd.prog 50 #[.agg #[.int .u64 (M.hi x), .int .u64 (M.lo x)], .agg #[.int .u64 (M.hi y), .int .u64 (M.lo y)]] w fun e w' => e = .returned (.int .i64 (M.cmp x y)) ∧ Below w.heap.size w w' := by
  have hq := arr_eq'
  by_cases h : M.hi x = M.hi y
  · rw [← M.cmp_lo h]
    by_cases h2 : M.lo x = M.lo y
    · rw [h, h2, M.cmp_eq]
      clear h h2
      go_enter Tryd.func50, Tryd.ntmps50
      go_wp2
      go_returns
      exact ⟨rfl, by go_grown⟩
    · rw [h]
      have h3 : (M.lo x == M.lo y) = false := by simpa using h2
      clear h h2
      go_enter Tryd.func50, Tryd.ntmps50
      go_wp2_with (go_at_call 73; refine (cmpu _ _ _).mono ?_; rintro e w' ⟨rfl, rfl⟩)
      go_returns
      exact ⟨rfl, by go_grown⟩
  · rw [← M.cmp_hi h]
    have h3 : (M.hi x == M.hi y) = false := by simpa using h
    clear h
    go_enter Tryd.func50, Tryd.ntmps50
    go_wp2_with (go_at_call 73; refine (cmpu _ _ _).mono ?_; rintro e w' ⟨rfl, rfl⟩)
    go_returns
    exact ⟨rfl, by go_grown⟩

/-- What 'Wide' takes. -/
def wideIn (a b c d : Int) : Prop := (0 ≤ a ∧ a ≤ 4611686018427387904) ∧ (0 ≤ b ∧ b ≤ 4611686018427387904) ∧ (0 ≤ c ∧ c ≤ 4611686018427387904) ∧ (0 ≤ d ∧ d ≤ 4611686018427387904)
set_option maxRecDepth 100000 in
set_option maxHeartbeats 1000000 in
theorem Wide_ok (a b c d : Int) (w : World) (h : wideIn a b c d) :
    Calls Tryd.prog 17 #[.int .i64 a, .int .i64 b, .int .i64 c, .int .i64 d] w fun e w' => e = .returned (.tuple #[.int .i64 (M.cmp (a * b) (c * d)), .int .i64 0]) ∧ Below w.heap.size w w' := by
  obtain ⟨⟨a1, a2⟩, ⟨b1, b2⟩, ⟨c1, c2⟩, ⟨d1, d2⟩⟩ := h
  have i0 : ∀ w, (Instr.index 71 (.agg #[.int .i64 a, .int .i64 b, .int .i64 c, .int .i64 d]) (.int .i64 0)).run Tryd.prog w = .ok (.int .i64 a) w := fun _ => by kernel_rfl
  have i1 : ∀ w, (Instr.index 71 (.agg #[.int .i64 a, .int .i64 b, .int .i64 c, .int .i64 d]) (.int .i64 1)).run Tryd.prog w = .ok (.int .i64 b) w := fun _ => by kernel_rfl
  have i2 : ∀ w, (Instr.index 71 (.agg #[.int .i64 a, .int .i64 b, .int .i64 c, .int .i64 d]) (.int .i64 2)).run Tryd.prog w = .ok (.int .i64 c) w := fun _ => by kernel_rfl
  have i3 : ∀ w, (Instr.index 71 (.agg #[.int .i64 a, .int .i64 b, .int .i64 c, .int .i64 d]) (.int .i64 3)).run Tryd.prog w = .ok (.int .i64 d) w := fun _ => by kernel_rfl
  go_enter Tryd.func17, Tryd.ntmps17
  go_wp2
  refine wp_loop_rounds 5 ?_
  repeat any_goals (rw [rounds_succ]; go_wp2_with (first | (go_at_call 51; refine (product_any _ _ _ (by omega) (by omega) (by omega) (by omega)).mono ?_; rintro e w1 ⟨rfl, hb1⟩; obtain ⟨hB1, hz1, hc1, hf1⟩ := grow4 (w := w) (by go_grown) hb1; (try simp only [World.size_alloc, World.size_setCell, World.size_drew] at hz1); (try have hy1 := Nat.lt_of_succ_le hz1); (try have hx1 := Nat.lt_of_succ_lt hy1); (try have hw1 := Nat.lt_of_succ_lt hx1); (try have hv1 := Nat.lt_of_succ_lt hw1); (try have ha1 : w.heap.size < w1.heap.size := (by omega)); (try have hi1 : w.heap.size + 1 < w1.heap.size := (by omega)); (try have hj1 : w.heap.size + 1 + 1 < w1.heap.size := (by omega)); (try have hk1 : w.heap.size + 1 + 1 + 1 < w1.heap.size := (by omega)); (try have hl1 : w.heap.size + 1 + 1 + 1 + 1 < w1.heap.size := (by omega))) | (go_at_call 50; refine (compareWide_any (a * b) (c * d) _).mono ?_; rintro e w3 ⟨rfl, hb3⟩; obtain ⟨hB3, hz3, hc3, hf3⟩ := grow4 (w := w) (by go_grown) hb3; (try simp only [World.size_alloc, World.size_setCell, World.size_drew] at hz3); (try have hy3 := Nat.lt_of_succ_le hz3); (try have hx3 := Nat.lt_of_succ_lt hy3); (try have hw3 := Nat.lt_of_succ_lt hx3); (try have hv3 := Nat.lt_of_succ_lt hw3); (try have ha3 : w.heap.size < w3.heap.size := (by omega)); (try have hi3 : w.heap.size + 1 < w3.heap.size := (by omega)); (try have hj3 : w.heap.size + 1 + 1 < w3.heap.size := (by omega)); (try have hk3 : w.heap.size + 1 + 1 + 1 < w3.heap.size := (by omega)); (try have hl3 : w.heap.size + 1 + 1 + 1 + 1 < w3.heap.size := (by omega)))))
  go_returns
  exact ⟨rfl, hB3⟩

set_option maxRecDepth 100000 in
set_option maxHeartbeats 2000000 in
theorem Wide_bad (a b c d : Int) (w : World) (h : ¬ wideIn a b c d) :
    Calls Tryd.prog 17 #[.int .i64 a, .int .i64 b, .int .i64 c, .int .i64 d] w fun e w' => e = .returned (.tuple #[.int .i64 0, .int .i64 3]) ∧ Below w.heap.size w w' := by
  have i0 : ∀ w, (Instr.index 71 (.agg #[.int .i64 a, .int .i64 b, .int .i64 c, .int .i64 d]) (.int .i64 0)).run Tryd.prog w = .ok (.int .i64 a) w := fun _ => by kernel_rfl
  have i1 : ∀ w, (Instr.index 71 (.agg #[.int .i64 a, .int .i64 b, .int .i64 c, .int .i64 d]) (.int .i64 1)).run Tryd.prog w = .ok (.int .i64 b) w := fun _ => by kernel_rfl
  have i2 : ∀ w, (Instr.index 71 (.agg #[.int .i64 a, .int .i64 b, .int .i64 c, .int .i64 d]) (.int .i64 2)).run Tryd.prog w = .ok (.int .i64 c) w := fun _ => by kernel_rfl
  have i3 : ∀ w, (Instr.index 71 (.agg #[.int .i64 a, .int .i64 b, .int .i64 c, .int .i64 d]) (.int .i64 3)).run Tryd.prog w = .ok (.int .i64 d) w := fun _ => by kernel_rfl
  have hd : (d < 0 ∨ 4611686018427387904 < d) ∨ (c < 0 ∨ 4611686018427387904 < c) ∨ (b < 0 ∨ 4611686018427387904 < b) ∨ (a < 0 ∨ 4611686018427387904 < a) := by unfold wideIn at h; omega
  clear h
  by_cases a0 : a < 0 ∨ 4611686018427387904 < a
  · rcases a0 with a0 | a0
    all_goals
      clear hd
      go_enter Tryd.func17, Tryd.ntmps17
      go_wp2
      refine wp_loop_rounds 1 ?_
      repeat any_goals (rw [rounds_succ]; go_wp2_with fail)
      all_goals first | (exfalso; omega) | (go_returns; exact ⟨rfl, by go_grown⟩)
  have a1 : 0 ≤ a := by omega
  have a2 : a ≤ 4611686018427387904 := by omega
  by_cases b0 : b < 0 ∨ 4611686018427387904 < b
  · rcases b0 with b0 | b0
    all_goals
      clear hd a0
      go_enter Tryd.func17, Tryd.ntmps17
      go_wp2
      refine wp_loop_rounds 2 ?_
      repeat any_goals (rw [rounds_succ]; go_wp2_with fail)
      all_goals first | (exfalso; omega) | (go_returns; exact ⟨rfl, by go_grown⟩)
  have b1 : 0 ≤ b := by omega
  have b2 : b ≤ 4611686018427387904 := by omega
  by_cases c0 : c < 0 ∨ 4611686018427387904 < c
  · rcases c0 with c0 | c0
    all_goals
      clear hd a0 b0
      go_enter Tryd.func17, Tryd.ntmps17
      go_wp2
      refine wp_loop_rounds 3 ?_
      repeat any_goals (rw [rounds_succ]; go_wp2_with fail)
      all_goals first | (exfalso; omega) | (go_returns; exact ⟨rfl, by go_grown⟩)
  have c1 : 0 ≤ c := by omega
  have c2 : c ≤ 4611686018427387904 := by omega
  have d0 : d < 0 ∨ 4611686018427387904 < d := by omega
  rcases d0 with d0 | d0
  all_goals
    clear hd a0 b0 c0
    go_enter Tryd.func17, Tryd.ntmps17
    go_wp2
    refine wp_loop_rounds 4 ?_
    repeat any_goals (rw [rounds_succ]; go_wp2_with fail)
    all_goals first | (exfalso; omega) | (go_returns; exact ⟨rfl, by go_grown⟩)
end Go.Proofs.YtfcjdmpfoogljaaDoor
