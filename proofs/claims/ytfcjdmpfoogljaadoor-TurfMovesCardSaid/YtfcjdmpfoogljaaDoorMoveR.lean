/-
  Contracts of the document's own answers: the first contact.
-/
import Derived.Test.YtfcjdmpfoogljaaDoorMoveM
import Derived.Test.YtfcjdmpfoogljaaDoorSegR
set_option linter.unusedVariables false
set_option linter.unusedSimpArgs false
namespace Go.Proofs.YtfcjdmpfoogljaaDoor
open Go.ChangeShapes Go.WideShapes Go.ChangeAt Go.RowKit

@[go_sem high] theorem run_max_ints4 {P : Program} (w : World) (ts : Array TypeId) (t : TypeId) (k k1 k2 k3 : IntKind) (x y z u : Int) :
    (Builtin.max_ ts t #[.int k x, .int k1 y, .int k2 z, .int k3 u]).run P w = .ok (.int k (max (max (max x y) z) u)) w := by
  have e : ∀ a b : Int, (if a < b then b else a) = max a b := fun a b => by
    rw [Int.max_def]
    split <;> split <;> omega
  simp [Builtin.max_, Builtin.max2, e]
theorem M.near_max {x y r n : Int} (h : M.near x y (n * r) = true) : max (max (max x (-x)) y) (-y) ≤ r * n ∧ x * x + y * y ≤ r * n * r * n := by
  obtain ⟨h1, h2, h3, h4, h5⟩ := M.near_of h
  rw [show r * n = n * r from Int.mul_comm _ _]
  rw [show n * r * r * n = n * r * (n * r) from by grind]
  exact ⟨by omega, h5⟩
theorem M.far_max {x y r n : Int} (h : M.near x y (n * r) = false) : r * n < max (max (max x (-x)) y) (-y) ∨ (max (max (max x (-x)) y) (-y) ≤ r * n ∧ r * n * r * n < x * x + y * y) := by
  have k := M.near_not h
  rw [show r * n = n * r from Int.mul_comm _ _]
  rw [show n * r * r * n = n * r * (n * r) from by grind]
  by_cases h1 : n * r < max (max (max x (-x)) y) (-y)
  · exact .inl h1
  · refine .inr ⟨by omega, ?_⟩
    have h2 : -(n * r) ≤ x ∧ x ≤ n * r ∧ -(n * r) ≤ y ∧ y ≤ n * r := by omega
    by_cases h3 : x * x + y * y ≤ n * r * (n * r)
    · exact absurd ⟨h2.1, h2.2.1, h2.2.2.1, h2.2.2.2, h3⟩ k
    · omega
theorem in_of {x y : Int} (h : inB x y = true) : M.In x y := of_decide_eq_true (p := (-4194304 ≤ x ∧ x ≤ 4194304) ∧ (-4194304 ≤ y ∧ y ≤ 4194304)) h
theorem in4 {x y u v p q r s : Int} (h : ¬ (M.In x y ∧ M.In u v ∧ M.In p q ∧ M.In r s)) : inB x y = false ∨ (inB x y = true ∧ inB u v = false) ∨ (inB x y = true ∧ inB u v = true ∧ inB p q = false) ∨ (inB x y = true ∧ inB u v = true ∧ inB p q = true ∧ inB r s = false) := by
  cases k1 : inB x y
  · exact .inl rfl
  · cases k2 : inB u v
    · exact .inr (.inl ⟨rfl, rfl⟩)
    · cases k3 : inB p q
      · exact .inr (.inr (.inl ⟨rfl, rfl, rfl⟩))
      · exact .inr (.inr (.inr ⟨rfl, rfl, rfl, inB_no (fun k => h ⟨in_of k1, in_of k2, in_of k3, k⟩)⟩))

set_option maxHeartbeats 1000000 in
theorem rFirst_bad (p0 p1 v0 v1 q0 q1 u0 u1 r n : Int) (w : World) (h : ¬ (M.In p0 p1 ∧ M.In v0 v1 ∧ M.In q0 q1 ∧ M.In u0 u1)) :
    Calls Tryd.prog 39 #[.agg #[.int .i64 p0, .int .i64 p1], .agg #[.int .i64 v0, .int .i64 v1], .agg #[.int .i64 q0, .int .i64 q1], .agg #[.int .i64 u0, .int .i64 u1], .int .i64 r, .int .i64 n] w fun e w' => e = .returned (.tuple #[.int .i64 0, .int .i64 2]) ∧ Below w.heap.size w w' := by
  rcases in4 h with k1 | ⟨k1, k2⟩ | ⟨k1, k2, k3⟩ | ⟨k1, k2, k3, k4⟩
  all_goals
    clear h
    go_enter Tryd.func39, Tryd.ntmps39
    go_wp2_with (go_at_call 55; refine (valid_any _ _ _).mono ?_; rintro e w1 ⟨rfl, hb1⟩; obtain ⟨hB1, hz1, hc1, hf1⟩ := grow4 (w := w) (by go_grown) hb1; (try simp only [World.size_alloc, World.size_setCell, World.size_drew] at hz1); (try have hy1 := Nat.lt_of_succ_le hz1); (try have hx1 := Nat.lt_of_succ_lt hy1); (try have hw1 := Nat.lt_of_succ_lt hx1); (try have hv1 := Nat.lt_of_succ_lt hw1); (try have ha1 : w.heap.size < w1.heap.size := (by omega)); (try have hi1 : w.heap.size + 1 < w1.heap.size := (by omega)); (try have hj1 : w.heap.size + 1 + 1 < w1.heap.size := (by omega)); (try have hk1 : w.heap.size + 1 + 1 + 1 < w1.heap.size := (by omega)); (try have hl1 : w.heap.size + 1 + 1 + 1 + 1 < w1.heap.size := (by omega)))
    go_returns
    exact ⟨rfl, hB1⟩
set_option maxHeartbeats 1000000 in
theorem rFirst_range (p0 p1 v0 v1 q0 q1 u0 u1 r n : Int) (w : World) (h1 : M.In p0 p1) (h2 : M.In v0 v1) (h3 : M.In q0 q1) (h4 : M.In u0 u1) (hr : r < 0 ∨ 131072 < r ∨ n < 1 ∨ 1024 < n) :
    Calls Tryd.prog 39 #[.agg #[.int .i64 p0, .int .i64 p1], .agg #[.int .i64 v0, .int .i64 v1], .agg #[.int .i64 q0, .int .i64 q1], .agg #[.int .i64 u0, .int .i64 u1], .int .i64 r, .int .i64 n] w fun e w' => e = .returned (.tuple #[.int .i64 0, .int .i64 3]) ∧ Below w.heap.size w w' := by
  have k1 := inB_yes h1
  have k2 := inB_yes h2
  have k3 := inB_yes h3
  have k4 := inB_yes h4
  have g : M.among r 0 131072 = false ∨ (M.among r 0 131072 = true ∧ M.among n 1 1024 = false) := by
    by_cases c : r < 0 ∨ 131072 < r
    · exact .inl (M.among_no c)
    · exact .inr ⟨M.among_yes (by omega) (by omega), M.among_no (by omega)⟩
  clear h1 h2 h3 h4 hr
  rcases g with g1 | ⟨g1, g2⟩
  all_goals
    go_enter Tryd.func39, Tryd.ntmps39
    go_wp2_with (first | (go_at_call 55; refine (valid_any _ _ _).mono ?_; rintro e w1 ⟨rfl, hb1⟩; obtain ⟨hB1, hz1, hc1, hf1⟩ := grow4 (w := w) (by go_grown) hb1; (try simp only [World.size_alloc, World.size_setCell, World.size_drew] at hz1); (try have hy1 := Nat.lt_of_succ_le hz1); (try have hx1 := Nat.lt_of_succ_lt hy1); (try have hw1 := Nat.lt_of_succ_lt hx1); (try have hv1 := Nat.lt_of_succ_lt hw1); (try have ha1 : w.heap.size < w1.heap.size := (by omega)); (try have hi1 : w.heap.size + 1 < w1.heap.size := (by omega)); (try have hj1 : w.heap.size + 1 + 1 < w1.heap.size := (by omega)); (try have hk1 : w.heap.size + 1 + 1 + 1 < w1.heap.size := (by omega)); (try have hl1 : w.heap.size + 1 + 1 + 1 + 1 < w1.heap.size := (by omega))) | (go_at_call 46; refine (among_any _ _ _ _).mono ?_; rintro e w' ⟨rfl, rfl⟩))
    go_returns
    exact ⟨rfl, hB1⟩

set_option maxRecDepth 100000 in
set_option maxHeartbeats 2000000 in
theorem rFirst_ok (p0 p1 v0 v1 q0 q1 u0 u1 r n : Int) (m : Nat) (w : World) (h1 : M.In p0 p1) (h2 : M.In v0 v1) (h3 : M.In q0 q1) (h4 : M.In u0 u1) (r1 : 0 ≤ r) (r2 : r ≤ 131072) (n1 : 1 ≤ n) (n2 : n ≤ 1024) (hm : M.FirstAt (p0 - q0) (v0 - u0) (p1 - q1) (v1 - u1) r n m) :
    Calls Tryd.prog 39 #[.agg #[.int .i64 p0, .int .i64 p1], .agg #[.int .i64 v0, .int .i64 v1], .agg #[.int .i64 q0, .int .i64 q1], .agg #[.int .i64 u0, .int .i64 u1], .int .i64 r, .int .i64 n] w fun e w' => e = .returned (.tuple #[.int .i64 (M.firstK m n), .int .i64 (M.firstE m n)]) ∧ Below w.heap.size w w' := by
  have k1 := inB_yes h1
  have k2 := inB_yes h2
  have k3 := inB_yes h3
  have k4 := inB_yes h4
  have g1 := M.among_yes r1 r2
  have g2 := M.among_yes n1 n2
  obtain ⟨⟨a1, a2⟩, ⟨a3, a4⟩⟩ := h1
  obtain ⟨⟨b1, b2⟩, ⟨b3, b4⟩⟩ := h2
  obtain ⟨⟨c1, c2⟩, ⟨c3, c4⟩⟩ := h3
  obtain ⟨⟨d1, d2⟩, ⟨d3, d4⟩⟩ := h4
  have hm1 := hm.1
  have HM := Lib.hid hm
  clear hm
  obtain ⟨s1, s2⟩ := M.mul_range r n 131072 1024 r1 r2 (by omega) n2
  obtain ⟨t1, t2⟩ := M.mul_range (r * n) r 134217728 131072 s1 (by omega) r1 r2
  obtain ⟨t3, t4⟩ := M.mul_range (r * n * r) n 17592186044416 1024 t1 (by omega) (by omega) n2
  go_enter Tryd.func39, Tryd.ntmps39
  go_wp2_with (first | (go_at_call 55; refine (valid_any _ _ _).mono ?_; rintro e w1 ⟨rfl, hb1⟩; obtain ⟨hB1, hz1, hc1, hf1⟩ := grow4 (w := w) (by go_grown) hb1; (try simp only [World.size_alloc, World.size_setCell, World.size_drew] at hz1); (try have hy1 := Nat.lt_of_succ_le hz1); (try have hx1 := Nat.lt_of_succ_lt hy1); (try have hw1 := Nat.lt_of_succ_lt hx1); (try have hv1 := Nat.lt_of_succ_lt hw1); (try have ha1 : w.heap.size < w1.heap.size := (by omega)); (try have hi1 : w.heap.size + 1 < w1.heap.size := (by omega)); (try have hj1 : w.heap.size + 1 + 1 < w1.heap.size := (by omega)); (try have hk1 : w.heap.size + 1 + 1 + 1 < w1.heap.size := (by omega)); (try have hl1 : w.heap.size + 1 + 1 + 1 + 1 < w1.heap.size := (by omega))) | (go_at_call 46; refine (among_any _ _ _ _).mono ?_; rintro e w' ⟨rfl, rfl⟩))
  go_loop [14] (fun i => ∃ k : Nat, k ≤ m ∧ i = .int .i64 k) (fun i => m + 1 - (intOf i).toNat)
  case atStart => exact ⟨0, Nat.zero_le _, rfl⟩
  case round =>
    obtain ⟨k, hk, rfl⟩ := hrel
    by_cases hlt : (k : Int) ≤ n
    · obtain ⟨x1, x2, x3, x4⟩ := M.along_bd n (p0 - q0) k (v0 - u0) (by omega) n2 hlt (by omega) (by omega) (by omega) (by omega)
      obtain ⟨y1, y2, y3, y4⟩ := M.along_bd n (p1 - q1) k (v1 - u1) (by omega) n2 hlt (by omega) (by omega) (by omega) (by omega)
      by_cases hkm : k = m
      · subst hkm
        have FK := Lib.hid (show M.firstK k n = k ∧ M.firstE k n = 0 from ⟨if_pos hlt, if_pos hlt⟩)
        obtain ⟨z1, z2⟩ := M.near_max (HM.out.2.2 hlt)
        obtain ⟨z3, z4⟩ := M.mul_bd (n * (p0 - q0) + k * (v0 - u0)) (n * (p0 - q0) + k * (v0 - u0)) 134217728 134217728 (by omega) (by omega) (by omega) (by omega)
        obtain ⟨z5, z6⟩ := M.mul_bd (n * (p1 - q1) + k * (v1 - u1)) (n * (p1 - q1) + k * (v1 - u1)) 134217728 134217728 (by omega) (by omega) (by omega) (by omega)
        go_wp2
        go_returns
        exact ⟨by rw [FK.out.1, FK.out.2]; rfl, hB1⟩
      · rcases M.far_max (HM.out.2.1 k (by omega)) with z1 | ⟨z1, z2⟩
        · go_wp2
          exact ⟨⟨k + 1, by omega, by go_num⟩, by simp [intOf]; omega⟩
        · obtain ⟨z3, z4⟩ := M.mul_bd (n * (p0 - q0) + k * (v0 - u0)) (n * (p0 - q0) + k * (v0 - u0)) 134217728 134217728 (by omega) (by omega) (by omega) (by omega)
          obtain ⟨z5, z6⟩ := M.mul_bd (n * (p1 - q1) + k * (v1 - u1)) (n * (p1 - q1) + k * (v1 - u1)) 134217728 134217728 (by omega) (by omega) (by omega) (by omega)
          go_wp2
          exact ⟨⟨k + 1, by omega, by go_num⟩, by simp [intOf]; omega⟩
    · have hkm : k = m := by omega
      subst hkm
      have FK := Lib.hid (show M.firstK k n = 0 ∧ M.firstE k n = 5 from ⟨if_neg hlt, if_neg hlt⟩)
      go_wp2
      go_returns
      exact ⟨by rw [FK.out.1, FK.out.2]; rfl, hB1⟩
end Go.Proofs.YtfcjdmpfoogljaaDoor
