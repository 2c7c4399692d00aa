/-
  Contracts of layer 1: what the functions of segments answer.
-/
import Derived.Test.YtlgabdamgalngaaSeg
set_option linter.unusedVariables false
set_option linter.unusedSimpArgs false
namespace Go.Proofs.Ytlgabdamgalngaa
open Go.ChangeShapes Go.WideShapes Go.ChangeAt Go.RowKit

theorem chk2 {x y u v : Int} : (M.chk [(x, y), (u, v)] = 0 ∧ M.In x y ∧ M.In u v) ∨ (M.chk [(x, y), (u, v)] = 2 ∧ ¬ (M.In x y ∧ M.In u v)) := by
  rcases M.chk_cases [(x, y), (u, v)] with ⟨h, k⟩ | ⟨h, p, hp, hn⟩
  · exact .inl ⟨h, k (x, y) (by simp), k (u, v) (by simp)⟩
  · refine .inr ⟨h, fun ⟨a, b⟩ => hn ?_⟩
    simp at hp
    rcases hp with rfl | rfl
    · exact a
    · exact b
theorem chk3 {x y u v p q : Int} : (M.chk [(x, y), (u, v), (p, q)] = 0 ∧ M.In x y ∧ M.In u v ∧ M.In p q) ∨ (M.chk [(x, y), (u, v), (p, q)] = 2 ∧ ¬ (M.In x y ∧ M.In u v ∧ M.In p q)) := by
  rcases M.chk_cases [(x, y), (u, v), (p, q)] with ⟨h, k⟩ | ⟨h, z, hp, hn⟩
  · exact .inl ⟨h, k (x, y) (by simp), k (u, v) (by simp), k (p, q) (by simp)⟩
  · refine .inr ⟨h, fun ⟨a, b, c⟩ => hn ?_⟩
    simp at hp
    rcases hp with rfl | rfl | rfl
    · exact a
    · exact b
    · exact c

theorem Square_ok (x y u v : Int) (w : World) (h1 : M.In x y) (h2 : M.In u v) :
    Calls Try.prog 90 #[.agg #[.int .i64 x, .int .i64 y], .agg #[.int .i64 u, .int .i64 v]] w fun e w' => e = .returned (.tuple #[.int .i64 (M.sq x y u v), .int .i64 0]) ∧ Below w.heap.size w w' := by
  rcases chk2 (x := x) (y := y) (u := u) (v := v) with ⟨hc, _⟩ | ⟨_, hn⟩
  · have H1 := Lib.hid h1
    have H2 := Lib.hid h2
    clear h1 h2
    go_enter Try.func90, Try.ntmps90
    go_wp2_with (first | (go_at_call 83; refine (checkAll_two x y u v _ _ _ (by go_size) (by go_cell) (by go_cell) (by go_cell) (by go_cell)).mono ?_; rintro e w1 ⟨rfl, hb1⟩; obtain ⟨hB1, hz1, hc1, hf1⟩ := grow4 (w := w) (by go_grown) hb1; (try simp only [World.size_alloc, World.size_setCell, World.size_drew] at hz1); (try have hy1 := Nat.lt_of_succ_le hz1); (try have hx1 := Nat.lt_of_succ_lt hy1); (try have hw1 := Nat.lt_of_succ_lt hx1); (try have hv1 := Nat.lt_of_succ_lt hw1); (try have ha1 : w.heap.size < w1.heap.size := (by omega)); (try have hi1 : w.heap.size + 1 < w1.heap.size := (by omega)); (try have hj1 : w.heap.size + 1 + 1 < w1.heap.size := (by omega)); (try have hk1 : w.heap.size + 1 + 1 + 1 < w1.heap.size := (by omega)); (try have hl1 : w.heap.size + 1 + 1 + 1 + 1 < w1.heap.size := (by omega))) | (go_at_call 103; refine (sq_call x y u v _ H1.out H2.out).mono ?_; rintro e w2 ⟨rfl, hb2⟩; obtain ⟨hB2, hz2, hc2, hf2⟩ := grow4 (w := w) (by go_grown) hb2; (try simp only [World.size_alloc, World.size_setCell, World.size_drew] at hz2); (try have hy2 := Nat.lt_of_succ_le hz2); (try have hx2 := Nat.lt_of_succ_lt hy2); (try have hw2 := Nat.lt_of_succ_lt hx2); (try have hv2 := Nat.lt_of_succ_lt hw2); (try have ha2 : w.heap.size < w2.heap.size := (by omega)); (try have hi2 : w.heap.size + 1 < w2.heap.size := (by omega)); (try have hj2 : w.heap.size + 1 + 1 < w2.heap.size := (by omega)); (try have hk2 : w.heap.size + 1 + 1 + 1 < w2.heap.size := (by omega)); (try have hl2 : w.heap.size + 1 + 1 + 1 + 1 < w2.heap.size := (by omega))))
    go_returns
    exact ⟨rfl, hB2⟩
  · exact absurd ⟨h1, h2⟩ hn
theorem Square_bad (x y u v : Int) (w : World) (h : ¬ (M.In x y ∧ M.In u v)) :
    Calls Try.prog 90 #[.agg #[.int .i64 x, .int .i64 y], .agg #[.int .i64 u, .int .i64 v]] w fun e w' => e = .returned (.tuple #[.int .i64 0, .int .i64 2]) ∧ Below w.heap.size w w' := by
  rcases chk2 (x := x) (y := y) (u := u) (v := v) with ⟨_, hn⟩ | ⟨hc, _⟩
  · exact absurd hn h
  · clear h
    go_enter Try.func90, Try.ntmps90
    go_wp2_with (first | (go_at_call 83; refine (checkAll_two x y u v _ _ _ (by go_size) (by go_cell) (by go_cell) (by go_cell) (by go_cell)).mono ?_; rintro e w1 ⟨rfl, hb1⟩; obtain ⟨hB1, hz1, hc1, hf1⟩ := grow4 (w := w) (by go_grown) hb1; (try simp only [World.size_alloc, World.size_setCell, World.size_drew] at hz1); (try have hy1 := Nat.lt_of_succ_le hz1); (try have hx1 := Nat.lt_of_succ_lt hy1); (try have hw1 := Nat.lt_of_succ_lt hx1); (try have hv1 := Nat.lt_of_succ_lt hw1); (try have ha1 : w.heap.size < w1.heap.size := (by omega)); (try have hi1 : w.heap.size + 1 < w1.heap.size := (by omega)); (try have hj1 : w.heap.size + 1 + 1 < w1.heap.size := (by omega)); (try have hk1 : w.heap.size + 1 + 1 + 1 < w1.heap.size := (by omega)); (try have hl1 : w.heap.size + 1 + 1 + 1 + 1 < w1.heap.size := (by omega))))
    go_returns
    exact ⟨rfl, hB1⟩

theorem chkDisc_in {x y r : Int} (h : chkDisc x y r = 0) : M.In x y ∧ 1 ≤ r ∧ r ≤ 65536 := by
  unfold chkDisc at h
  split at h
  · omega
  · rcases M.chk_cases [(x, y)] with ⟨_, k⟩ | ⟨k, _⟩
    · exact ⟨k (x, y) (by simp), by omega, by omega⟩
    · omega
theorem chkDisc_two {x y r : Int} (h : ¬ chkDisc x y r = 0) : chkDisc x y r = 2 := by
  unfold chkDisc at h ⊢
  split at h
  · rename_i hr; rw [if_pos hr]
  · rename_i hr
    rw [if_neg hr]
    rcases M.chk_cases [(x, y)] with ⟨k, _⟩ | ⟨k, _⟩
    · exact absurd k h
    · exact k
end Go.Proofs.Ytlgabdamgalngaa
