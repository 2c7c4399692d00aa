/-
  Contracts of the functions of layer 1 that only reckon: what each returns, and that memory only grows.
-/
import Derived.Test.YtlgabdamgalngaaRows
import Derived.Test.YtlgabdamgalngaaMath
import Derived.WalkKit
import Derived.ProofKit
import Derived.OpenShut
import Derived.RegionTactic
import Derived.ChangeAlike
import Derived.Handy
import Derived.Below
import Derived.Outline
import Derived.Lib.Hide
import Derived.Deep.RegionWith
set_option linter.unusedVariables false
set_option linter.unusedSimpArgs false
namespace Go.Proofs.Ytlgabdamgalngaa
open Go.ChangeShapes Go.WideShapes Go.ChangeAt Go.RowKit

/-- What stays below a growth: every cell and every mark. -/
theorem bcell {W w1 : World} (hb : Below W.heap.size W w1) : (∀ b o, b < W.heap.size → w1.cell? ⟨b, o, none⟩ = W.cell? ⟨b, o, none⟩) ∧ (∀ b o, b < W.heap.size → w1.frozen? ⟨b, o, none⟩ = W.frozen? ⟨b, o, none⟩) :=
  ⟨fun b o h => hb.cell (p := ⟨b, o, none⟩) h, fun b o h => hb.frozen (p := ⟨b, o, none⟩) h⟩

theorem grow4 {w W w1 : World} (h : Below w.heap.size w W) (hb : Below W.heap.size W w1) : Below w.heap.size w w1 ∧ W.heap.size ≤ w1.heap.size ∧ (∀ b o, b < W.heap.size → w1.cell? ⟨b, o, none⟩ = W.cell? ⟨b, o, none⟩) ∧ (∀ b o, b < W.heap.size → w1.frozen? ⟨b, o, none⟩ = W.frozen? ⟨b, o, none⟩) :=
  ⟨h.trans (hb.mono h.size), hb.size, fun b o h => hb.cell (p := ⟨b, o, none⟩) h, fun b o h => hb.frozen (p := ⟨b, o, none⟩) h⟩
theorem stepB {w W w1 : World} (h : Below w.heap.size w W) (hb : Below W.heap.size W w1) : Below w.heap.size w w1 := h.trans (hb.mono h.size)

set_option maxHeartbeats 1000000 in
theorem part_any (n d : Int) (w : World) (h1 : -1152921504606846976 ≤ n) (h2 : n ≤ 1152921504606846976) (h3 : 1 ≤ d) (h4 : d ≤ 1152921504606846976) :
    Calls Try.prog 98 #[.int .i64 n, .int .i64 d] w fun e w' => e = .returned (.agg #[.int .i64 (M.whole n d), .int .i64 (M.rest n d)]) ∧ Below w.heap.size w w' := by
  have hq := M.tdiv_bd n d (by omega) (-1152921504606846976) 1152921504606846976 (by omega) (by omega) h1 h2
  have hr := Int.tmod_lt_of_pos n (show 0 < d by omega)
  have hr2 : -d < n.tmod d := by
    have h1 := Int.tmod_lt_of_pos (-n) (show 0 < d by omega)
    rw [Int.neg_tmod] at h1
    omega
  obtain ⟨hq1, hq2⟩ := hq
  by_cases c1 : d ≤ 2 * n.tmod d
  · obtain ⟨e1, e2⟩ := M.part_up n d (by omega) c1
    rw [← e1, ← e2]
    clear e1 e2
    go_enter Try.func98, Try.ntmps98
    go_wp2
    go_region
    go_wp2
    go_returns
    exact ⟨rfl, by go_grown⟩
  by_cases c2 : 2 * n.tmod d < -d
  · obtain ⟨e1, e2⟩ := M.part_down n d (by omega) c2
    rw [← e1, ← e2]
    clear e1 e2
    go_enter Try.func98, Try.ntmps98
    go_wp2
    go_region
    go_wp2
    go_returns
    exact ⟨rfl, by go_grown⟩
  · obtain ⟨e1, e2⟩ := M.part_mid n d (by omega) c1 c2
    rw [← e1, ← e2]
    clear e1 e2
    go_enter Try.func98, Try.ntmps98
    go_wp2
    go_region
    go_wp2
    go_returns
    exact ⟨rfl, by go_grown⟩



theorem divide_ok (n d : Int) (w : World) (h1 : -1152921504606846976 ≤ n) (h2 : n ≤ 1152921504606846976) (h3 : 1 ≤ d) (h4 : d ≤ 1152921504606846976) :
    Calls Try.prog 78 #[.int .i64 n, .int .i64 d] w fun e w' => e = .returned (.tuple #[.agg #[.int .i64 (M.whole n d), .int .i64 (M.rest n d)], .int .i64 0]) ∧ Below w.heap.size w w' := by
  go_enter Try.func78, Try.ntmps78
  go_wp2_with (go_at_call 98; refine (part_any _ _ _ h1 h2 h3 h4).mono ?_; rintro e w1 ⟨rfl, hb1⟩; obtain ⟨hB1, hz1, hc1, hf1⟩ := grow4 (w := w) (by go_grown) hb1; (try simp only [World.size_alloc, World.size_setCell, World.size_drew] at hz1); (try have hy1 := Nat.lt_of_succ_le hz1); (try have hx1 := Nat.lt_of_succ_lt hy1); (try have hw1 := Nat.lt_of_succ_lt hx1); (try have hv1 := Nat.lt_of_succ_lt hw1); (try have ha1 : w.heap.size < w1.heap.size := (by omega)); (try have hi1 : w.heap.size + 1 < w1.heap.size := (by omega)); (try have hj1 : w.heap.size + 1 + 1 < w1.heap.size := (by omega)); (try have hk1 : w.heap.size + 1 + 1 + 1 < w1.heap.size := (by omega)); (try have hl1 : w.heap.size + 1 + 1 + 1 + 1 < w1.heap.size := (by omega)))
  all_goals
    refine bodyPost_ret (v := .tuple #[.agg #[.int .i64 (M.whole n d), .int .i64 (M.rest n d)], .int .i64 0]) (by simp [results, Try.results78, go_sem, hc1]) rfl ⟨rfl, ?_⟩
    go_grown
theorem divide_bad (n d : Int) (w : World) (h : n < -1152921504606846976 ∨ 1152921504606846976 < n ∨ d < 1 ∨ 1152921504606846976 < d) :
    Calls Try.prog 78 #[.int .i64 n, .int .i64 d] w fun e w' => e = .returned (.tuple #[.agg #[.int .i64 0, .int .i64 0], .int .i64 3]) ∧ Below w.heap.size w w' := by
  go_enter Try.func78, Try.ntmps78
  go_wp2_with fail
  all_goals first | (exfalso; omega) | (go_returns; exact ⟨rfl, by go_grown⟩)
theorem fits_any (a : Int) (w : World) :
    Calls Try.prog 99 #[.int .i64 a] w fun e w' => e = .returned (.bool (M.fits a)) ∧ w = w' := by
  by_cases h : -4194304 ≤ a ∧ a ≤ 4194304
  · rw [M.fits_yes h]
    obtain ⟨h1, h2⟩ := h
    go_enter Try.func99, Try.ntmps99
    go_wp2
    go_returns
    exact ⟨rfl, rfl⟩
  · rw [M.fits_no h]
    by_cases h1 : -4194304 ≤ a
    all_goals
      go_enter Try.func99, Try.ntmps99
      go_wp2
      go_returns
      exact ⟨by first | rfl | (simp; omega), rfl⟩
theorem way_any (x y u v : Int) (w : World) (hx : -16777216 ≤ x) (hx2 : x ≤ 16777216) (hy : -16777216 ≤ y) (hy2 : y ≤ 16777216) (hu : -16777216 ≤ u) (hu2 : u ≤ 16777216) (hv : -16777216 ≤ v) (hv2 : v ≤ 16777216) :
    Calls Try.prog 105 #[.agg #[.int .i64 x, .int .i64 y], .agg #[.int .i64 u, .int .i64 v]] w fun e w' => e = .returned (.agg #[.int .i64 (u - x), .int .i64 (v - y)]) ∧ ((w.alloc (.cells #[.int .i64 x, .int .i64 y] 25)).alloc (.cells #[.int .i64 u, .int .i64 v] 25)).alloc (.cells #[.int .i64 (u - x), .int .i64 (v - y)] 25) = w' := by
  go_enter Try.func105, Try.ntmps105
  go_wp2
  go_returns
  exact ⟨rfl, rfl⟩
theorem quot_any (a n : Int) (w : World) (h1 : 0 ≤ a) (h2 : a ≤ 2147483648) (h3 : 0 ≤ n) (h4 : n ≤ 4611686018427387904) :
    Calls Try.prog 101 #[.int .i64 a, .int .i64 n] w fun e w' => e = .returned (.agg #[.int .i64 a, .int .i64 (n - a * a)]) ∧ Below w.heap.size w w' := by
  have h5 : 0 ≤ a * a := Int.mul_nonneg h1 h1
  have h6 : a * a ≤ 2147483648 * 2147483648 := Int.mul_le_mul h2 h2 h1 (by omega)
  go_enter Try.func101, Try.ntmps101
  go_wp2
  go_returns
  exact ⟨rfl, by go_grown⟩
theorem square_any (x y u v : Int) (w : World) (hx : -16777216 ≤ x) (hx2 : x ≤ 16777216) (hy : -16777216 ≤ y) (hy2 : y ≤ 16777216) (hu : -16777216 ≤ u) (hu2 : u ≤ 16777216) (hv : -16777216 ≤ v) (hv2 : v ≤ 16777216) :
    Calls Try.prog 103 #[.agg #[.int .i64 x, .int .i64 y], .agg #[.int .i64 u, .int .i64 v]] w fun e w' => e = .returned (.int .i64 (M.sq x y u v)) ∧ Below w.heap.size w w' := by
  have b1 := M.mul_bd (u - x) (u - x) 33554432 33554432 (by omega) (by omega) (by omega) (by omega)
  have b2 := M.mul_bd (v - y) (v - y) 33554432 33554432 (by omega) (by omega) (by omega) (by omega)
  obtain ⟨b3, b4⟩ := b1
  obtain ⟨b5, b6⟩ := b2
  unfold M.sq
  go_enter Try.func103, Try.ntmps103
  go_wp2_with (go_at_call 105; refine (way_any _ _ _ _ _ hx hx2 hy hy2 hu hu2 hv hv2).mono ?_; rintro e w' ⟨rfl, rfl⟩)
  go_returns
  exact ⟨rfl, by go_grown⟩

end Go.Proofs.Ytlgabdamgalngaa
