/-
  Contracts of layer 1: what is valid.
-/
import Derived.Test.YtlgabdamgalngaaA
import Derived.Test.YtlgabdamgalngaaGrow
set_option linter.unusedVariables false
set_option linter.unusedSimpArgs false
namespace Go.Proofs.Ytlgabdamgalngaa
open Go.ChangeShapes Go.WideShapes Go.ChangeAt Go.RowKit

/-- The cells of a row of points. -/
def Pts (w : World) (b : Nat) (ps : List (Int × Int)) : Prop :=
  ∀ j, j < ps.length → w.cell? ⟨b, j * 2, none⟩ = some (.int .i64 (ps.getD j (0, 0)).1) ∧ w.cell? ⟨b, j * 2 + 1, none⟩ = some (.int .i64 (ps.getD j (0, 0)).2)
theorem Pts.below {w w' : World} {b B : Nat} {ps : List (Int × Int)} (h : Pts w b ps) (hb : Below B w w') (hB : b < B) : Pts w' b ps := fun j hj => by
  obtain ⟨h1, h2⟩ := h j hj
  exact ⟨(hb.cell (p := ⟨b, j * 2, none⟩) hB).trans h1, (hb.cell (p := ⟨b, j * 2 + 1, none⟩) hB).trans h2⟩

set_option maxHeartbeats 1000000 in
theorem checkAll_any (ps : List (Int × Int)) (b c : Nat) (w : World) (hb : b < w.heap.size) (hn : ps.length ≤ 1000000) (hp : Pts w b ps) :
    Calls Try.prog 83 #[.slice (some ⟨b, 0, none⟩) ps.length c] w fun e w' => e = .returned (.int .i64 (M.chk ps)) ∧ Below w.heap.size w w' := by
  have HP := Lib.hid hp
  clear hp
  go_enter Try.func83, Try.ntmps83
  go_wp2
  generalize hl : ps.length = n at *
  have HL := Lib.hid hl
  clear hl
  go_loopw [7] (fun i wr => ∃ k : Nat, k ≤ n ∧ i = .int .i64 k ∧ M.okAll (ps.take k) = true ∧ Below w.heap.size w wr) (fun i _ => n - (intOf i).toNat)
  case atStart => exact ⟨0, Nat.zero_le _, rfl, rfl, Below.refl _ _⟩
  case round =>
    obtain ⟨k, hk, rfl, hok, hB⟩ := hrel
    have HO := Lib.hid hok
    clear hok
    by_cases hlt : k < n
    · obtain ⟨c1, c2⟩ := (HP.out.below hB hb) k (by have := HL.out; omega)
      have hs := M.okAll_take_succ ps k (by have := HL.out; omega)
      rw [HO.out] at hs
      have HS := Lib.hid hs
      clear hs
      have hzr := hB.size
      generalize (ps.getD k (0, 0)).1 = x at *
      generalize (ps.getD k (0, 0)).2 = y at *
      have fin2 : M.okAll (ps.take (k + 1)) = false → Ending.returned (.int .i64 2) = Ending.returned (.int .i64 (M.chk ps)) := fun h => by
        unfold M.chk
        rw [M.okAll_of_take ps (k + 1) h]
        rfl
      have FIN := Lib.hid fin2
      clear fin2
      cases hx : M.fits x
      · go_wp2_with (go_at_call 99; refine (fits_any _ _).mono ?_; rintro e w' ⟨rfl, rfl⟩)
        go_returns
        exact ⟨FIN.out (by rw [HS.out, hx]; rfl), by go_grown⟩
      · cases hy : M.fits y
        · go_wp2_with (go_at_call 99; refine (fits_any _ _).mono ?_; rintro e w' ⟨rfl, rfl⟩)
          go_returns
          exact ⟨FIN.out (by rw [HS.out, hx, hy]; rfl), by go_grown⟩
        · go_wp2_with (go_at_call 99; refine (fits_any _ _).mono ?_; rintro e w' ⟨rfl, rfl⟩)
          exact ⟨⟨k + 1, by omega, by go_num, by rw [HS.out, hx, hy]; rfl, by go_grown⟩, by simp [intOf]; omega⟩
    · go_wp2
      go_returns
      refine ⟨?_, hB⟩
      have e : k = ps.length := by have := HL.out; omega
      have h := HO.out
      rw [e, List.take_length] at h
      unfold M.chk
      rw [h]
      rfl

theorem checkAll_one (x y : Int) (b c : Nat) (w : World) (hb : b < w.heap.size) (h0 : w.cell? ⟨b, 0, none⟩ = some (.int .i64 x)) (h1 : w.cell? ⟨b, 1, none⟩ = some (.int .i64 y)) :
    Calls Try.prog 83 #[.slice (some ⟨b, 0, none⟩) 1 c] w fun e w' => e = .returned (.int .i64 (M.chk [(x, y)])) ∧ Below w.heap.size w w' :=
  checkAll_any [(x, y)] b c w hb (by simp) (fun j hj => by
    obtain rfl : j = 0 := by simpa using hj
    exact ⟨h0, h1⟩)
theorem checkAll_two (x y u v : Int) (b c : Nat) (w : World) (hb : b < w.heap.size) (h0 : w.cell? ⟨b, 0, none⟩ = some (.int .i64 x)) (h1 : w.cell? ⟨b, 1, none⟩ = some (.int .i64 y)) (h2 : w.cell? ⟨b, 2, none⟩ = some (.int .i64 u)) (h3 : w.cell? ⟨b, 3, none⟩ = some (.int .i64 v)) :
    Calls Try.prog 83 #[.slice (some ⟨b, 0, none⟩) 2 c] w fun e w' => e = .returned (.int .i64 (M.chk [(x, y), (u, v)])) ∧ Below w.heap.size w w' :=
  checkAll_any [(x, y), (u, v)] b c w hb (by simp) (fun j hj => by
    have hj' : j < 2 := hj
    match j, hj' with
    | 0, _ => exact ⟨h0, h1⟩
    | 1, _ => exact ⟨h2, h3⟩)
theorem checkAll_three (x y u v p q : Int) (b c : Nat) (w : World) (hb : b < w.heap.size) (h0 : w.cell? ⟨b, 0, none⟩ = some (.int .i64 x)) (h1 : w.cell? ⟨b, 1, none⟩ = some (.int .i64 y)) (h2 : w.cell? ⟨b, 2, none⟩ = some (.int .i64 u)) (h3 : w.cell? ⟨b, 3, none⟩ = some (.int .i64 v))
    (h4 : w.cell? ⟨b, 4, none⟩ = some (.int .i64 p)) (h5 : w.cell? ⟨b, 5, none⟩ = some (.int .i64 q)) :
    Calls Try.prog 83 #[.slice (some ⟨b, 0, none⟩) 3 c] w fun e w' => e = .returned (.int .i64 (M.chk [(x, y), (u, v), (p, q)])) ∧ Below w.heap.size w w' :=
  checkAll_any [(x, y), (u, v), (p, q)] b c w hb (by simp) (fun j hj => by
    have hj' : j < 3 := hj
    match j, hj' with
    | 0, _ => exact ⟨h0, h1⟩
    | 1, _ => exact ⟨h2, h3⟩
    | 2, _ => exact ⟨h4, h5⟩)
theorem checkAll_four (x y u v p q r s : Int) (b c : Nat) (w : World) (hb : b < w.heap.size) (h0 : w.cell? ⟨b, 0, none⟩ = some (.int .i64 x)) (h1 : w.cell? ⟨b, 1, none⟩ = some (.int .i64 y)) (h2 : w.cell? ⟨b, 2, none⟩ = some (.int .i64 u)) (h3 : w.cell? ⟨b, 3, none⟩ = some (.int .i64 v))
    (h4 : w.cell? ⟨b, 4, none⟩ = some (.int .i64 p)) (h5 : w.cell? ⟨b, 5, none⟩ = some (.int .i64 q)) (h6 : w.cell? ⟨b, 6, none⟩ = some (.int .i64 r)) (h7 : w.cell? ⟨b, 7, none⟩ = some (.int .i64 s)) :
    Calls Try.prog 83 #[.slice (some ⟨b, 0, none⟩) 4 c] w fun e w' => e = .returned (.int .i64 (M.chk [(x, y), (u, v), (p, q), (r, s)])) ∧ Below w.heap.size w w' :=
  checkAll_any [(x, y), (u, v), (p, q), (r, s)] b c w hb (by simp) (fun j hj => by
    have hj' : j < 4 := hj
    match j, hj' with
    | 0, _ => exact ⟨h0, h1⟩
    | 1, _ => exact ⟨h2, h3⟩
    | 2, _ => exact ⟨h4, h5⟩
    | 3, _ => exact ⟨h6, h7⟩)

theorem Check_any (x y : Int) (w : World) :
    Calls Try.prog 48 #[.agg #[.int .i64 x, .int .i64 y]] w fun e w' => e = .returned (.int .i64 (M.chk [(x, y)])) ∧ Below w.heap.size w w' := by
  go_enter Try.func48, Try.ntmps48
  go_wp2_with (go_at_call 83; refine (checkAll_one x y _ _ _ (by go_size) (by go_cell) (by go_cell)).mono ?_; rintro e w1 ⟨rfl, hb1⟩; obtain ⟨hB1, hz1, hc1, hf1⟩ := grow4 (w := w) (by go_grown) hb1; (try simp only [World.size_alloc, World.size_setCell, World.size_drew] at hz1); (try have hy1 := Nat.lt_of_succ_le hz1); (try have hx1 := Nat.lt_of_succ_lt hy1); (try have hw1 := Nat.lt_of_succ_lt hx1); (try have hv1 := Nat.lt_of_succ_lt hw1); (try have ha1 : w.heap.size < w1.heap.size := (by omega)); (try have hi1 : w.heap.size + 1 < w1.heap.size := (by omega)); (try have hj1 : w.heap.size + 1 + 1 < w1.heap.size := (by omega)); (try have hk1 : w.heap.size + 1 + 1 + 1 < w1.heap.size := (by omega)); (try have hl1 : w.heap.size + 1 + 1 + 1 + 1 < w1.heap.size := (by omega)))
  go_returns
  exact ⟨rfl, hB1⟩

/-- What 'CheckDisc' answers. -/
def chkDisc (x y r : Int) : Int := if r < 1 ∨ 65536 < r then 2 else M.chk [(x, y)]
theorem CheckDisc_any (x y r : Int) (w : World) :
    Calls Try.prog 64 #[.agg #[.int .i64 x, .int .i64 y, .int .i64 r]] w fun e w' => e = .returned (.int .i64 (chkDisc x y r)) ∧ Below w.heap.size w w' := by
  unfold chkDisc
  by_cases h : r < 1 ∨ 65536 < r
  · rw [if_pos h]
    by_cases h1 : r < 1
    all_goals
      go_enter Try.func64, Try.ntmps64
      go_wp2_with fail
      all_goals first | (exfalso; omega) | (go_returns; exact ⟨rfl, by go_grown⟩)
  · rw [if_neg h]
    have h1 : 1 ≤ r := by omega
    have h2 : r ≤ 65536 := by omega
    clear h
    go_enter Try.func64, Try.ntmps64
    go_wp2_with (go_at_call 83; refine (checkAll_one x y _ _ _ (by go_size) (by go_cell) (by go_cell)).mono ?_; rintro e w1 ⟨rfl, hb1⟩; obtain ⟨hB1, hz1, hc1, hf1⟩ := grow4 (w := w) (by go_grown) hb1; (try simp only [World.size_alloc, World.size_setCell, World.size_drew] at hz1); (try have hy1 := Nat.lt_of_succ_le hz1); (try have hx1 := Nat.lt_of_succ_lt hy1); (try have hw1 := Nat.lt_of_succ_lt hx1); (try have hv1 := Nat.lt_of_succ_lt hw1); (try have ha1 : w.heap.size < w1.heap.size := (by omega)); (try have hi1 : w.heap.size + 1 < w1.heap.size := (by omega)); (try have hj1 : w.heap.size + 1 + 1 < w1.heap.size := (by omega)); (try have hk1 : w.heap.size + 1 + 1 + 1 < w1.heap.size := (by omega)); (try have hl1 : w.heap.size + 1 + 1 + 1 + 1 < w1.heap.size := (by omega)))
    go_returns
    exact ⟨rfl, hB1⟩
end Go.Proofs.Ytlgabdamgalngaa
