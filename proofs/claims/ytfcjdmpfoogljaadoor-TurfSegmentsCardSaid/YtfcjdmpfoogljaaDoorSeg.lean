/-
  Contracts of layer 1: segments.
-/
import Derived.Test.YtfcjdmpfoogljaaDoorMathB
import Derived.Test.YtfcjdmpfoogljaaDoorB
import Derived.Test.YtfcjdmpfoogljaaDoorD
import Derived.Test.YtfcjdmpfoogljaaDoorWide
set_option linter.unusedVariables false
set_option linter.unusedSimpArgs false
namespace Go.Proofs.YtfcjdmpfoogljaaDoor
open Go.ChangeShapes Go.WideShapes Go.ChangeAt Go.RowKit

theorem sq_call (x y u v : Int) (w : World) (h1 : M.In x y) (h2 : M.In u v) :
    Calls Tryd.prog 54 #[.agg #[.int .i64 x, .int .i64 y], .agg #[.int .i64 u, .int .i64 v]] w fun e w' => e = .returned (.int .i64 (M.sq x y u v)) ∧ Below w.heap.size w w' := by
  unfold M.In at h1 h2
  exact square_any x y u v w (by omega) (by omega) (by omega) (by omega) (by omega) (by omega) (by omega) (by omega)
theorem left_call (x y u v p q : Int) (w : World) (h1 : M.In x y) (h2 : M.In u v) (h3 : M.In p q) :
    Calls Tryd.prog 58 #[.agg #[.int .i64 x, .int .i64 y], .agg #[.int .i64 u, .int .i64 v], .agg #[.int .i64 p, .int .i64 q]] w fun e w' => e = .returned (.int .i64 (M.left x y u v p q)) ∧ Below w.heap.size w w' := by
  unfold M.In at h1 h2 h3
  exact leftOf_any x y u v p q w (by omega) (by omega) (by omega) (by omega) (by omega) (by omega) (by omega) (by omega) (by omega) (by omega) (by omega) (by omega)
theorem ahead_call (x y u v p q : Int) (w : World) (h1 : M.In x y) (h2 : M.In u v) (h3 : M.In p q) :
    Calls Tryd.prog 78 #[.agg #[.int .i64 x, .int .i64 y], .agg #[.int .i64 u, .int .i64 v], .agg #[.int .i64 p, .int .i64 q]] w fun e w' => e = .returned (.int .i64 (M.ahead x y u v p q)) ∧ Below w.heap.size w w' := by
  unfold M.In at h1 h2 h3
  exact aheadOf_any x y u v p q w (by omega) (by omega) (by omega) (by omega) (by omega) (by omega) (by omega) (by omega) (by omega) (by omega) (by omega) (by omega)

/-- The three ways of 'lies'. -/
def liesPost (x y u v p q : Int) (w : World) : Prop := True
set_option maxHeartbeats 2000000 in
theorem lies_any (x y u v p q r : Int) (w : World) (h1 : M.In x y) (h2 : M.In u v) (h3 : M.In p q) (r1 : 0 ≤ r) (r2 : r ≤ 8388608) :
    Calls Tryd.prog 61 #[.agg #[.int .i64 x, .int .i64 y], .agg #[.int .i64 u, .int .i64 v], .agg #[.int .i64 p, .int .i64 q], .int .i64 r] w fun e w' => e = .returned (.int .i64 (M.liesV x y u v p q r)) ∧ Below w.heap.size w w' := by
  obtain ⟨s1, s2⟩ := M.sq_bd h1 h2
  obtain ⟨a1, a2⟩ := M.ahead_bd h1 h2 h3
  obtain ⟨l1, l2⟩ := M.left_bd h1 h2 h3
  obtain ⟨m1, m2⟩ := M.mul_range r r 8388608 8388608 (by omega) (by omega) (by omega) (by omega)
  have H1 := Lib.hid h1
  have H2 := Lib.hid h2
  have H3 := Lib.hid h3
  clear h1 h2 h3
  unfold M.liesV
  by_cases c1 : M.ahead x y u v p q ≤ 0
  · rw [if_pos c1]
    go_enter Tryd.func61, Tryd.ntmps61
    go_wp2
    refine R.region_grow [.val (.agg #[.int .i64 x, .int .i64 y]), .val (.agg #[.int .i64 u, .int .i64 v]), .val (.int .i64 (M.sq x y u v)), .val (.agg #[.int .i64 x, .int .i64 y]), .val (.agg #[.int .i64 u, .int .i64 v]), .val (.agg #[.int .i64 p, .int .i64 q]), .val (.int .i64 (M.ahead x y u v p q)), .val (.int .i64 (M.sq x y u v)), .val (.int .i64 (M.ahead x y u v p q))] (by kernel_rfl) (by kernel_rfl) (by kernel_rfl) (by kernel_rfl) ?_ ?_
    · refine ⟨?_, ?_, ?_, ?_, ?_, ?_, ?_, ?_, ?_, trivial⟩
      · intro act wx KK E hk hK
        have e4 := E 4 _ rfl
        obtain ⟨hc, hf⟩ := hk.cells rfl
        try simp only [World.size_drew] at hc hf
        go_simp
        exact hK _ (Below.refl _ _)
      · intro act wx KK E hk hK
        have e5 := E 5 _ rfl
        obtain ⟨hc, hf⟩ := hk.cells rfl
        try simp only [World.size_drew] at hc hf
        go_simp
        exact hK _ (Below.refl _ _)
      · intro act wx KK E hk hK
        have e12 := E 12 _ rfl
        have e13 := E 13 _ rfl
        go_simp
        refine (sq_call _ _ _ _ _ H1.out H2.out).mono ?_
        rintro e w' ⟨rfl, hb⟩
        exact hK _ hb
      · intro act wx KK E hk hK
        have e4 := E 4 _ rfl
        obtain ⟨hc, hf⟩ := hk.cells rfl
        try simp only [World.size_drew] at hc hf
        go_simp
        exact hK _ (Below.refl _ _)
      · intro act wx KK E hk hK
        have e5 := E 5 _ rfl
        obtain ⟨hc, hf⟩ := hk.cells rfl
        try simp only [World.size_drew] at hc hf
        go_simp
        exact hK _ (Below.refl _ _)
      · intro act wx KK E hk hK
        have e6 := E 6 _ rfl
        obtain ⟨hc, hf⟩ := hk.cells rfl
        try simp only [World.size_drew] at hc hf
        go_simp
        exact hK _ (Below.refl _ _)
      · intro act wx KK E hk hK
        have e15 := E 15 _ rfl
        have e16 := E 16 _ rfl
        have e17 := E 17 _ rfl
        go_simp
        refine (ahead_call _ _ _ _ _ _ _ H1.out H2.out H3.out).mono ?_
        rintro e w' ⟨rfl, hb⟩
        exact hK _ hb
      · intro act wx KK E hk hK
        have e14 := E 14 _ rfl
        go_simp
        exact hK _ (Below.refl _ _)
      · intro act wx KK E hk hK
        have e18 := E 18 _ rfl
        go_simp
        exact hK _ (Below.refl _ _)
    intro β1 w1 F
    simp only [R.finAct, R.Item.value, Act.put, List.getElem?_toArray, List.getElem?_cons_zero, List.getElem?_cons_succ, List.size_toArray, List.length_cons, List.length_nil, Nat.reduceAdd, List.setIfInBounds_toArray, List.set_cons_zero, List.set_cons_succ]
    have hB1 := stepB (w := w) (by go_grown) (F.kept.below rfl)
    obtain ⟨hc1, hf1⟩ := F.kept.cells rfl
    try simp only [World.size_drew] at hc1 hf1
    have hz1 := F.kept.size
    try simp only [World.size_alloc, World.size_setCell, World.size_drew] at hz1
    try have ha1 : w.heap.size < w1.heap.size := (by omega)
    try have hi1 : w.heap.size + 1 < w1.heap.size := (by omega)
    try have hj1 : w.heap.size + 1 + 1 < w1.heap.size := (by omega)
    try have hk1 : w.heap.size + 1 + 1 + 1 < w1.heap.size := (by omega)
    try have hl1 : w.heap.size + 1 + 1 + 1 + 1 < w1.heap.size := (by omega)
    clear F
    go_wp2_with (first | (go_at_call 54; refine (sq_call x y p q _ H1.out H3.out).mono ?_; rintro e w2 ⟨rfl, hb2⟩; obtain ⟨hB2, hz2, hc2, hf2⟩ := grow4 (w := w) (by go_grown) hb2; (try simp only [World.size_alloc, World.size_setCell, World.size_drew] at hz2); (try have hy2 := Nat.lt_of_succ_le hz2); (try have hx2 := Nat.lt_of_succ_lt hy2); (try have hw2 := Nat.lt_of_succ_lt hx2); (try have hv2 := Nat.lt_of_succ_lt hw2); (try have ha2 : w.heap.size < w2.heap.size := (by omega)); (try have hi2 : w.heap.size + 1 < w2.heap.size := (by omega)); (try have hj2 : w.heap.size + 1 + 1 < w2.heap.size := (by omega)); (try have hk2 : w.heap.size + 1 + 1 + 1 < w2.heap.size := (by omega)); (try have hl2 : w.heap.size + 1 + 1 + 1 + 1 < w2.heap.size := (by omega))) | (go_at_call 57; refine (cmp64 _ _ _).mono ?_; rintro e w' ⟨rfl, rfl⟩))
    go_returns
    exact ⟨rfl, hB2⟩
  rw [if_neg c1]
  by_cases c2 : M.sq x y u v ≤ M.ahead x y u v p q
  · rw [if_pos c2]
    go_enter Tryd.func61, Tryd.ntmps61
    go_wp2
    refine R.region_grow [.val (.agg #[.int .i64 x, .int .i64 y]), .val (.agg #[.int .i64 u, .int .i64 v]), .val (.int .i64 (M.sq x y u v)), .val (.agg #[.int .i64 x, .int .i64 y]), .val (.agg #[.int .i64 u, .int .i64 v]), .val (.agg #[.int .i64 p, .int .i64 q]), .val (.int .i64 (M.ahead x y u v p q)), .val (.int .i64 (M.sq x y u v)), .val (.int .i64 (M.ahead x y u v p q))] (by kernel_rfl) (by kernel_rfl) (by kernel_rfl) (by kernel_rfl) ?_ ?_
    · refine ⟨?_, ?_, ?_, ?_, ?_, ?_, ?_, ?_, ?_, trivial⟩
      · intro act wx KK E hk hK
        have e4 := E 4 _ rfl
        obtain ⟨hc, hf⟩ := hk.cells rfl
        try simp only [World.size_drew] at hc hf
        go_simp
        exact hK _ (Below.refl _ _)
      · intro act wx KK E hk hK
        have e5 := E 5 _ rfl
        obtain ⟨hc, hf⟩ := hk.cells rfl
        try simp only [World.size_drew] at hc hf
        go_simp
        exact hK _ (Below.refl _ _)
      · intro act wx KK E hk hK
        have e12 := E 12 _ rfl
        have e13 := E 13 _ rfl
        go_simp
        refine (sq_call _ _ _ _ _ H1.out H2.out).mono ?_
        rintro e w' ⟨rfl, hb⟩
        exact hK _ hb
      · intro act wx KK E hk hK
        have e4 := E 4 _ rfl
        obtain ⟨hc, hf⟩ := hk.cells rfl
        try simp only [World.size_drew] at hc hf
        go_simp
        exact hK _ (Below.refl _ _)
      · intro act wx KK E hk hK
        have e5 := E 5 _ rfl
        obtain ⟨hc, hf⟩ := hk.cells rfl
        try simp only [World.size_drew] at hc hf
        go_simp
        exact hK _ (Below.refl _ _)
      · intro act wx KK E hk hK
        have e6 := E 6 _ rfl
        obtain ⟨hc, hf⟩ := hk.cells rfl
        try simp only [World.size_drew] at hc hf
        go_simp
        exact hK _ (Below.refl _ _)
      · intro act wx KK E hk hK
        have e15 := E 15 _ rfl
        have e16 := E 16 _ rfl
        have e17 := E 17 _ rfl
        go_simp
        refine (ahead_call _ _ _ _ _ _ _ H1.out H2.out H3.out).mono ?_
        rintro e w' ⟨rfl, hb⟩
        exact hK _ hb
      · intro act wx KK E hk hK
        have e14 := E 14 _ rfl
        go_simp
        exact hK _ (Below.refl _ _)
      · intro act wx KK E hk hK
        have e18 := E 18 _ rfl
        go_simp
        exact hK _ (Below.refl _ _)
    intro β1 w1 F
    simp only [R.finAct, R.Item.value, Act.put, List.getElem?_toArray, List.getElem?_cons_zero, List.getElem?_cons_succ, List.size_toArray, List.length_cons, List.length_nil, Nat.reduceAdd, List.setIfInBounds_toArray, List.set_cons_zero, List.set_cons_succ]
    have hB1 := stepB (w := w) (by go_grown) (F.kept.below rfl)
    obtain ⟨hc1, hf1⟩ := F.kept.cells rfl
    try simp only [World.size_drew] at hc1 hf1
    have hz1 := F.kept.size
    try simp only [World.size_alloc, World.size_setCell, World.size_drew] at hz1
    try have ha1 : w.heap.size < w1.heap.size := (by omega)
    try have hi1 : w.heap.size + 1 < w1.heap.size := (by omega)
    try have hj1 : w.heap.size + 1 + 1 < w1.heap.size := (by omega)
    try have hk1 : w.heap.size + 1 + 1 + 1 < w1.heap.size := (by omega)
    try have hl1 : w.heap.size + 1 + 1 + 1 + 1 < w1.heap.size := (by omega)
    clear F
    go_wp2_with (first | (go_at_call 54; refine (sq_call u v p q _ H2.out H3.out).mono ?_; rintro e w2 ⟨rfl, hb2⟩; obtain ⟨hB2, hz2, hc2, hf2⟩ := grow4 (w := w) (by go_grown) hb2; (try simp only [World.size_alloc, World.size_setCell, World.size_drew] at hz2); (try have hy2 := Nat.lt_of_succ_le hz2); (try have hx2 := Nat.lt_of_succ_lt hy2); (try have hw2 := Nat.lt_of_succ_lt hx2); (try have hv2 := Nat.lt_of_succ_lt hw2); (try have ha2 : w.heap.size < w2.heap.size := (by omega)); (try have hi2 : w.heap.size + 1 < w2.heap.size := (by omega)); (try have hj2 : w.heap.size + 1 + 1 < w2.heap.size := (by omega)); (try have hk2 : w.heap.size + 1 + 1 + 1 < w2.heap.size := (by omega)); (try have hl2 : w.heap.size + 1 + 1 + 1 + 1 < w2.heap.size := (by omega))) | (go_at_call 57; refine (cmp64 _ _ _).mono ?_; rintro e w' ⟨rfl, rfl⟩))
    go_returns
    exact ⟨rfl, hB2⟩
  rw [if_neg c2]
  by_cases c3 : M.left x y u v p q < 0
  · rw [← M.neg_sq (M.left x y u v p q)]
    go_enter Tryd.func61, Tryd.ntmps61
    go_wp2
    refine R.region_grow [.val (.agg #[.int .i64 x, .int .i64 y]), .val (.agg #[.int .i64 u, .int .i64 v]), .val (.int .i64 (M.sq x y u v)), .val (.agg #[.int .i64 x, .int .i64 y]), .val (.agg #[.int .i64 u, .int .i64 v]), .val (.agg #[.int .i64 p, .int .i64 q]), .val (.int .i64 (M.ahead x y u v p q)), .val (.int .i64 (M.sq x y u v)), .val (.int .i64 (M.ahead x y u v p q))] (by kernel_rfl) (by kernel_rfl) (by kernel_rfl) (by kernel_rfl) ?_ ?_
    · refine ⟨?_, ?_, ?_, ?_, ?_, ?_, ?_, ?_, ?_, trivial⟩
      · intro act wx KK E hk hK
        have e4 := E 4 _ rfl
        obtain ⟨hc, hf⟩ := hk.cells rfl
        try simp only [World.size_drew] at hc hf
        go_simp
        exact hK _ (Below.refl _ _)
      · intro act wx KK E hk hK
        have e5 := E 5 _ rfl
        obtain ⟨hc, hf⟩ := hk.cells rfl
        try simp only [World.size_drew] at hc hf
        go_simp
        exact hK _ (Below.refl _ _)
      · intro act wx KK E hk hK
        have e12 := E 12 _ rfl
        have e13 := E 13 _ rfl
        go_simp
        refine (sq_call _ _ _ _ _ H1.out H2.out).mono ?_
        rintro e w' ⟨rfl, hb⟩
        exact hK _ hb
      · intro act wx KK E hk hK
        have e4 := E 4 _ rfl
        obtain ⟨hc, hf⟩ := hk.cells rfl
        try simp only [World.size_drew] at hc hf
        go_simp
        exact hK _ (Below.refl _ _)
      · intro act wx KK E hk hK
        have e5 := E 5 _ rfl
        obtain ⟨hc, hf⟩ := hk.cells rfl
        try simp only [World.size_drew] at hc hf
        go_simp
        exact hK _ (Below.refl _ _)
      · intro act wx KK E hk hK
        have e6 := E 6 _ rfl
        obtain ⟨hc, hf⟩ := hk.cells rfl
        try simp only [World.size_drew] at hc hf
        go_simp
        exact hK _ (Below.refl _ _)
      · intro act wx KK E hk hK
        have e15 := E 15 _ rfl
        have e16 := E 16 _ rfl
        have e17 := E 17 _ rfl
        go_simp
        refine (ahead_call _ _ _ _ _ _ _ H1.out H2.out H3.out).mono ?_
        rintro e w' ⟨rfl, hb⟩
        exact hK _ hb
      · intro act wx KK E hk hK
        have e14 := E 14 _ rfl
        go_simp
        exact hK _ (Below.refl _ _)
      · intro act wx KK E hk hK
        have e18 := E 18 _ rfl
        go_simp
        exact hK _ (Below.refl _ _)
    intro β1 w1 F
    simp only [R.finAct, R.Item.value, Act.put, List.getElem?_toArray, List.getElem?_cons_zero, List.getElem?_cons_succ, List.size_toArray, List.length_cons, List.length_nil, Nat.reduceAdd, List.setIfInBounds_toArray, List.set_cons_zero, List.set_cons_succ]
    have hB1 := stepB (w := w) (by go_grown) (F.kept.below rfl)
    obtain ⟨hc1, hf1⟩ := F.kept.cells rfl
    try simp only [World.size_drew] at hc1 hf1
    have hz1 := F.kept.size
    try simp only [World.size_alloc, World.size_setCell, World.size_drew] at hz1
    try have ha1 : w.heap.size < w1.heap.size := (by omega)
    try have hi1 : w.heap.size + 1 < w1.heap.size := (by omega)
    try have hj1 : w.heap.size + 1 + 1 < w1.heap.size := (by omega)
    try have hk1 : w.heap.size + 1 + 1 + 1 < w1.heap.size := (by omega)
    try have hl1 : w.heap.size + 1 + 1 + 1 + 1 < w1.heap.size := (by omega)
    clear F
    go_wp2_with (first | (go_at_call 58; refine (left_call x y u v p q _ H1.out H2.out H3.out).mono ?_; rintro e w2 ⟨rfl, hb2⟩; obtain ⟨hB2, hz2, hc2, hf2⟩ := grow4 (w := w) (by go_grown) hb2; (try simp only [World.size_alloc, World.size_setCell, World.size_drew] at hz2); (try have hy2 := Nat.lt_of_succ_le hz2); (try have hx2 := Nat.lt_of_succ_lt hy2); (try have hw2 := Nat.lt_of_succ_lt hx2); (try have hv2 := Nat.lt_of_succ_lt hw2); (try have ha2 : w.heap.size < w2.heap.size := (by omega)); (try have hi2 : w.heap.size + 1 < w2.heap.size := (by omega)); (try have hj2 : w.heap.size + 1 + 1 < w2.heap.size := (by omega)); (try have hk2 : w.heap.size + 1 + 1 + 1 < w2.heap.size := (by omega)); (try have hl2 : w.heap.size + 1 + 1 + 1 + 1 < w2.heap.size := (by omega))) | (go_at_call 51; refine (product_any _ _ _ (by omega) (by omega) (by omega) (by omega)).mono ?_; rintro e w3 ⟨rfl, hb3⟩; obtain ⟨hB3, hz3, hc3, hf3⟩ := grow4 (w := w) (by go_grown) hb3; (try simp only [World.size_alloc, World.size_setCell, World.size_drew] at hz3); (try have hy3 := Nat.lt_of_succ_le hz3); (try have hx3 := Nat.lt_of_succ_lt hy3); (try have hw3 := Nat.lt_of_succ_lt hx3); (try have hv3 := Nat.lt_of_succ_lt hw3); (try have ha3 : w.heap.size < w3.heap.size := (by omega)); (try have hi3 : w.heap.size + 1 < w3.heap.size := (by omega)); (try have hj3 : w.heap.size + 1 + 1 < w3.heap.size := (by omega)); (try have hk3 : w.heap.size + 1 + 1 + 1 < w3.heap.size := (by omega)); (try have hl3 : w.heap.size + 1 + 1 + 1 + 1 < w3.heap.size := (by omega))) | (go_at_call 50; refine (compareWide_any _ _ _).mono ?_; rintro e w4 ⟨rfl, hb4⟩; obtain ⟨hB4, hz4, hc4, hf4⟩ := grow4 (w := w) (by go_grown) hb4; (try simp only [World.size_alloc, World.size_setCell, World.size_drew] at hz4); (try have hy4 := Nat.lt_of_succ_le hz4); (try have hx4 := Nat.lt_of_succ_lt hy4); (try have hw4 := Nat.lt_of_succ_lt hx4); (try have hv4 := Nat.lt_of_succ_lt hw4); (try have ha4 : w.heap.size < w4.heap.size := (by omega)); (try have hi4 : w.heap.size + 1 < w4.heap.size := (by omega)); (try have hj4 : w.heap.size + 1 + 1 < w4.heap.size := (by omega)); (try have hk4 : w.heap.size + 1 + 1 + 1 < w4.heap.size := (by omega)); (try have hl4 : w.heap.size + 1 + 1 + 1 + 1 < w4.heap.size := (by omega))))
    go_returns
    exact ⟨rfl, hB4⟩
  · go_enter Tryd.func61, Tryd.ntmps61
    go_wp2
    refine R.region_grow [.val (.agg #[.int .i64 x, .int .i64 y]), .val (.agg #[.int .i64 u, .int .i64 v]), .val (.int .i64 (M.sq x y u v)), .val (.agg #[.int .i64 x, .int .i64 y]), .val (.agg #[.int .i64 u, .int .i64 v]), .val (.agg #[.int .i64 p, .int .i64 q]), .val (.int .i64 (M.ahead x y u v p q)), .val (.int .i64 (M.sq x y u v)), .val (.int .i64 (M.ahead x y u v p q))] (by kernel_rfl) (by kernel_rfl) (by kernel_rfl) (by kernel_rfl) ?_ ?_
    · refine ⟨?_, ?_, ?_, ?_, ?_, ?_, ?_, ?_, ?_, trivial⟩
      · intro act wx KK E hk hK
        have e4 := E 4 _ rfl
        obtain ⟨hc, hf⟩ := hk.cells rfl
        try simp only [World.size_drew] at hc hf
        go_simp
        exact hK _ (Below.refl _ _)
      · intro act wx KK E hk hK
        have e5 := E 5 _ rfl
        obtain ⟨hc, hf⟩ := hk.cells rfl
        try simp only [World.size_drew] at hc hf
        go_simp
        exact hK _ (Below.refl _ _)
      · intro act wx KK E hk hK
        have e12 := E 12 _ rfl
        have e13 := E 13 _ rfl
        go_simp
        refine (sq_call _ _ _ _ _ H1.out H2.out).mono ?_
        rintro e w' ⟨rfl, hb⟩
        exact hK _ hb
      · intro act wx KK E hk hK
        have e4 := E 4 _ rfl
        obtain ⟨hc, hf⟩ := hk.cells rfl
        try simp only [World.size_drew] at hc hf
        go_simp
        exact hK _ (Below.refl _ _)
      · intro act wx KK E hk hK
        have e5 := E 5 _ rfl
        obtain ⟨hc, hf⟩ := hk.cells rfl
        try simp only [World.size_drew] at hc hf
        go_simp
        exact hK _ (Below.refl _ _)
      · intro act wx KK E hk hK
        have e6 := E 6 _ rfl
        obtain ⟨hc, hf⟩ := hk.cells rfl
        try simp only [World.size_drew] at hc hf
        go_simp
        exact hK _ (Below.refl _ _)
      · intro act wx KK E hk hK
        have e15 := E 15 _ rfl
        have e16 := E 16 _ rfl
        have e17 := E 17 _ rfl
        go_simp
        refine (ahead_call _ _ _ _ _ _ _ H1.out H2.out H3.out).mono ?_
        rintro e w' ⟨rfl, hb⟩
        exact hK _ hb
      · intro act wx KK E hk hK
        have e14 := E 14 _ rfl
        go_simp
        exact hK _ (Below.refl _ _)
      · intro act wx KK E hk hK
        have e18 := E 18 _ rfl
        go_simp
        exact hK _ (Below.refl _ _)
    intro β1 w1 F
    simp only [R.finAct, R.Item.value, Act.put, List.getElem?_toArray, List.getElem?_cons_zero, List.getElem?_cons_succ, List.size_toArray, List.length_cons, List.length_nil, Nat.reduceAdd, List.setIfInBounds_toArray, List.set_cons_zero, List.set_cons_succ]
    have hB1 := stepB (w := w) (by go_grown) (F.kept.below rfl)
    obtain ⟨hc1, hf1⟩ := F.kept.cells rfl
    try simp only [World.size_drew] at hc1 hf1
    have hz1 := F.kept.size
    try simp only [World.size_alloc, World.size_setCell, World.size_drew] at hz1
    try have ha1 : w.heap.size < w1.heap.size := (by omega)
    try have hi1 : w.heap.size + 1 < w1.heap.size := (by omega)
    try have hj1 : w.heap.size + 1 + 1 < w1.heap.size := (by omega)
    try have hk1 : w.heap.size + 1 + 1 + 1 < w1.heap.size := (by omega)
    try have hl1 : w.heap.size + 1 + 1 + 1 + 1 < w1.heap.size := (by omega)
    clear F
    go_wp2_with (first | (go_at_call 58; refine (left_call x y u v p q _ H1.out H2.out H3.out).mono ?_; rintro e w2 ⟨rfl, hb2⟩; obtain ⟨hB2, hz2, hc2, hf2⟩ := grow4 (w := w) (by go_grown) hb2; (try simp only [World.size_alloc, World.size_setCell, World.size_drew] at hz2); (try have hy2 := Nat.lt_of_succ_le hz2); (try have hx2 := Nat.lt_of_succ_lt hy2); (try have hw2 := Nat.lt_of_succ_lt hx2); (try have hv2 := Nat.lt_of_succ_lt hw2); (try have ha2 : w.heap.size < w2.heap.size := (by omega)); (try have hi2 : w.heap.size + 1 < w2.heap.size := (by omega)); (try have hj2 : w.heap.size + 1 + 1 < w2.heap.size := (by omega)); (try have hk2 : w.heap.size + 1 + 1 + 1 < w2.heap.size := (by omega)); (try have hl2 : w.heap.size + 1 + 1 + 1 + 1 < w2.heap.size := (by omega))) | (go_at_call 51; refine (product_any _ _ _ (by omega) (by omega) (by omega) (by omega)).mono ?_; rintro e w3 ⟨rfl, hb3⟩; obtain ⟨hB3, hz3, hc3, hf3⟩ := grow4 (w := w) (by go_grown) hb3; (try simp only [World.size_alloc, World.size_setCell, World.size_drew] at hz3); (try have hy3 := Nat.lt_of_succ_le hz3); (try have hx3 := Nat.lt_of_succ_lt hy3); (try have hw3 := Nat.lt_of_succ_lt hx3); (try have hv3 := Nat.lt_of_succ_lt hw3); (try have ha3 : w.heap.size < w3.heap.size := (by omega)); (try have hi3 : w.heap.size + 1 < w3.heap.size := (by omega)); (try have hj3 : w.heap.size + 1 + 1 < w3.heap.size := (by omega)); (try have hk3 : w.heap.size + 1 + 1 + 1 < w3.heap.size := (by omega)); (try have hl3 : w.heap.size + 1 + 1 + 1 + 1 < w3.heap.size := (by omega))) | (go_at_call 50; refine (compareWide_any _ _ _).mono ?_; rintro e w4 ⟨rfl, hb4⟩; obtain ⟨hB4, hz4, hc4, hf4⟩ := grow4 (w := w) (by go_grown) hb4; (try simp only [World.size_alloc, World.size_setCell, World.size_drew] at hz4); (try have hy4 := Nat.lt_of_succ_le hz4); (try have hx4 := Nat.lt_of_succ_lt hy4); (try have hw4 := Nat.lt_of_succ_lt hx4); (try have hv4 := Nat.lt_of_succ_lt hw4); (try have ha4 : w.heap.size < w4.heap.size := (by omega)); (try have hi4 : w.heap.size + 1 < w4.heap.size := (by omega)); (try have hj4 : w.heap.size + 1 + 1 < w4.heap.size := (by omega)); (try have hk4 : w.heap.size + 1 + 1 + 1 < w4.heap.size := (by omega)); (try have hl4 : w.heap.size + 1 + 1 + 1 + 1 < w4.heap.size := (by omega))))
    go_returns
    exact ⟨rfl, hB4⟩
end Go.Proofs.YtfcjdmpfoogljaaDoor
