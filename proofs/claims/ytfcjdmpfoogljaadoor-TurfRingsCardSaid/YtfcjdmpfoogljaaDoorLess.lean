/-
  Contracts of layer 1: shares of a segment are compared.
-/
import Derived.Test.YtfcjdmpfoogljaaDoorWide
import Derived.Test.YtfcjdmpfoogljaaDoorGrow
set_option linter.unusedVariables false
set_option linter.unusedSimpArgs false
namespace Go.Proofs.YtfcjdmpfoogljaaDoor
open Go.ChangeShapes Go.WideShapes Go.ChangeAt Go.RowKit

theorem cmp_decide (x y : Int) : decide (M.cmp x y < 0) = decide (x < y) := by
  rcases Int.lt_trichotomy x y with h | h | h
  · rw [M.cmp_lt h]; simp [h]
  · subst h; rw [M.cmp_eq]; simp
  · rw [M.cmp_gt h]; simp; omega
set_option maxRecDepth 100000 in
set_option maxHeartbeats 4000000 in
theorem shareLess_any (a b c d : Int) (w : World) (a1 : 0 ≤ a) (a2 : a ≤ 4611686018427387904) (b1 : 0 ≤ b) (b2 : b ≤ 4611686018427387904) (c1 : 0 ≤ c) (c2 : c ≤ 4611686018427387904) (d1 : 0 ≤ d) (d2 : d ≤ 4611686018427387904) :
    Calls Tryd.prog 81 #[.agg #[.int .i64 a, .int .i64 b], .agg #[.int .i64 c, .int .i64 d]] w fun e w' => e = .returned (.bool (decide (a * d < c * b))) ∧ Below w.heap.size w w' := by
  rw [← cmp_decide]
  have P1 := Lib.hid (fun w => product_any a d w a1 a2 d1 d2)
  have P2 := Lib.hid (fun w => product_any c b w c1 c2 b1 b2)
  go_enter Tryd.func81, Tryd.ntmps81
  go_wp2
  refine R.region_grow [.val (.pointer (some ⟨w.heap.size, 0, none⟩)), .val (.int .i64 a), .val (.pointer (some ⟨w.heap.size + 1, 1, none⟩)), .val (.int .i64 d), .val (.agg #[.int .u64 (M.hi (a * d)), .int .u64 (M.lo (a * d))]), .val (.pointer (some ⟨w.heap.size + 1, 0, none⟩)), .val (.int .i64 c), .val (.pointer (some ⟨w.heap.size, 1, none⟩)), .val (.int .i64 b), .val (.agg #[.int .u64 (M.hi (c * b)), .int .u64 (M.lo (c * b))]), .val (.int .i64 (M.cmp (a * d) (c * b))), .val (.bool (decide (M.cmp (a * d) (c * b) < 0))), .val (.bool (decide (M.cmp (a * d) (c * b) < 0)))] (by kernel_rfl) (by kernel_rfl) (by kernel_rfl) (by kernel_rfl) ?_ ?_
  · refine ⟨?_, ?_, ?_, ?_, ?_, ?_, ?_, ?_, ?_, ?_, ?_, ?_, ?_, trivial⟩
    · intro act wx KK E hk hK
      have e2 := E 2 _ rfl
      go_simp
      exact hK _ (Below.refl _ _)
    · intro act wx KK E hk hK
      have e5 := E 5 _ rfl
      obtain ⟨hc, hf⟩ := hk.cells rfl
      try simp only [World.size_drew] at hc hf
      go_simp
      exact hK _ (Below.refl _ _)
    · intro act wx KK E hk hK
      have e3 := E 3 _ rfl
      go_simp
      exact hK _ (Below.refl _ _)
    · intro act wx KK E hk hK
      have e7 := E 7 _ rfl
      obtain ⟨hc, hf⟩ := hk.cells rfl
      try simp only [World.size_drew] at hc hf
      go_simp
      exact hK _ (Below.refl _ _)
    · intro act wx KK E hk hK
      have e6 := E 6 _ rfl
      have e8 := E 8 _ rfl
      go_simp
      refine (P1.out _).mono ?_
      rintro e w' ⟨rfl, hb⟩
      exact hK _ hb
    · intro act wx KK E hk hK
      have e3 := E 3 _ rfl
      go_simp
      exact hK _ (Below.refl _ _)
    · intro act wx KK E hk hK
      have e10 := E 10 _ rfl
      obtain ⟨hc, hf⟩ := hk.cells rfl
      try simp only [World.size_drew] at hc hf
      go_simp
      exact hK _ (Below.refl _ _)
    · intro act wx KK E hk hK
      have e2 := E 2 _ rfl
      go_simp
      exact hK _ (Below.refl _ _)
    · intro act wx KK E hk hK
      have e12 := E 12 _ rfl
      obtain ⟨hc, hf⟩ := hk.cells rfl
      try simp only [World.size_drew] at hc hf
      go_simp
      exact hK _ (Below.refl _ _)
    · intro act wx KK E hk hK
      have e11 := E 11 _ rfl
      have e13 := E 13 _ rfl
      go_simp
      refine (P2.out _).mono ?_
      rintro e w' ⟨rfl, hb⟩
      exact hK _ hb
    · intro act wx KK E hk hK
      have e9 := E 9 _ rfl
      have e14 := E 14 _ rfl
      go_simp
      refine (compareWide_any _ _ _).mono ?_
      rintro e w' ⟨rfl, hb⟩
      exact hK _ hb
    · intro act wx KK E hk hK
      have e15 := E 15 _ rfl
      go_simp
      try go_bits
      first | exact hK _ (Below.refl _ _) | (go_step; exact hK _ (Below.refl _ _)) | (go_step; go_step; exact hK _ (Below.refl _ _))
    · intro act wx KK E hk hK
      have e16 := E 16 _ rfl
      go_simp
      exact hK _ (Below.refl _ _)
  intro β1 w1 F
  simp only [R.finAct, R.Item.value, Act.put, List.getElem?_toArray, List.getElem?_cons_zero, List.getElem?_cons_succ, List.size_toArray, List.length_cons, List.length_nil, Nat.reduceAdd, List.setIfInBounds_toArray, List.set_cons_zero, List.set_cons_succ]
  have hB1 := stepB (w := w) (by go_grown) (F.kept.below rfl)
  obtain ⟨hc1, hf1⟩ := F.kept.cells rfl
  try simp only [World.size_drew] at hc1 hf1
  have hz1 := F.kept.size
  try simp only [World.size_alloc, World.size_setCell, World.size_drew] at hz1
  try have ha1 : w.heap.size < w1.heap.size := (by omega)
  try have hi1 : w.heap.size + 1 < w1.heap.size := (by omega)
  try have hj1 : w.heap.size + 1 + 1 < w1.heap.size := (by omega)
  try have hk1 : w.heap.size + 1 + 1 + 1 < w1.heap.size := (by omega)
  try have hl1 : w.heap.size + 1 + 1 + 1 + 1 < w1.heap.size := (by omega)
  clear F
  go_wp2
  go_returns
  exact ⟨rfl, hB1⟩
end Go.Proofs.YtfcjdmpfoogljaaDoor
