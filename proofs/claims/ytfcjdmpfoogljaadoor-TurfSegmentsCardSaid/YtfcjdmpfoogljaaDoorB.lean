/-
  Contracts of the geometry of layer 1: how far a place is to the left, and ahead.
-/
import Derived.Test.YtfcjdmpfoogljaaDoorA
import Derived.Test.YtfcjdmpfoogljaaDoorGrow
set_option linter.unusedVariables false
set_option linter.unusedSimpArgs false
namespace Go.Proofs.YtfcjdmpfoogljaaDoor
open Go.ChangeShapes Go.WideShapes Go.ChangeAt Go.RowKit

set_option maxHeartbeats 1000000 in
theorem leftOf_any (x y u v p q : Int) (w : World) (hx : -16777216 ≤ x) (hx2 : x ≤ 16777216) (hy : -16777216 ≤ y) (hy2 : y ≤ 16777216) (hu : -16777216 ≤ u) (hu2 : u ≤ 16777216) (hv : -16777216 ≤ v) (hv2 : v ≤ 16777216)
    (hp : -16777216 ≤ p) (hp2 : p ≤ 16777216) (hq : -16777216 ≤ q) (hq2 : q ≤ 16777216) :
    Calls Tryd.prog 58 #[.agg #[.int .i64 x, .int .i64 y], .agg #[.int .i64 u, .int .i64 v], .agg #[.int .i64 p, .int .i64 q]] w fun e w' => e = .returned (.int .i64 (M.left x y u v p q)) ∧ Below w.heap.size w w' := by
  obtain ⟨b1, b2⟩ := M.mul_bd (u - x) (q - y) 33554432 33554432 (by omega) (by omega) (by omega) (by omega)
  obtain ⟨b3, b4⟩ := M.mul_bd (v - y) (p - x) 33554432 33554432 (by omega) (by omega) (by omega) (by omega)
  unfold M.left
  go_enter Tryd.func58, Tryd.ntmps58
  go_wp2
  refine R.region_grow [.val (.agg #[.int .i64 x, .int .i64 y]), .val (.agg #[.int .i64 u, .int .i64 v]), .val (.agg #[.int .i64 (u - x), .int .i64 (v - y)]), .val (.agg #[.int .i64 x, .int .i64 y]), .val (.agg #[.int .i64 p, .int .i64 q]), .val (.agg #[.int .i64 (p - x), .int .i64 (q - y)]), .new 34 #[.int .i64 0, .int .i64 0], .new 34 #[.int .i64 0, .int .i64 0], .put 6 #[.int .i64 (u - x), .int .i64 (v - y)], .put 7 #[.int .i64 (p - x), .int .i64 (q - y)]] (by kernel_rfl) (by kernel_rfl) (by kernel_rfl) (by kernel_rfl) ?_ ?_
  · refine ⟨?_, ?_, ?_, ?_, ?_, ?_, ?_, ?_, ?_, ?_, trivial⟩
    · intro act wx KK E hk hK
      have e3 := E 3 _ rfl
      obtain ⟨hc, hf⟩ := hk.cells rfl
      try simp only [World.size_drew] at hc hf
      go_simp
      exact hK _ (Below.refl _ _)
    · intro act wx KK E hk hK
      have e4 := E 4 _ rfl
      obtain ⟨hc, hf⟩ := hk.cells rfl
      try simp only [World.size_drew] at hc hf
      go_simp
      exact hK _ (Below.refl _ _)
    · intro act wx KK E hk hK
      have e9 := E 9 _ rfl
      have e10 := E 10 _ rfl
      go_simp
      refine (way_any _ _ _ _ _ (by omega) (by omega) (by omega) (by omega) (by omega) (by omega) (by omega) (by omega)).mono ?_
      rintro e w' ⟨rfl, rfl⟩
      exact hK _ (by go_grown)
    · intro act wx KK E hk hK
      have e3 := E 3 _ rfl
      obtain ⟨hc, hf⟩ := hk.cells rfl
      try simp only [World.size_drew] at hc hf
      go_simp
      exact hK _ (Below.refl _ _)
    · intro act wx KK E hk hK
      have e5 := E 5 _ rfl
      obtain ⟨hc, hf⟩ := hk.cells rfl
      try simp only [World.size_drew] at hc hf
      go_simp
      exact hK _ (Below.refl _ _)
    · intro act wx KK E hk hK
      have e12 := E 12 _ rfl
      have e13 := E 13 _ rfl
      go_simp
      refine (way_any _ _ _ _ _ (by omega) (by omega) (by omega) (by omega) (by omega) (by omega) (by omega) (by omega)).mono ?_
      rintro e w' ⟨rfl, rfl⟩
      exact hK _ (by go_grown)
    · intro act wx KK hK
      go_simp
      exact hK
    · intro act wx KK hK
      go_simp
      exact hK
    · intro TT zz hT act wx KK bb cs0 dd E hk hd hb hh hsz hK
      cases hT
      obtain ⟨c0, c1, rfl⟩ := R.of_size2 hsz
      cases hd
      have e11 := E 11 _ rfl
      have kc0 := R.cell_blk hh 0
      have kf0 := R.free_blk hh 0
      have kc1 := R.cell_blk hh 1
      have kf1 := R.free_blk hh 1
      have hK' := hK _ (R.rewrites2 hh)
      clear hK
      go_simp
      exact hK'
    · intro TT zz hT act wx KK bb cs0 dd E hk hd hb hh hsz hK
      cases hT
      obtain ⟨c0, c1, rfl⟩ := R.of_size2 hsz
      cases hd
      have e14 := E 14 _ rfl
      have kc0 := R.cell_blk hh 0
      have kf0 := R.free_blk hh 0
      have kc1 := R.cell_blk hh 1
      have kf1 := R.free_blk hh 1
      have hK' := hK _ (R.rewrites2 hh)
      clear hK
      go_simp
      exact hK'
  intro β1 w1 F
  simp only [R.finAct, R.Item.value, Act.put, List.getElem?_toArray, List.getElem?_cons_zero, List.getElem?_cons_succ, List.size_toArray, List.length_cons, List.length_nil, Nat.reduceAdd, List.setIfInBounds_toArray, List.set_cons_zero, List.set_cons_succ]
  have hB1 := stepB (w := w) (by go_grown) (F.kept.below rfl)
  obtain ⟨hc1, hf1⟩ := F.kept.cells rfl
  try simp only [World.size_drew] at hc1 hf1
  have hz1 := F.kept.size
  try simp only [World.size_alloc, World.size_setCell, World.size_drew] at hz1
  try have ha1 : w.heap.size < w1.heap.size := (by omega)
  try have hi1 : w.heap.size + 1 < w1.heap.size := (by omega)
  try have hj1 : w.heap.size + 1 + 1 < w1.heap.size := (by omega)
  try have hk1 : w.heap.size + 1 + 1 + 1 < w1.heap.size := (by omega)
  try have hl1 : w.heap.size + 1 + 1 + 1 + 1 < w1.heap.size := (by omega)
  obtain ⟨n6a1, n6b1, _⟩ := F.news 6 _ _ rfl
  obtain ⟨n7a1, n7b1, _⟩ := F.news 7 _ _ rfl
  have p81 := F.puts 8 6 _ _ _ rfl rfl
  have q8_01 := R.cell_blk p81 0
  have f8_01 := R.free_blk p81 0
  have q8_11 := R.cell_blk p81 1
  have f8_11 := R.free_blk p81 1
  replace p81 := Lib.hid p81
  have p91 := F.puts 9 7 _ _ _ rfl rfl
  have q9_01 := R.cell_blk p91 0
  have f9_01 := R.free_blk p91 0
  have q9_11 := R.cell_blk p91 1
  have f9_11 := R.free_blk p91 1
  replace p91 := Lib.hid p91
  have d6_71 := F.apart 6 7 _ _ _ _ rfl rfl (by omega)
  clear F
  go_wp2
  go_returns
  exact ⟨rfl, hB1⟩

set_option maxHeartbeats 1000000 in
theorem aheadOf_any (x y u v p q : Int) (w : World) (hx : -16777216 ≤ x) (hx2 : x ≤ 16777216) (hy : -16777216 ≤ y) (hy2 : y ≤ 16777216) (hu : -16777216 ≤ u) (hu2 : u ≤ 16777216) (hv : -16777216 ≤ v) (hv2 : v ≤ 16777216)
    (hp : -16777216 ≤ p) (hp2 : p ≤ 16777216) (hq : -16777216 ≤ q) (hq2 : q ≤ 16777216) :
    Calls Tryd.prog 78 #[.agg #[.int .i64 x, .int .i64 y], .agg #[.int .i64 u, .int .i64 v], .agg #[.int .i64 p, .int .i64 q]] w fun e w' => e = .returned (.int .i64 (M.ahead x y u v p q)) ∧ Below w.heap.size w w' := by
  obtain ⟨b1, b2⟩ := M.mul_bd (u - x) (p - x) 33554432 33554432 (by omega) (by omega) (by omega) (by omega)
  obtain ⟨b3, b4⟩ := M.mul_bd (v - y) (q - y) 33554432 33554432 (by omega) (by omega) (by omega) (by omega)
  unfold M.ahead
  go_enter Tryd.func78, Tryd.ntmps78
  go_wp2
  refine R.region_grow [.val (.agg #[.int .i64 x, .int .i64 y]), .val (.agg #[.int .i64 u, .int .i64 v]), .val (.agg #[.int .i64 (u - x), .int .i64 (v - y)]), .val (.agg #[.int .i64 x, .int .i64 y]), .val (.agg #[.int .i64 p, .int .i64 q]), .val (.agg #[.int .i64 (p - x), .int .i64 (q - y)]), .new 34 #[.int .i64 0, .int .i64 0], .new 34 #[.int .i64 0, .int .i64 0], .put 6 #[.int .i64 (u - x), .int .i64 (v - y)], .put 7 #[.int .i64 (p - x), .int .i64 (q - y)]] (by kernel_rfl) (by kernel_rfl) (by kernel_rfl) (by kernel_rfl) ?_ ?_
  · refine ⟨?_, ?_, ?_, ?_, ?_, ?_, ?_, ?_, ?_, ?_, trivial⟩
    · intro act wx KK E hk hK
      have e3 := E 3 _ rfl
      obtain ⟨hc, hf⟩ := hk.cells rfl
      try simp only [World.size_drew] at hc hf
      go_simp
      exact hK _ (Below.refl _ _)
    · intro act wx KK E hk hK
      have e4 := E 4 _ rfl
      obtain ⟨hc, hf⟩ := hk.cells rfl
      try simp only [World.size_drew] at hc hf
      go_simp
      exact hK _ (Below.refl _ _)
    · intro act wx KK E hk hK
      have e9 := E 9 _ rfl
      have e10 := E 10 _ rfl
      go_simp
      refine (way_any _ _ _ _ _ (by omega) (by omega) (by omega) (by omega) (by omega) (by omega) (by omega) (by omega)).mono ?_
      rintro e w' ⟨rfl, rfl⟩
      exact hK _ (by go_grown)
    · intro act wx KK E hk hK
      have e3 := E 3 _ rfl
      obtain ⟨hc, hf⟩ := hk.cells rfl
      try simp only [World.size_drew] at hc hf
      go_simp
      exact hK _ (Below.refl _ _)
    · intro act wx KK E hk hK
      have e5 := E 5 _ rfl
      obtain ⟨hc, hf⟩ := hk.cells rfl
      try simp only [World.size_drew] at hc hf
      go_simp
      exact hK _ (Below.refl _ _)
    · intro act wx KK E hk hK
      have e12 := E 12 _ rfl
      have e13 := E 13 _ rfl
      go_simp
      refine (way_any _ _ _ _ _ (by omega) (by omega) (by omega) (by omega) (by omega) (by omega) (by omega) (by omega)).mono ?_
      rintro e w' ⟨rfl, rfl⟩
      exact hK _ (by go_grown)
    · intro act wx KK hK
      go_simp
      exact hK
    · intro act wx KK hK
      go_simp
      exact hK
    · intro TT zz hT act wx KK bb cs0 dd E hk hd hb hh hsz hK
      cases hT
      obtain ⟨c0, c1, rfl⟩ := R.of_size2 hsz
      cases hd
      have e11 := E 11 _ rfl
      have kc0 := R.cell_blk hh 0
      have kf0 := R.free_blk hh 0
      have kc1 := R.cell_blk hh 1
      have kf1 := R.free_blk hh 1
      have hK' := hK _ (R.rewrites2 hh)
      clear hK
      go_simp
      exact hK'
    · intro TT zz hT act wx KK bb cs0 dd E hk hd hb hh hsz hK
      cases hT
      obtain ⟨c0, c1, rfl⟩ := R.of_size2 hsz
      cases hd
      have e14 := E 14 _ rfl
      have kc0 := R.cell_blk hh 0
      have kf0 := R.free_blk hh 0
      have kc1 := R.cell_blk hh 1
      have kf1 := R.free_blk hh 1
      have hK' := hK _ (R.rewrites2 hh)
      clear hK
      go_simp
      exact hK'
  intro β1 w1 F
  simp only [R.finAct, R.Item.value, Act.put, List.getElem?_toArray, List.getElem?_cons_zero, List.getElem?_cons_succ, List.size_toArray, List.length_cons, List.length_nil, Nat.reduceAdd, List.setIfInBounds_toArray, List.set_cons_zero, List.set_cons_succ]
  have hB1 := stepB (w := w) (by go_grown) (F.kept.below rfl)
  obtain ⟨hc1, hf1⟩ := F.kept.cells rfl
  try simp only [World.size_drew] at hc1 hf1
  have hz1 := F.kept.size
  try simp only [World.size_alloc, World.size_setCell, World.size_drew] at hz1
  try have ha1 : w.heap.size < w1.heap.size := (by omega)
  try have hi1 : w.heap.size + 1 < w1.heap.size := (by omega)
  try have hj1 : w.heap.size + 1 + 1 < w1.heap.size := (by omega)
  try have hk1 : w.heap.size + 1 + 1 + 1 < w1.heap.size := (by omega)
  try have hl1 : w.heap.size + 1 + 1 + 1 + 1 < w1.heap.size := (by omega)
  obtain ⟨n6a1, n6b1, _⟩ := F.news 6 _ _ rfl
  obtain ⟨n7a1, n7b1, _⟩ := F.news 7 _ _ rfl
  have p81 := F.puts 8 6 _ _ _ rfl rfl
  have q8_01 := R.cell_blk p81 0
  have f8_01 := R.free_blk p81 0
  have q8_11 := R.cell_blk p81 1
  have f8_11 := R.free_blk p81 1
  replace p81 := Lib.hid p81
  have p91 := F.puts 9 7 _ _ _ rfl rfl
  have q9_01 := R.cell_blk p91 0
  have f9_01 := R.free_blk p91 0
  have q9_11 := R.cell_blk p91 1
  have f9_11 := R.free_blk p91 1
  replace p91 := Lib.hid p91
  have d6_71 := F.apart 6 7 _ _ _ _ rfl rfl (by omega)
  clear F
  go_wp2
  go_returns
  exact ⟨rfl, hB1⟩
end Go.Proofs.YtfcjdmpfoogljaaDoor
