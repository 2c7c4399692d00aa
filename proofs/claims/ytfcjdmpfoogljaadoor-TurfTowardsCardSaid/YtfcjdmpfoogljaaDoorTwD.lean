/-
  TurfTowards: two places with one first coordinate, the law's length kept (its walk).
-/
import Derived.Test.YtfcjdmpfoogljaaDoorTowAll
import Derived.Test.YtfcjdmpfoogljaaDoorTowsM
import Derived.Test.YtfcjdmpfoogljaaDoorKitB
import Derived.Test.YtfcjdmpfoogljaaDoorFine
set_option linter.unusedVariables false
set_option linter.unusedSimpArgs false
namespace Go.Proofs.YtfcjdmpfoogljaaDoor
open Go.ChangeShapes Go.WideShapes Go.ChangeAt Go.RowKit

set_option maxRecDepth 100000 in
set_option maxHeartbeats 8000000 in
theorem tw_small0 (s0 s1 t0 t1 m l P0 P1 Q1 x0 x1 far S : Int) (w : World) (ht : Tab w) (l1 : 0 ≤ l) (l2 : l ≤ 4294967295)
    (AT1 : ∀ w : World, Calls Tryd.prog 42 #[.agg #[.int .i16 s0, .int .i16 s1], .int .u8 m] w fun e w' => e = .returned (.agg #[.int .i64 P0, .int .i64 P1]) ∧ Below w.heap.size w w')
    (AT2 : ∀ w : World, Calls Tryd.prog 42 #[.agg #[.int .i16 t0, .int .i16 t1], .int .u8 m] w fun e w' => e = .returned (.agg #[.int .i64 P0, .int .i64 Q1]) ∧ Below w.heap.size w w')
    (TW : ∀ w : World, Calls Tryd.prog 40 #[.agg #[.int .i64 P0, .int .i64 P1], .agg #[.int .i64 P0, .int .i64 Q1], .int .i64 (l % 2097152)] w fun e w' => e = .returned (.tuple #[.agg #[.int .i64 x0, .int .i64 x1], .int .i64 0]) ∧ Below w.heap.size w w')
    (hne : ¬ P1 = Q1)
    (SQ : ∀ w : World, Calls Tryd.prog 20 #[.agg #[.int .i64 P0, .int .i64 P1], .agg #[.int .i64 P0, .int .i64 Q1]] w fun e w' => e = .returned (.tuple #[.int .i64 far, .int .i64 0]) ∧ Below w.heap.size w w') (f1 : 0 ≤ far) (f2 : far ≤ 140737488355328)
    (h256 : (l % 2097152) * (l % 2097152) ≤ 256 * far)
    (SX : ∀ w : World, Calls Tryd.prog 20 #[.agg #[.int .i64 x0, .int .i64 x1], .agg #[.int .i64 P0, .int .i64 Q1]] w fun e w' => e = .returned (.tuple #[.int .i64 S, .int .i64 0]) ∧ Below w.heap.size w w')
    (b1 : max 0 (l % 2097152 - 2) * max 0 (l % 2097152 - 2) ≤ S) (b2 : S ≤ (l % 2097152 + 2) * (l % 2097152 + 2))
    (b4 : l % 2097152 < 4)
 :
    Calls Tryd.prog 12 #[.agg #[.int .i16 s0, .int .i16 s1], .agg #[.int .i16 t0, .int .i16 t1], .int .u8 m, .int .u32 l] w fun e w' => e = .returned (.bool true) ∧ Below w.heap.size w w' := by
  have hz := ht.size
  have HT := Lib.hid ht
  clear ht
  replace AT1 := Lib.hid AT1
  replace AT2 := Lib.hid AT2
  replace TW := Lib.hid TW
  replace SQ := Lib.hid SQ
  replace SX := Lib.hid SX
  replace h256 := Lib.hid h256
  replace b1 := Lib.hid b1
  replace b2 := Lib.hid b2
  replace b4 := Lib.hid b4
  go_enter Tryd.func12, Tryd.ntmps12
  go_wp2
  refine R.region_grow [.val (.agg #[.int .i16 s0, .int .i16 s1]), .val (.int .u8 m), .val (.agg #[.int .i64 P0, .int .i64 P1]), .val (.agg #[.int .i16 t0, .int .i16 t1]), .val (.int .u8 m), .val (.agg #[.int .i64 P0, .int .i64 Q1]), .new 34 #[.int .i64 0, .int .i64 0], .new 34 #[.int .i64 0, .int .i64 0], .put 6 #[.int .i64 P0, .int .i64 P1], .put 7 #[.int .i64 P0, .int .i64 Q1]] (by kernel_rfl) (by kernel_rfl) (by kernel_rfl) (by kernel_rfl) ?_ ?_
  · refine ⟨?_, ?_, ?_, ?_, ?_, ?_, ?_, ?_, ?_, ?_, trivial⟩
    · intro act wx KK E hk hK
      have e4 := E 4 _ rfl
      obtain ⟨hc, hf⟩ := hk.cells rfl
      try simp only [World.size_drew] at hc hf
      go_simp
      exact hK _ (Below.refl _ _)
    · intro act wx KK E hk hK
      have e2 := E 2 _ rfl
      go_simp
      exact hK _ (Below.refl _ _)
    · intro act wx KK E hk hK
      have e18 := E 18 _ rfl
      have e19 := E 19 _ rfl
      go_simp
      refine (AT1.out _).mono ?_
      rintro e w' ⟨rfl, hb⟩
      exact hK _ hb
    · intro act wx KK E hk hK
      have e5 := E 5 _ rfl
      obtain ⟨hc, hf⟩ := hk.cells rfl
      try simp only [World.size_drew] at hc hf
      go_simp
      exact hK _ (Below.refl _ _)
    · intro act wx KK E hk hK
      have e2 := E 2 _ rfl
      go_simp
      exact hK _ (Below.refl _ _)
    · intro act wx KK E hk hK
      have e21 := E 21 _ rfl
      have e22 := E 22 _ rfl
      go_simp
      refine (AT2.out _).mono ?_
      rintro e w' ⟨rfl, hb⟩
      exact hK _ hb
    · intro act wx KK hK
      go_simp
      exact hK
    · intro act wx KK hK
      go_simp
      exact hK
    · intro TT zz hT act wx KK bb cs0 dd E hk hd hb hh hsz hK
      cases hT
      obtain ⟨c0, c1, rfl⟩ := R.of_size2 hsz
      cases hd
      have e20 := E 20 _ rfl
      have kc0 := R.cell_blk hh 0
      have kf0 := R.free_blk hh 0
      have kc1 := R.cell_blk hh 1
      have kf1 := R.free_blk hh 1
      have hK' := hK _ (R.rewrites2 hh)
      clear hK
      go_simp
      exact hK'
    · intro TT zz hT act wx KK bb cs0 dd E hk hd hb hh hsz hK
      cases hT
      obtain ⟨c0, c1, rfl⟩ := R.of_size2 hsz
      cases hd
      have e23 := E 23 _ rfl
      have kc0 := R.cell_blk hh 0
      have kf0 := R.free_blk hh 0
      have kc1 := R.cell_blk hh 1
      have kf1 := R.free_blk hh 1
      have hK' := hK _ (R.rewrites2 hh)
      clear hK
      go_simp
      exact hK'
  intro β1 w1 F
  simp only [R.finAct, R.Item.value, Act.put, List.getElem?_toArray, List.getElem?_cons_zero, List.getElem?_cons_succ, List.size_toArray, List.length_cons, List.length_nil, Nat.reduceAdd, List.setIfInBounds_toArray, List.set_cons_zero, List.set_cons_succ]
  have hB1 := stepB (w := w) (by go_grown) (F.kept.below rfl)
  obtain ⟨hc1, hf1⟩ := F.kept.cells rfl
  try simp only [World.size_drew] at hc1 hf1
  have hz1 := F.kept.size
  try simp only [World.size_alloc, World.size_setCell, World.size_drew] at hz1
  try have ha1 : w.heap.size < w1.heap.size := (by omega)
  try have hi1 : w.heap.size + 1 < w1.heap.size := (by omega)
  try have hj1 : w.heap.size + 1 + 1 < w1.heap.size := (by omega)
  try have hk1 : w.heap.size + 1 + 1 + 1 < w1.heap.size := (by omega)
  try have hl1 : w.heap.size + 1 + 1 + 1 + 1 < w1.heap.size := (by omega)
  obtain ⟨n6a1, n6b1, _⟩ := F.news 6 _ _ rfl
  obtain ⟨n7a1, n7b1, _⟩ := F.news 7 _ _ rfl
  have p81 := F.puts 8 6 _ _ _ rfl rfl
  have q8_01 := R.cell_blk p81 0
  have f8_01 := R.free_blk p81 0
  have q8_11 := R.cell_blk p81 1
  have f8_11 := R.free_blk p81 1
  replace p81 := Lib.hid p81
  have p91 := F.puts 9 7 _ _ _ rfl rfl
  have q9_01 := R.cell_blk p91 0
  have f9_01 := R.free_blk p91 0
  have q9_11 := R.cell_blk p91 1
  have f9_11 := R.free_blk p91 1
  replace p91 := Lib.hid p91
  have d6_71 := F.apart 6 7 _ _ _ _ rfl rfl (by omega)
  clear F
  generalize β1 6 = B6 at *
  generalize β1 7 = B7 at *
  go_wp2_with fail
  (go_at_call 40; refine (TW.out _).mono ?_; rintro e w2 ⟨rfl, hb2⟩; obtain ⟨hB2, hz2, hc2, hf2⟩ := grow4 (w := w) (by go_grown) hb2; (try simp only [World.size_alloc, World.size_setCell, World.size_drew] at hz2); (try have hy2 := Nat.lt_of_succ_le hz2); (try have hx2 := Nat.lt_of_succ_lt hy2); (try have hw2 := Nat.lt_of_succ_lt hx2); (try have hv2 := Nat.lt_of_succ_lt hw2); (try have ha2 : w.heap.size < w2.heap.size := (by omega)); (try have hi2 : w.heap.size + 1 < w2.heap.size := (by omega)); (try have hj2 : w.heap.size + 1 + 1 < w2.heap.size := (by omega)); (try have hk2 : w.heap.size + 1 + 1 + 1 < w2.heap.size := (by omega)); (try have hl2 : w.heap.size + 1 + 1 + 1 + 1 < w2.heap.size := (by omega)))
  have L6 := Nat.lt_of_lt_of_le n6b1 hz2
  have L7 := Nat.lt_of_lt_of_le n7b1 hz2
  have N1 : 0 ≤ l % 2097152 ∧ l % 2097152 < 2097152 := by omega
  generalize l % 2097152 = N at *
  obtain ⟨N1, N2⟩ := N1
  obtain ⟨n1, n2⟩ := M.mul_range N N 2097152 2097152 N1 (by omega) N1 (by omega)
  replace h256 := h256.out
  replace b1 := b1.out
  replace b2 := b2.out
  replace b4 := b4.out
  go_wp2_with fail
  (go_at_call 20; refine (SQ.out _).mono ?_; rintro e w3 ⟨rfl, hb3⟩; obtain ⟨hB3, hz3, hc3, hf3⟩ := grow4 (w := w) (by go_grown) hb3; (try simp only [World.size_alloc, World.size_setCell, World.size_drew] at hz3); (try have hy3 := Nat.lt_of_succ_le hz3); (try have hx3 := Nat.lt_of_succ_lt hy3); (try have hw3 := Nat.lt_of_succ_lt hx3); (try have hv3 := Nat.lt_of_succ_lt hw3); (try have ha3 : w.heap.size < w3.heap.size := (by omega)); (try have hi3 : w.heap.size + 1 < w3.heap.size := (by omega)); (try have hj3 : w.heap.size + 1 + 1 < w3.heap.size := (by omega)); (try have hk3 : w.heap.size + 1 + 1 + 1 < w3.heap.size := (by omega)); (try have hl3 : w.heap.size + 1 + 1 + 1 + 1 < w3.heap.size := (by omega)))
  have L63 : B6 < w3.heap.size := by omega
  have L73 : B7 < w3.heap.size := by omega
  have L23 : w2.heap.size < w3.heap.size := by omega
  obtain ⟨m1, m2⟩ := M.mul_range (N + 2) (N + 2) 2097154 2097154 (by omega) (by omega) (by omega) (by omega)
  obtain ⟨m3, m4⟩ := M.mul_range (max 0 (N - 2)) (max 0 (N - 2)) 2097152 2097152 (by omega) (by omega) (by omega) (by omega)
  go_wp2_with fail
  (go_at_call 20; refine (SX.out _).mono ?_; rintro e w4 ⟨rfl, hb4⟩; obtain ⟨hB4, hz4, hc4, hf4⟩ := grow4 (w := w) (by go_grown) hb4; (try simp only [World.size_alloc, World.size_setCell, World.size_drew] at hz4); (try have hy4 := Nat.lt_of_succ_le hz4); (try have hx4 := Nat.lt_of_succ_lt hy4); (try have hw4 := Nat.lt_of_succ_lt hx4); (try have hv4 := Nat.lt_of_succ_lt hw4); (try have ha4 : w.heap.size < w4.heap.size := (by omega)); (try have hi4 : w.heap.size + 1 < w4.heap.size := (by omega)); (try have hj4 : w.heap.size + 1 + 1 < w4.heap.size := (by omega)); (try have hk4 : w.heap.size + 1 + 1 + 1 < w4.heap.size := (by omega)); (try have hl4 : w.heap.size + 1 + 1 + 1 + 1 < w4.heap.size := (by omega)))
  have L64 : B6 < w4.heap.size := by omega
  have L74 : B7 < w4.heap.size := by omega
  have L24 : w2.heap.size < w4.heap.size := by omega
  go_wp2_with fail
  (go_at_call 19; refine (fine_any _ (HT.out.below (by (first | assumption | go_grown) : Below w.heap.size w _) hz)).mono ?_; rintro e w5 ⟨rfl, hb5⟩; obtain ⟨hB5, hz5, hc5, hf5⟩ := grow4 (w := w) (by go_grown) hb5; (try simp only [World.size_alloc, World.size_setCell, World.size_drew] at hz5); (try have hy5 := Nat.lt_of_succ_le hz5); (try have hx5 := Nat.lt_of_succ_lt hy5); (try have hw5 := Nat.lt_of_succ_lt hx5); (try have hv5 := Nat.lt_of_succ_lt hw5); (try have ha5 : w.heap.size < w5.heap.size := (by omega)); (try have hi5 : w.heap.size + 1 < w5.heap.size := (by omega)); (try have hj5 : w.heap.size + 1 + 1 < w5.heap.size := (by omega)); (try have hk5 : w.heap.size + 1 + 1 + 1 < w5.heap.size := (by omega)); (try have hl5 : w.heap.size + 1 + 1 + 1 + 1 < w5.heap.size := (by omega)))
  go_wp2_with fail
  go_returns
  exact ⟨rfl, hB5⟩
set_option maxRecDepth 100000 in
set_option maxHeartbeats 8000000 in
theorem tw_large0 (s0 s1 t0 t1 m l P0 P1 Q1 x0 x1 far S : Int) (w : World) (ht : Tab w) (l1 : 0 ≤ l) (l2 : l ≤ 4294967295)
    (AT1 : ∀ w : World, Calls Tryd.prog 42 #[.agg #[.int .i16 s0, .int .i16 s1], .int .u8 m] w fun e w' => e = .returned (.agg #[.int .i64 P0, .int .i64 P1]) ∧ Below w.heap.size w w')
    (AT2 : ∀ w : World, Calls Tryd.prog 42 #[.agg #[.int .i16 t0, .int .i16 t1], .int .u8 m] w fun e w' => e = .returned (.agg #[.int .i64 P0, .int .i64 Q1]) ∧ Below w.heap.size w w')
    (TW : ∀ w : World, Calls Tryd.prog 40 #[.agg #[.int .i64 P0, .int .i64 P1], .agg #[.int .i64 P0, .int .i64 Q1], .int .i64 (l % 2097152)] w fun e w' => e = .returned (.tuple #[.agg #[.int .i64 x0, .int .i64 x1], .int .i64 0]) ∧ Below w.heap.size w w')
    (hne : ¬ P1 = Q1)
    (SQ : ∀ w : World, Calls Tryd.prog 20 #[.agg #[.int .i64 P0, .int .i64 P1], .agg #[.int .i64 P0, .int .i64 Q1]] w fun e w' => e = .returned (.tuple #[.int .i64 far, .int .i64 0]) ∧ Below w.heap.size w w') (f1 : 0 ≤ far) (f2 : far ≤ 140737488355328)
    (h256 : (l % 2097152) * (l % 2097152) ≤ 256 * far)
    (SX : ∀ w : World, Calls Tryd.prog 20 #[.agg #[.int .i64 x0, .int .i64 x1], .agg #[.int .i64 P0, .int .i64 Q1]] w fun e w' => e = .returned (.tuple #[.int .i64 S, .int .i64 0]) ∧ Below w.heap.size w w')
    (b1 : max 0 (l % 2097152 - 2) * max 0 (l % 2097152 - 2) ≤ S) (b2 : S ≤ (l % 2097152 + 2) * (l % 2097152 + 2))
    (b4 : 4 ≤ l % 2097152) (b3 : 0 < (x1 - Q1) * (P1 - Q1))
    (i1 : M.In P0 P1) (i2 : M.In P0 Q1) (i3 : M.In x0 x1)
 :
    Calls Tryd.prog 12 #[.agg #[.int .i16 s0, .int .i16 s1], .agg #[.int .i16 t0, .int .i16 t1], .int .u8 m, .int .u32 l] w fun e w' => e = .returned (.bool true) ∧ Below w.heap.size w w' := by
  have hz := ht.size
  have HT := Lib.hid ht
  clear ht
  replace AT1 := Lib.hid AT1
  replace AT2 := Lib.hid AT2
  replace TW := Lib.hid TW
  replace SQ := Lib.hid SQ
  replace SX := Lib.hid SX
  have I := Lib.hid (And.intro i1 (And.intro i2 i3))
  clear i1 i2 i3
  replace h256 := Lib.hid h256
  replace b1 := Lib.hid b1
  replace b2 := Lib.hid b2
  replace b3 := Lib.hid b3
  replace b4 := Lib.hid b4
  go_enter Tryd.func12, Tryd.ntmps12
  go_wp2
  refine R.region_grow [.val (.agg #[.int .i16 s0, .int .i16 s1]), .val (.int .u8 m), .val (.agg #[.int .i64 P0, .int .i64 P1]), .val (.agg #[.int .i16 t0, .int .i16 t1]), .val (.int .u8 m), .val (.agg #[.int .i64 P0, .int .i64 Q1]), .new 34 #[.int .i64 0, .int .i64 0], .new 34 #[.int .i64 0, .int .i64 0], .put 6 #[.int .i64 P0, .int .i64 P1], .put 7 #[.int .i64 P0, .int .i64 Q1]] (by kernel_rfl) (by kernel_rfl) (by kernel_rfl) (by kernel_rfl) ?_ ?_
  · refine ⟨?_, ?_, ?_, ?_, ?_, ?_, ?_, ?_, ?_, ?_, trivial⟩
    · intro act wx KK E hk hK
      have e4 := E 4 _ rfl
      obtain ⟨hc, hf⟩ := hk.cells rfl
      try simp only [World.size_drew] at hc hf
      go_simp
      exact hK _ (Below.refl _ _)
    · intro act wx KK E hk hK
      have e2 := E 2 _ rfl
      go_simp
      exact hK _ (Below.refl _ _)
    · intro act wx KK E hk hK
      have e18 := E 18 _ rfl
      have e19 := E 19 _ rfl
      go_simp
      refine (AT1.out _).mono ?_
      rintro e w' ⟨rfl, hb⟩
      exact hK _ hb
    · intro act wx KK E hk hK
      have e5 := E 5 _ rfl
      obtain ⟨hc, hf⟩ := hk.cells rfl
      try simp only [World.size_drew] at hc hf
      go_simp
      exact hK _ (Below.refl _ _)
    · intro act wx KK E hk hK
      have e2 := E 2 _ rfl
      go_simp
      exact hK _ (Below.refl _ _)
    · intro act wx KK E hk hK
      have e21 := E 21 _ rfl
      have e22 := E 22 _ rfl
      go_simp
      refine (AT2.out _).mono ?_
      rintro e w' ⟨rfl, hb⟩
      exact hK _ hb
    · intro act wx KK hK
      go_simp
      exact hK
    · intro act wx KK hK
      go_simp
      exact hK
    · intro TT zz hT act wx KK bb cs0 dd E hk hd hb hh hsz hK
      cases hT
      obtain ⟨c0, c1, rfl⟩ := R.of_size2 hsz
      cases hd
      have e20 := E 20 _ rfl
      have kc0 := R.cell_blk hh 0
      have kf0 := R.free_blk hh 0
      have kc1 := R.cell_blk hh 1
      have kf1 := R.free_blk hh 1
      have hK' := hK _ (R.rewrites2 hh)
      clear hK
      go_simp
      exact hK'
    · intro TT zz hT act wx KK bb cs0 dd E hk hd hb hh hsz hK
      cases hT
      obtain ⟨c0, c1, rfl⟩ := R.of_size2 hsz
      cases hd
      have e23 := E 23 _ rfl
      have kc0 := R.cell_blk hh 0
      have kf0 := R.free_blk hh 0
      have kc1 := R.cell_blk hh 1
      have kf1 := R.free_blk hh 1
      have hK' := hK _ (R.rewrites2 hh)
      clear hK
      go_simp
      exact hK'
  intro β1 w1 F
  simp only [R.finAct, R.Item.value, Act.put, List.getElem?_toArray, List.getElem?_cons_zero, List.getElem?_cons_succ, List.size_toArray, List.length_cons, List.length_nil, Nat.reduceAdd, List.setIfInBounds_toArray, List.set_cons_zero, List.set_cons_succ]
  have hB1 := stepB (w := w) (by go_grown) (F.kept.below rfl)
  obtain ⟨hc1, hf1⟩ := F.kept.cells rfl
  try simp only [World.size_drew] at hc1 hf1
  have hz1 := F.kept.size
  try simp only [World.size_alloc, World.size_setCell, World.size_drew] at hz1
  try have ha1 : w.heap.size < w1.heap.size := (by omega)
  try have hi1 : w.heap.size + 1 < w1.heap.size := (by omega)
  try have hj1 : w.heap.size + 1 + 1 < w1.heap.size := (by omega)
  try have hk1 : w.heap.size + 1 + 1 + 1 < w1.heap.size := (by omega)
  try have hl1 : w.heap.size + 1 + 1 + 1 + 1 < w1.heap.size := (by omega)
  obtain ⟨n6a1, n6b1, _⟩ := F.news 6 _ _ rfl
  obtain ⟨n7a1, n7b1, _⟩ := F.news 7 _ _ rfl
  have p81 := F.puts 8 6 _ _ _ rfl rfl
  have q8_01 := R.cell_blk p81 0
  have f8_01 := R.free_blk p81 0
  have q8_11 := R.cell_blk p81 1
  have f8_11 := R.free_blk p81 1
  replace p81 := Lib.hid p81
  have p91 := F.puts 9 7 _ _ _ rfl rfl
  have q9_01 := R.cell_blk p91 0
  have f9_01 := R.free_blk p91 0
  have q9_11 := R.cell_blk p91 1
  have f9_11 := R.free_blk p91 1
  replace p91 := Lib.hid p91
  have d6_71 := F.apart 6 7 _ _ _ _ rfl rfl (by omega)
  clear F
  generalize β1 6 = B6 at *
  generalize β1 7 = B7 at *
  go_wp2_with fail
  (go_at_call 40; refine (TW.out _).mono ?_; rintro e w2 ⟨rfl, hb2⟩; obtain ⟨hB2, hz2, hc2, hf2⟩ := grow4 (w := w) (by go_grown) hb2; (try simp only [World.size_alloc, World.size_setCell, World.size_drew] at hz2); (try have hy2 := Nat.lt_of_succ_le hz2); (try have hx2 := Nat.lt_of_succ_lt hy2); (try have hw2 := Nat.lt_of_succ_lt hx2); (try have hv2 := Nat.lt_of_succ_lt hw2); (try have ha2 : w.heap.size < w2.heap.size := (by omega)); (try have hi2 : w.heap.size + 1 < w2.heap.size := (by omega)); (try have hj2 : w.heap.size + 1 + 1 < w2.heap.size := (by omega)); (try have hk2 : w.heap.size + 1 + 1 + 1 < w2.heap.size := (by omega)); (try have hl2 : w.heap.size + 1 + 1 + 1 + 1 < w2.heap.size := (by omega)))
  have L6 := Nat.lt_of_lt_of_le n6b1 hz2
  have L7 := Nat.lt_of_lt_of_le n7b1 hz2
  have N1 : 0 ≤ l % 2097152 ∧ l % 2097152 < 2097152 := by omega
  generalize l % 2097152 = N at *
  obtain ⟨N1, N2⟩ := N1
  obtain ⟨n1, n2⟩ := M.mul_range N N 2097152 2097152 N1 (by omega) N1 (by omega)
  replace h256 := h256.out
  replace b1 := b1.out
  replace b2 := b2.out
  replace b3 := b3.out
  replace b4 := b4.out
  go_wp2_with fail
  (go_at_call 20; refine (SQ.out _).mono ?_; rintro e w3 ⟨rfl, hb3⟩; obtain ⟨hB3, hz3, hc3, hf3⟩ := grow4 (w := w) (by go_grown) hb3; (try simp only [World.size_alloc, World.size_setCell, World.size_drew] at hz3); (try have hy3 := Nat.lt_of_succ_le hz3); (try have hx3 := Nat.lt_of_succ_lt hy3); (try have hw3 := Nat.lt_of_succ_lt hx3); (try have hv3 := Nat.lt_of_succ_lt hw3); (try have ha3 : w.heap.size < w3.heap.size := (by omega)); (try have hi3 : w.heap.size + 1 < w3.heap.size := (by omega)); (try have hj3 : w.heap.size + 1 + 1 < w3.heap.size := (by omega)); (try have hk3 : w.heap.size + 1 + 1 + 1 < w3.heap.size := (by omega)); (try have hl3 : w.heap.size + 1 + 1 + 1 + 1 < w3.heap.size := (by omega)))
  have L63 : B6 < w3.heap.size := by omega
  have L73 : B7 < w3.heap.size := by omega
  have L23 : w2.heap.size < w3.heap.size := by omega
  obtain ⟨m1, m2⟩ := M.mul_range (N + 2) (N + 2) 2097154 2097154 (by omega) (by omega) (by omega) (by omega)
  obtain ⟨m3, m4⟩ := M.mul_range (max 0 (N - 2)) (max 0 (N - 2)) 2097152 2097152 (by omega) (by omega) (by omega) (by omega)
  obtain ⟨⟨⟨a1, a2⟩, ⟨a3, a4⟩⟩, ⟨⟨a5, a6⟩, ⟨a7, a8⟩⟩, ⟨⟨a9, c1⟩, ⟨c2, c3⟩⟩⟩ := I.out
  obtain ⟨d3, d4⟩ := M.mul_bd (x1 - Q1) (P1 - Q1) 8388608 8388608 (by omega) (by omega) (by omega) (by omega)
  go_wp2_with fail
  (go_at_call 20; refine (SX.out _).mono ?_; rintro e w4 ⟨rfl, hb4⟩; obtain ⟨hB4, hz4, hc4, hf4⟩ := grow4 (w := w) (by go_grown) hb4; (try simp only [World.size_alloc, World.size_setCell, World.size_drew] at hz4); (try have hy4 := Nat.lt_of_succ_le hz4); (try have hx4 := Nat.lt_of_succ_lt hy4); (try have hw4 := Nat.lt_of_succ_lt hx4); (try have hv4 := Nat.lt_of_succ_lt hw4); (try have ha4 : w.heap.size < w4.heap.size := (by omega)); (try have hi4 : w.heap.size + 1 < w4.heap.size := (by omega)); (try have hj4 : w.heap.size + 1 + 1 < w4.heap.size := (by omega)); (try have hk4 : w.heap.size + 1 + 1 + 1 < w4.heap.size := (by omega)); (try have hl4 : w.heap.size + 1 + 1 + 1 + 1 < w4.heap.size := (by omega)))
  have L64 : B6 < w4.heap.size := by omega
  have L74 : B7 < w4.heap.size := by omega
  have L24 : w2.heap.size < w4.heap.size := by omega
  go_wp2_with fail
  (go_at_call 19; refine (fine_any _ (HT.out.below (by (first | assumption | go_grown) : Below w.heap.size w _) hz)).mono ?_; rintro e w5 ⟨rfl, hb5⟩; obtain ⟨hB5, hz5, hc5, hf5⟩ := grow4 (w := w) (by go_grown) hb5; (try simp only [World.size_alloc, World.size_setCell, World.size_drew] at hz5); (try have hy5 := Nat.lt_of_succ_le hz5); (try have hx5 := Nat.lt_of_succ_lt hy5); (try have hw5 := Nat.lt_of_succ_lt hx5); (try have hv5 := Nat.lt_of_succ_lt hw5); (try have ha5 : w.heap.size < w5.heap.size := (by omega)); (try have hi5 : w.heap.size + 1 < w5.heap.size := (by omega)); (try have hj5 : w.heap.size + 1 + 1 < w5.heap.size := (by omega)); (try have hk5 : w.heap.size + 1 + 1 + 1 < w5.heap.size := (by omega)); (try have hl5 : w.heap.size + 1 + 1 + 1 + 1 < w5.heap.size := (by omega)))
  go_wp2_with fail
  go_returns
  exact ⟨rfl, hB5⟩
end Go.Proofs.YtfcjdmpfoogljaaDoor
