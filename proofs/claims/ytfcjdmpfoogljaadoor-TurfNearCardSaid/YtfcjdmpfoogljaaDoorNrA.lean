/-
  TurfNear: a place nearer than the radius (its walk).
-/
import Derived.Test.YtfcjdmpfoogljaaDoorNearM
import Derived.Test.YtfcjdmpfoogljaaDoorKitC
import Derived.Test.YtfcjdmpfoogljaaDoorFine
import Derived.Test.YtfcjdmpfoogljaaDoorSegs
set_option linter.unusedVariables false
set_option linter.unusedSimpArgs false
namespace Go.Proofs.YtfcjdmpfoogljaaDoor
open Go.ChangeShapes Go.WideShapes Go.ChangeAt Go.RowKit

set_option maxRecDepth 100000 in
set_option maxHeartbeats 12000000 in
theorem nr_lt (s0 s1 t0 t1 u0 u1 m r part b0 b1 A0 A1 B0 B1 C0 C1 h : Int) (w : World) (ht : Tab w) (m1 : 0 ≤ m) (m2 : m ≤ 255) (r1 : 0 ≤ r) (r2 : r ≤ 65535) (p1 : 0 ≤ part) (p2 : part ≤ 255)
    (AT1 : ∀ w : World, Calls Tryd.prog 42 #[.agg #[.int .i16 s0, .int .i16 s1], .int .u8 m] w fun e w' => e = .returned (.agg #[.int .i64 A0, .int .i64 A1]) ∧ Below w.heap.size w w')
    (AT2 : ∀ w : World, Calls Tryd.prog 42 #[.agg #[.int .i16 t0, .int .i16 t1], .int .u8 m] w fun e w' => e = .returned (.agg #[.int .i64 B0, .int .i64 B1]) ∧ Below w.heap.size w w')
    (AT3 : ∀ w : World, Calls Tryd.prog 42 #[.agg #[.int .i16 u0, .int .i16 u1], .int .u8 m] w fun e w' => e = .returned (.agg #[.int .i64 C0, .int .i64 C1]) ∧ Below w.heap.size w w')
    (MV1 : ∀ w : World, Calls Tryd.prog 43 #[.agg #[.int .i64 A0, .int .i64 A1], .agg #[.int .i16 b0, .int .i16 b1]] w fun e w' => e = .returned (.agg #[.int .i64 (A0 + b0), .int .i64 (A1 + b1)]) ∧ Below w.heap.size w w')
    (MV2 : ∀ w : World, Calls Tryd.prog 43 #[.agg #[.int .i64 B0, .int .i64 B1], .agg #[.int .i16 b0, .int .i16 b1]] w fun e w' => e = .returned (.agg #[.int .i64 (B0 + b0), .int .i64 (B1 + b1)]) ∧ Below w.heap.size w w')
    (MV3 : ∀ w : World, Calls Tryd.prog 43 #[.agg #[.int .i64 C0, .int .i64 C1], .agg #[.int .i16 b0, .int .i16 b1]] w fun e w' => e = .returned (.agg #[.int .i64 (C0 + b0), .int .i64 (C1 + b1)]) ∧ Below w.heap.size w w')
    (LI1 : ∀ w : World, Calls Tryd.prog 28 #[.agg #[.int .i64 A0, .int .i64 A1], .agg #[.int .i64 B0, .int .i64 B1], .agg #[.int .i64 C0, .int .i64 C1], .int .i64 (3 * r * (1 + m % 64) / 2)] w fun e w' => e = .returned (.tuple #[.int .i64 h, .int .i64 0]) ∧ Below w.heap.size w w')
    (LI2 : ∀ w : World, Calls Tryd.prog 28 #[.agg #[.int .i64 B0, .int .i64 B1], .agg #[.int .i64 A0, .int .i64 A1], .agg #[.int .i64 C0, .int .i64 C1], .int .i64 (3 * r * (1 + m % 64) / 2)] w fun e w' => e = .returned (.tuple #[.int .i64 h, .int .i64 0]) ∧ Below w.heap.size w w')
    (LI3 : ∀ w : World, Calls Tryd.prog 28 #[.agg #[.int .i64 (A0 + b0), .int .i64 (A1 + b1)], .agg #[.int .i64 (B0 + b0), .int .i64 (B1 + b1)], .agg #[.int .i64 (C0 + b0), .int .i64 (C1 + b1)], .int .i64 (3 * r * (1 + m % 64) / 2)] w fun e w' => e = .returned (.tuple #[.int .i64 h, .int .i64 0]) ∧ Below w.heap.size w w')
    (i1 : M.In A0 A1) (i2 : M.In B0 B1) (i3 : M.In C0 C1)
    (hh : h < 0)
    (c1 : (3 * r * (1 + m % 64) / 2) < 1 ∨ 65536 < (3 * r * (1 + m % 64) / 2))
    :
    Calls Tryd.prog 9 #[.agg #[.int .i16 s0, .int .i16 s1], .agg #[.int .i16 t0, .int .i16 t1], .agg #[.int .i16 u0, .int .i16 u1], .int .u8 m, .int .u16 r, .int .u8 part, .agg #[.int .i16 b0, .int .i16 b1]] w fun e w' => e = .returned (.bool true) ∧ Below w.heap.size w w' := by
  have hz := ht.size
  have HT := Lib.hid ht
  clear ht
  replace AT1 := Lib.hid AT1
  replace AT2 := Lib.hid AT2
  replace AT3 := Lib.hid AT3
  replace MV1 := Lib.hid MV1
  replace MV2 := Lib.hid MV2
  replace MV3 := Lib.hid MV3
  replace LI1 := Lib.hid LI1
  replace LI2 := Lib.hid LI2
  replace LI3 := Lib.hid LI3
  replace hh := Lib.hid hh
  replace c1 := Lib.hid c1
  replace i1 := Lib.hid i1
  replace i2 := Lib.hid i2
  replace i3 := Lib.hid i3
  go_enter Tryd.func9, Tryd.ntmps9
  go_wp2
  refine R.region_grow [.val (.agg #[.int .i16 s0, .int .i16 s1]), .val (.int .u8 m), .val (.agg #[.int .i64 A0, .int .i64 A1]), .val (.agg #[.int .i16 t0, .int .i16 t1]), .val (.int .u8 m), .val (.agg #[.int .i64 B0, .int .i64 B1]), .val (.agg #[.int .i16 u0, .int .i16 u1]), .val (.int .u8 m), .val (.agg #[.int .i64 C0, .int .i64 C1]), .new 34 #[.int .i64 0, .int .i64 0], .new 34 #[.int .i64 0, .int .i64 0], .new 34 #[.int .i64 0, .int .i64 0], .put 9 #[.int .i64 A0, .int .i64 A1], .put 10 #[.int .i64 B0, .int .i64 B1], .put 11 #[.int .i64 C0, .int .i64 C1]] (by kernel_rfl) (by kernel_rfl) (by kernel_rfl) (by kernel_rfl) ?_ ?_
  · refine ⟨?_, ?_, ?_, ?_, ?_, ?_, ?_, ?_, ?_, ?_, ?_, ?_, ?_, ?_, ?_, trivial⟩
    · intro act wx KK E hk hK
      have e7 := E 7 _ rfl
      obtain ⟨hc, hf⟩ := hk.cells rfl
      try simp only [World.size_drew] at hc hf
      go_simp
      exact hK _ (Below.refl _ _)
    · intro act wx KK E hk hK
      have e3 := E 3 _ rfl
      go_simp
      exact hK _ (Below.refl _ _)
    · intro act wx KK E hk hK
      have e29 := E 29 _ rfl
      have e30 := E 30 _ rfl
      go_simp
      refine (AT1.out _).mono ?_
      rintro e w' ⟨rfl, hb⟩
      exact hK _ hb
    · intro act wx KK E hk hK
      have e8 := E 8 _ rfl
      obtain ⟨hc, hf⟩ := hk.cells rfl
      try simp only [World.size_drew] at hc hf
      go_simp
      exact hK _ (Below.refl _ _)
    · intro act wx KK E hk hK
      have e3 := E 3 _ rfl
      go_simp
      exact hK _ (Below.refl _ _)
    · intro act wx KK E hk hK
      have e32 := E 32 _ rfl
      have e33 := E 33 _ rfl
      go_simp
      refine (AT2.out _).mono ?_
      rintro e w' ⟨rfl, hb⟩
      exact hK _ hb
    · intro act wx KK E hk hK
      have e9 := E 9 _ rfl
      obtain ⟨hc, hf⟩ := hk.cells rfl
      try simp only [World.size_drew] at hc hf
      go_simp
      exact hK _ (Below.refl _ _)
    · intro act wx KK E hk hK
      have e3 := E 3 _ rfl
      go_simp
      exact hK _ (Below.refl _ _)
    · intro act wx KK E hk hK
      have e35 := E 35 _ rfl
      have e36 := E 36 _ rfl
      go_simp
      refine (AT3.out _).mono ?_
      rintro e w' ⟨rfl, hb⟩
      exact hK _ hb
    · intro act wx KK hK
      go_simp
      exact hK
    · intro act wx KK hK
      go_simp
      exact hK
    · intro act wx KK hK
      go_simp
      exact hK
    · intro TT zz hT act wx KK bb cs0 dd E hk hd hb hh hsz hK
      cases hT
      obtain ⟨c0, c1, rfl⟩ := R.of_size2 hsz
      cases hd
      have e31 := E 31 _ rfl
      have kc0 := R.cell_blk hh 0
      have kf0 := R.free_blk hh 0
      have kc1 := R.cell_blk hh 1
      have kf1 := R.free_blk hh 1
      have hK' := hK _ (R.rewrites2 hh)
      clear hK
      go_simp
      exact hK'
    · intro TT zz hT act wx KK bb cs0 dd E hk hd hb hh hsz hK
      cases hT
      obtain ⟨c0, c1, rfl⟩ := R.of_size2 hsz
      cases hd
      have e34 := E 34 _ rfl
      have kc0 := R.cell_blk hh 0
      have kf0 := R.free_blk hh 0
      have kc1 := R.cell_blk hh 1
      have kf1 := R.free_blk hh 1
      have hK' := hK _ (R.rewrites2 hh)
      clear hK
      go_simp
      exact hK'
    · intro TT zz hT act wx KK bb cs0 dd E hk hd hb hh hsz hK
      cases hT
      obtain ⟨c0, c1, rfl⟩ := R.of_size2 hsz
      cases hd
      have e37 := E 37 _ rfl
      have kc0 := R.cell_blk hh 0
      have kf0 := R.free_blk hh 0
      have kc1 := R.cell_blk hh 1
      have kf1 := R.free_blk hh 1
      have hK' := hK _ (R.rewrites2 hh)
      clear hK
      go_simp
      exact hK'
  intro β1 w1 F
  simp only [R.finAct, R.Item.value, Act.put, List.getElem?_toArray, List.getElem?_cons_zero, List.getElem?_cons_succ, List.size_toArray, List.length_cons, List.length_nil, Nat.reduceAdd, List.setIfInBounds_toArray, List.set_cons_zero, List.set_cons_succ]
  have hB1 := stepB (w := w) (by go_grown) (F.kept.below rfl)
  obtain ⟨hc1, hf1⟩ := F.kept.cells rfl
  try simp only [World.size_drew] at hc1 hf1
  have hz1 := F.kept.size
  try simp only [World.size_alloc, World.size_setCell, World.size_drew] at hz1
  try have ha1 : w.heap.size < w1.heap.size := (by omega)
  try have hi1 : w.heap.size + 1 < w1.heap.size := (by omega)
  try have hj1 : w.heap.size + 1 + 1 < w1.heap.size := (by omega)
  try have hk1 : w.heap.size + 1 + 1 + 1 < w1.heap.size := (by omega)
  try have hl1 : w.heap.size + 1 + 1 + 1 + 1 < w1.heap.size := (by omega)
  obtain ⟨n9a1, n9b1, _⟩ := F.news 9 _ _ rfl
  obtain ⟨n10a1, n10b1, _⟩ := F.news 10 _ _ rfl
  obtain ⟨n11a1, n11b1, _⟩ := F.news 11 _ _ rfl
  have p121 := F.puts 12 9 _ _ _ rfl rfl
  have q12_01 := R.cell_blk p121 0
  have f12_01 := R.free_blk p121 0
  have q12_11 := R.cell_blk p121 1
  have f12_11 := R.free_blk p121 1
  replace p121 := Lib.hid p121
  have p131 := F.puts 13 10 _ _ _ rfl rfl
  have q13_01 := R.cell_blk p131 0
  have f13_01 := R.free_blk p131 0
  have q13_11 := R.cell_blk p131 1
  have f13_11 := R.free_blk p131 1
  replace p131 := Lib.hid p131
  have p141 := F.puts 14 11 _ _ _ rfl rfl
  have q14_01 := R.cell_blk p141 0
  have f14_01 := R.free_blk p141 0
  have q14_11 := R.cell_blk p141 1
  have f14_11 := R.free_blk p141 1
  replace p141 := Lib.hid p141
  have d9_101 := F.apart 9 10 _ _ _ _ rfl rfl (by omega)
  have d9_111 := F.apart 9 11 _ _ _ _ rfl rfl (by omega)
  have d10_111 := F.apart 10 11 _ _ _ _ rfl rfl (by omega)
  clear F
  generalize β1 9 = BA at *
  generalize β1 10 = BB at *
  generalize β1 11 = BC at *
  have n3 : 0 ≤ 3 * r * (1 + m % 64) ∧ 3 * r * (1 + m % 64) ≤ 196605 * 64 := M.mul_range (3 * r) (1 + m % 64) 196605 64 (by omega) (by omega) (by omega) (by omega)
  go_wp2_with fail
  (go_at_call 28; refine (LI1.out _).mono ?_; rintro e w2 ⟨rfl, hb2⟩; obtain ⟨hB2, hz2, hc2, hf2⟩ := grow4 (w := w) (by go_grown) hb2; (try simp only [World.size_alloc, World.size_setCell, World.size_drew] at hz2); (try have hy2 := Nat.lt_of_succ_le hz2); (try have hx2 := Nat.lt_of_succ_lt hy2); (try have hw2 := Nat.lt_of_succ_lt hx2); (try have hv2 := Nat.lt_of_succ_lt hw2); (try have ha2 : w.heap.size < w2.heap.size := (by omega)); (try have hi2 : w.heap.size + 1 < w2.heap.size := (by omega)); (try have hj2 : w.heap.size + 1 + 1 < w2.heap.size := (by omega)); (try have hk2 : w.heap.size + 1 + 1 + 1 < w2.heap.size := (by omega)); (try have hl2 : w.heap.size + 1 + 1 + 1 + 1 < w2.heap.size := (by omega)))
  have LA := Nat.lt_of_lt_of_le n9b1 hz2
  have LB := Nat.lt_of_lt_of_le n10b1 hz2
  have LC := Nat.lt_of_lt_of_le n11b1 hz2
  have N1 : 0 ≤ 3 * r * (1 + m % 64) / 2 ∧ 3 * r * (1 + m % 64) / 2 ≤ 6291360 := by omega
  have K1 : 0 ≤ part % 16 ∧ part % 16 ≤ 15 := by omega
  generalize 3 * r * (1 + m % 64) / 2 = N at *
  obtain ⟨N1, N2⟩ := N1
  go_wp2_with fail
  (go_at_call 28; refine (LI2.out _).mono ?_; rintro e w3 ⟨rfl, hb3⟩; obtain ⟨hB3, hz3, hc3, hf3⟩ := grow4 (w := w) (by go_grown) hb3; (try simp only [World.size_alloc, World.size_setCell, World.size_drew] at hz3); (try have hy3 := Nat.lt_of_succ_le hz3); (try have hx3 := Nat.lt_of_succ_lt hy3); (try have hw3 := Nat.lt_of_succ_lt hx3); (try have hv3 := Nat.lt_of_succ_lt hw3); (try have ha3 : w.heap.size < w3.heap.size := (by omega)); (try have hi3 : w.heap.size + 1 < w3.heap.size := (by omega)); (try have hj3 : w.heap.size + 1 + 1 < w3.heap.size := (by omega)); (try have hk3 : w.heap.size + 1 + 1 + 1 < w3.heap.size := (by omega)); (try have hl3 : w.heap.size + 1 + 1 + 1 + 1 < w3.heap.size := (by omega)))
  have LA3 := Nat.lt_of_lt_of_le LA hz3
  have LB3 := Nat.lt_of_lt_of_le LB hz3
  have LC3 := Nat.lt_of_lt_of_le LC hz3
  go_wp2_with fail
  refine R.region_grow [.val (.agg #[.int .i64 A0, .int .i64 A1]), .val (.agg #[.int .i16 b0, .int .i16 b1]), .val (.agg #[.int .i64 (A0 + b0), .int .i64 (A1 + b1)]), .val (.agg #[.int .i64 B0, .int .i64 B1]), .val (.agg #[.int .i16 b0, .int .i16 b1]), .val (.agg #[.int .i64 (B0 + b0), .int .i64 (B1 + b1)]), .val (.agg #[.int .i64 C0, .int .i64 C1]), .val (.agg #[.int .i16 b0, .int .i16 b1]), .val (.agg #[.int .i64 (C0 + b0), .int .i64 (C1 + b1)]), .val (.int .i64 N), .val (.tuple #[.int .i64 h, .int .i64 0]), .val (.tuple #[.int .i64 h, .int .i64 0]), .val (.int .i64 h), .val (.int .i64 0), .val (.int .i64 h), .val (.int .i64 0)] (by kernel_rfl) (by kernel_rfl) (by kernel_rfl) (by kernel_rfl) ?_ ?_
  · refine ⟨?_, ?_, ?_, ?_, ?_, ?_, ?_, ?_, ?_, ?_, ?_, ?_, ?_, ?_, ?_, ?_, trivial⟩
    · intro act wx KK E hk hK
      have e15 := E 15 _ rfl
      obtain ⟨hc, hf⟩ := hk.cells rfl
      try simp only [World.size_drew] at hc hf
      go_simp
      exact hK _ (Below.refl _ _)
    · intro act wx KK E hk hK
      have e13 := E 13 _ rfl
      obtain ⟨hc, hf⟩ := hk.cells rfl
      try simp only [World.size_drew] at hc hf
      go_simp
      exact hK _ (Below.refl _ _)
    · intro act wx KK E hk hK
      have e64 := E 64 _ rfl
      have e65 := E 65 _ rfl
      go_simp
      refine (MV1.out _).mono ?_
      rintro e w' ⟨rfl, hb⟩
      exact hK _ hb
    · intro act wx KK E hk hK
      have e16 := E 16 _ rfl
      obtain ⟨hc, hf⟩ := hk.cells rfl
      try simp only [World.size_drew] at hc hf
      go_simp
      exact hK _ (Below.refl _ _)
    · intro act wx KK E hk hK
      have e13 := E 13 _ rfl
      obtain ⟨hc, hf⟩ := hk.cells rfl
      try simp only [World.size_drew] at hc hf
      go_simp
      exact hK _ (Below.refl _ _)
    · intro act wx KK E hk hK
      have e67 := E 67 _ rfl
      have e68 := E 68 _ rfl
      go_simp
      refine (MV2.out _).mono ?_
      rintro e w' ⟨rfl, hb⟩
      exact hK _ hb
    · intro act wx KK E hk hK
      have e17 := E 17 _ rfl
      obtain ⟨hc, hf⟩ := hk.cells rfl
      try simp only [World.size_drew] at hc hf
      go_simp
      exact hK _ (Below.refl _ _)
    · intro act wx KK E hk hK
      have e13 := E 13 _ rfl
      obtain ⟨hc, hf⟩ := hk.cells rfl
      try simp only [World.size_drew] at hc hf
      go_simp
      exact hK _ (Below.refl _ _)
    · intro act wx KK E hk hK
      have e70 := E 70 _ rfl
      have e71 := E 71 _ rfl
      go_simp
      refine (MV3.out _).mono ?_
      rintro e w' ⟨rfl, hb⟩
      exact hK _ hb
    · intro act wx KK E hk hK
      have e18 := E 18 _ rfl
      go_simp
      exact hK _ (Below.refl _ _)
    · intro act wx KK E hk hK
      have e66 := E 66 _ rfl
      have e69 := E 69 _ rfl
      have e72 := E 72 _ rfl
      have e73 := E 73 _ rfl
      go_simp
      refine (LI3.out _).mono ?_
      rintro e w' ⟨rfl, hb⟩
      exact hK _ hb
    · intro act wx KK E hk hK
      have e74 := E 74 _ rfl
      go_simp
      exact hK _ (Below.refl _ _)
    · intro act wx KK E hk hK
      have e63 := E 63 _ rfl
      go_simp
      exact hK _ (Below.refl _ _)
    · intro act wx KK E hk hK
      have e63 := E 63 _ rfl
      go_simp
      exact hK _ (Below.refl _ _)
    · intro act wx KK E hk hK
      have e75 := E 75 _ rfl
      go_simp
      exact hK _ (Below.refl _ _)
    · intro act wx KK E hk hK
      have e76 := E 76 _ rfl
      go_simp
      exact hK _ (Below.refl _ _)
  intro β5 w5 F
  simp only [R.finAct, R.Item.value, Act.put, List.getElem?_toArray, List.getElem?_cons_zero, List.getElem?_cons_succ, List.size_toArray, List.length_cons, List.length_nil, Nat.reduceAdd, List.setIfInBounds_toArray, List.set_cons_zero, List.set_cons_succ]
  have hB5 := stepB (w := w) (by go_grown) (F.kept.below rfl)
  obtain ⟨hc5, hf5⟩ := F.kept.cells rfl
  try simp only [World.size_drew] at hc5 hf5
  have hz5 := F.kept.size
  try simp only [World.size_alloc, World.size_setCell, World.size_drew] at hz5
  try have ha5 : w.heap.size < w5.heap.size := (by omega)
  try have hi5 : w.heap.size + 1 < w5.heap.size := (by omega)
  try have hj5 : w.heap.size + 1 + 1 < w5.heap.size := (by omega)
  try have hk5 : w.heap.size + 1 + 1 + 1 < w5.heap.size := (by omega)
  try have hl5 : w.heap.size + 1 + 1 + 1 + 1 < w5.heap.size := (by omega)
  clear F
  replace hh := hh.out
  replace c1 := c1.out
  obtain ⟨⟨a1, a2⟩, ⟨a3, a4⟩⟩ := i1.out
  obtain ⟨⟨a5, a6⟩, ⟨a7, a8⟩⟩ := i2.out
  obtain ⟨⟨d1, d2⟩, ⟨d3, d4⟩⟩ := i3.out
  obtain ⟨K1, K2⟩ := K1
  have LA5 : BA < w5.heap.size := by omega
  have LB5 : BB < w5.heap.size := by omega
  have LC5 : BC < w5.heap.size := by omega
  obtain ⟨e1, e2⟩ := M.mul_bd (part % 16) (B0 - A0) 15 8388608 (by omega) (by omega) (by omega) (by omega)
  obtain ⟨f1, f2⟩ := M.mul_bd (part % 16) (B1 - A1) 15 8388608 (by omega) (by omega) (by omega) (by omega)
  obtain ⟨g1, g2⟩ := M.mul_bd (15 * (A0 - C0) + part % 16 * (B0 - A0)) (15 * (A0 - C0) + part % 16 * (B0 - A0)) 251658240 251658240 (by omega) (by omega) (by omega) (by omega)
  obtain ⟨g3, g4⟩ := M.mul_bd (15 * (A1 - C1) + part % 16 * (B1 - A1)) (15 * (A1 - C1) + part % 16 * (B1 - A1)) 251658240 251658240 (by omega) (by omega) (by omega) (by omega)
  obtain ⟨g5, g6⟩ := M.mul_range (15 * N * 15) N 1415556000 6291360 (by omega) (by omega) (by omega) (by omega)
  rcases c1 with c1 | c1
  all_goals
    go_wp2_with fail
    (go_at_call 19; refine (fine_any _ (HT.out.below (by (first | assumption | go_grown) : Below w.heap.size w _) hz)).mono ?_; rintro e w6 ⟨rfl, hb6⟩; obtain ⟨hB6, hz6, hc6, hf6⟩ := grow4 (w := w) (by go_grown) hb6; (try simp only [World.size_alloc, World.size_setCell, World.size_drew] at hz6); (try have hy6 := Nat.lt_of_succ_le hz6); (try have hx6 := Nat.lt_of_succ_lt hy6); (try have hw6 := Nat.lt_of_succ_lt hx6); (try have hv6 := Nat.lt_of_succ_lt hw6); (try have ha6 : w.heap.size < w6.heap.size := (by omega)); (try have hi6 : w.heap.size + 1 < w6.heap.size := (by omega)); (try have hj6 : w.heap.size + 1 + 1 < w6.heap.size := (by omega)); (try have hk6 : w.heap.size + 1 + 1 + 1 < w6.heap.size := (by omega)); (try have hl6 : w.heap.size + 1 + 1 + 1 + 1 < w6.heap.size := (by omega)))
    go_wp2_with fail
    go_returns
    exact ⟨rfl, hB6⟩
end Go.Proofs.YtfcjdmpfoogljaaDoor
