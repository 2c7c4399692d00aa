/-
  TurfContact: whatever the spots, the law returns true (its walk, if they do not meet).
-/
import Derived.Test.YtfcjdmpfoogljaaDoorContactM
set_option linter.unusedVariables false
set_option linter.unusedSimpArgs false
namespace Go.Proofs.YtfcjdmpfoogljaaDoor
open Go.ChangeShapes Go.WideShapes Go.ChangeAt Go.RowKit

set_option maxRecDepth 100000 in
set_option maxHeartbeats 20000000 in
theorem contact_out (p0 p1 v0 v1 q0 q1 u0 u1 s r n : Int) (w : World) (ht : Tab w) (a1 : -32768 ≤ p0) (a2 : p0 ≤ 32767) (a3 : -32768 ≤ p1) (a4 : p1 ≤ 32767) (b1 : -32768 ≤ v0) (b2 : v0 ≤ 32767) (b3 : -32768 ≤ v1) (b4 : v1 ≤ 32767) (c1 : -32768 ≤ q0) (c2 : q0 ≤ 32767) (c3 : -32768 ≤ q1) (c4 : q1 ≤ 32767) (d1 : -32768 ≤ u0) (d2 : u0 ≤ 32767) (d3 : -32768 ≤ u1) (d4 : u1 ≤ 32767) (s1 : 0 ≤ s) (s2 : s ≤ 255) (r1 : 0 ≤ r) (r2 : r ≤ 65535) (n1 : 0 ≤ n) (n2 : n ≤ 255) (m : Nat) (hm0 : M.FirstAt (q0 * M.scale s - p0 * M.scale s) (u0 * M.scale s - v0 * M.scale s) (q1 * M.scale s - p1 * M.scale s) (u1 * M.scale s - v1 * M.scale s) r (1 + n % 100) m) (k3 : (m : Int) = 1 + n % 100 + 1) :
    Calls Tryd.prog 11 #[.agg #[.int .i16 p0, .int .i16 p1], .agg #[.int .i16 v0, .int .i16 v1], .agg #[.int .i16 q0, .int .i16 q1], .agg #[.int .i16 u0, .int .i16 u1], .int .u8 s, .int .u16 r, .int .u8 n] w fun e w' => e = .returned (.bool true) ∧ Below w.heap.size w w' := by
  have hz := ht.size
  have HT := Lib.hid ht
  clear ht
  have HM0 := Lib.hid hm0
  clear hm0
  have A := Lib.hid (M.at_in p0 p1 s a1 a2 a3 a4)
  have B := Lib.hid (M.at_in v0 v1 s b1 b2 b3 b4)
  have C := Lib.hid (M.at_in q0 q1 s c1 c2 c3 c4)
  have D := Lib.hid (M.at_in u0 u1 s d1 d2 d3 d4)
  have AT1 := Lib.hid (fun w => at_any p0 p1 s w a1 a2 a3 a4 s1 s2)
  have AT2 := Lib.hid (fun w => at_any v0 v1 s w b1 b2 b3 b4 s1 s2)
  have AT3 := Lib.hid (fun w => at_any q0 q1 s w c1 c2 c3 c4 s1 s2)
  have AT4 := Lib.hid (fun w => at_any u0 u1 s w d1 d2 d3 d4 s1 s2)
  obtain ⟨⟨e1, e2⟩, ⟨e3, e4⟩⟩ := A.out
  obtain ⟨⟨f1, f2⟩, ⟨f3, f4⟩⟩ := B.out
  obtain ⟨⟨g1, g2⟩, ⟨g3, g4⟩⟩ := C.out
  obtain ⟨⟨h1, h2⟩, ⟨h3, h4⟩⟩ := D.out
  generalize p0 * M.scale s = P0 at *
  generalize p1 * M.scale s = P1 at *
  generalize v0 * M.scale s = V0 at *
  generalize v1 * M.scale s = V1 at *
  generalize q0 * M.scale s = Q0 at *
  generalize q1 * M.scale s = Q1 at *
  generalize u0 * M.scale s = U0 at *
  generalize u1 * M.scale s = U1 at *
  have hm : M.FirstAt (Q0 - P0) (U0 - V0) (Q1 - P1) (U1 - V1) r (1 + n % 100) m := HM0.out
  clear HM0
  have F1 := Lib.hid (fun w => First_ok P0 P1 V0 V1 Q0 Q1 U0 U1 r (1 + n % 100) m w A.out B.out C.out D.out r1 (by omega) (by omega) (by omega) hm)
  have F2 := Lib.hid (fun w => First_ok Q0 Q1 U0 U1 P0 P1 V0 V1 r (1 + n % 100) m w C.out D.out A.out B.out r1 (by omega) (by omega) (by omega) (hm.neg _ _ _ _ (by omega) (by omega) (by omega) (by omega)))
  have HM := Lib.hid (hm.neg (P0 - Q0) (V0 - U0) (P1 - Q1) (V1 - U1) (by omega) (by omega) (by omega) (by omega))
  have m1 := hm.1
  have i1 : -8388608 ≤ P0 - Q0 ∧ P0 - Q0 ≤ 8388608 ∧ -8388608 ≤ V0 - U0 ∧ V0 - U0 ≤ 8388608 ∧ -8388608 ≤ P1 - Q1 ∧ P1 - Q1 ≤ 8388608 ∧ -8388608 ≤ V1 - U1 ∧ V1 - U1 ≤ 8388608 := by omega
  obtain ⟨i1, i2, i3, i4, i5, i6, i7, i8⟩ := i1
  clear hm A B C D a1 a2 a3 a4 b1 b2 b3 b4 c1 c2 c3 c4 d1 d2 d3 d4 e1 e2 e3 e4 f1 f2 f3 f4 g1 g2 g3 g4 h1 h2 h3 h4 s1 s2
  obtain ⟨t1, t2⟩ := M.mul_range (1 + n % 100) r 100 65535 (by omega) (by omega) r1 r2
  obtain ⟨t3, t4⟩ := M.mul_range ((1 + n % 100) * r) ((1 + n % 100) * r) 6553500 6553500 t1 (by omega) t1 (by omega)
  have k1 : M.firstK m (1 + n % 100) = 0 := if_neg (by omega)
  have k2 : M.firstE m (1 + n % 100) = 5 := if_neg (by omega)
  rw [k1, k2] at F1 F2
  have K3 := Lib.hid k3
  have k4 : 1 + n % 100 + 1 ≤ m := by omega
  have k5 : m ≤ 1 + n % 100 + 1 := by omega
  clear k1 k2 k3
  go_enter Tryd.func11, Tryd.ntmps11
  go_wp2
  have N1 : 1 ≤ 1 + n % 100 := by omega
  have N2 : 1 + n % 100 ≤ 100 := by omega
  generalize 1 + n % 100 = N at *
  refine R.region_grow [.val (.agg #[.int .i16 p0, .int .i16 p1]), .val (.int .u8 s), .val (.agg #[.int .i64 P0, .int .i64 P1]), .val (.agg #[.int .i16 v0, .int .i16 v1]), .val (.int .u8 s), .val (.agg #[.int .i64 V0, .int .i64 V1]), .val (.agg #[.int .i16 q0, .int .i16 q1]), .val (.int .u8 s), .val (.agg #[.int .i64 Q0, .int .i64 Q1]), .val (.agg #[.int .i16 u0, .int .i16 u1]), .val (.int .u8 s), .val (.agg #[.int .i64 U0, .int .i64 U1]), .new 34 #[.int .i64 0, .int .i64 0], .new 34 #[.int .i64 0, .int .i64 0], .new 34 #[.int .i64 0, .int .i64 0], .new 34 #[.int .i64 0, .int .i64 0], .put 12 #[.int .i64 P0, .int .i64 P1], .put 13 #[.int .i64 V0, .int .i64 V1], .put 14 #[.int .i64 Q0, .int .i64 Q1], .put 15 #[.int .i64 U0, .int .i64 U1]] (by kernel_rfl) (by kernel_rfl) (by kernel_rfl) (by kernel_rfl) ?_ ?_
  · refine ⟨?_, ?_, ?_, ?_, ?_, ?_, ?_, ?_, ?_, ?_, ?_, ?_, ?_, ?_, ?_, ?_, ?_, ?_, ?_, ?_, trivial⟩
    · intro act wx KK E hk hK
      have e7 := E 7 _ rfl
      obtain ⟨hc, hf⟩ := hk.cells rfl
      try simp only [World.size_drew] at hc hf
      go_simp
      exact hK _ (Below.refl _ _)
    · intro act wx KK E hk hK
      have e4 := E 4 _ rfl
      go_simp
      exact hK _ (Below.refl _ _)
    · intro act wx KK E hk hK
      have e34 := E 34 _ rfl
      have e35 := E 35 _ rfl
      go_simp
      refine (AT1.out _).mono ?_
      rintro e w' ⟨rfl, hb⟩
      exact hK _ hb
    · intro act wx KK E hk hK
      have e8 := E 8 _ rfl
      obtain ⟨hc, hf⟩ := hk.cells rfl
      try simp only [World.size_drew] at hc hf
      go_simp
      exact hK _ (Below.refl _ _)
    · intro act wx KK E hk hK
      have e4 := E 4 _ rfl
      go_simp
      exact hK _ (Below.refl _ _)
    · intro act wx KK E hk hK
      have e37 := E 37 _ rfl
      have e38 := E 38 _ rfl
      go_simp
      refine (AT2.out _).mono ?_
      rintro e w' ⟨rfl, hb⟩
      exact hK _ hb
    · intro act wx KK E hk hK
      have e9 := E 9 _ rfl
      obtain ⟨hc, hf⟩ := hk.cells rfl
      try simp only [World.size_drew] at hc hf
      go_simp
      exact hK _ (Below.refl _ _)
    · intro act wx KK E hk hK
      have e4 := E 4 _ rfl
      go_simp
      exact hK _ (Below.refl _ _)
    · intro act wx KK E hk hK
      have e40 := E 40 _ rfl
      have e41 := E 41 _ rfl
      go_simp
      refine (AT3.out _).mono ?_
      rintro e w' ⟨rfl, hb⟩
      exact hK _ hb
    · intro act wx KK E hk hK
      have e10 := E 10 _ rfl
      obtain ⟨hc, hf⟩ := hk.cells rfl
      try simp only [World.size_drew] at hc hf
      go_simp
      exact hK _ (Below.refl _ _)
    · intro act wx KK E hk hK
      have e4 := E 4 _ rfl
      go_simp
      exact hK _ (Below.refl _ _)
    · intro act wx KK E hk hK
      have e43 := E 43 _ rfl
      have e44 := E 44 _ rfl
      go_simp
      refine (AT4.out _).mono ?_
      rintro e w' ⟨rfl, hb⟩
      exact hK _ hb
    · intro act wx KK hK
      go_simp
      exact hK
    · intro act wx KK hK
      go_simp
      exact hK
    · intro act wx KK hK
      go_simp
      exact hK
    · intro act wx KK hK
      go_simp
      exact hK
    · intro TT zz hT act wx KK bb cs0 dd E hk hd hb hh hsz hK
      cases hT
      obtain ⟨c0, c1, rfl⟩ := R.of_size2 hsz
      cases hd
      have e36 := E 36 _ rfl
      have kc0 := R.cell_blk hh 0
      have kf0 := R.free_blk hh 0
      have kc1 := R.cell_blk hh 1
      have kf1 := R.free_blk hh 1
      have hK' := hK _ (R.rewrites2 hh)
      clear hK
      go_simp
      exact hK'
    · intro TT zz hT act wx KK bb cs0 dd E hk hd hb hh hsz hK
      cases hT
      obtain ⟨c0, c1, rfl⟩ := R.of_size2 hsz
      cases hd
      have e39 := E 39 _ rfl
      have kc0 := R.cell_blk hh 0
      have kf0 := R.free_blk hh 0
      have kc1 := R.cell_blk hh 1
      have kf1 := R.free_blk hh 1
      have hK' := hK _ (R.rewrites2 hh)
      clear hK
      go_simp
      exact hK'
    · intro TT zz hT act wx KK bb cs0 dd E hk hd hb hh hsz hK
      cases hT
      obtain ⟨c0, c1, rfl⟩ := R.of_size2 hsz
      cases hd
      have e42 := E 42 _ rfl
      have kc0 := R.cell_blk hh 0
      have kf0 := R.free_blk hh 0
      have kc1 := R.cell_blk hh 1
      have kf1 := R.free_blk hh 1
      have hK' := hK _ (R.rewrites2 hh)
      clear hK
      go_simp
      exact hK'
    · intro TT zz hT act wx KK bb cs0 dd E hk hd hb hh hsz hK
      cases hT
      obtain ⟨c0, c1, rfl⟩ := R.of_size2 hsz
      cases hd
      have e45 := E 45 _ rfl
      have kc0 := R.cell_blk hh 0
      have kf0 := R.free_blk hh 0
      have kc1 := R.cell_blk hh 1
      have kf1 := R.free_blk hh 1
      have hK' := hK _ (R.rewrites2 hh)
      clear hK
      go_simp
      exact hK'
  intro β2 w2 F
  simp only [R.finAct, R.Item.value, Act.put, List.getElem?_toArray, List.getElem?_cons_zero, List.getElem?_cons_succ, List.size_toArray, List.length_cons, List.length_nil, Nat.reduceAdd, List.setIfInBounds_toArray, List.set_cons_zero, List.set_cons_succ]
  have hB2 := stepB (w := w) (by go_grown) (F.kept.below rfl)
  obtain ⟨hc2, hf2⟩ := F.kept.cells rfl
  try simp only [World.size_drew] at hc2 hf2
  have hz2 := F.kept.size
  try simp only [World.size_alloc, World.size_setCell, World.size_drew] at hz2
  try have ha2 : w.heap.size < w2.heap.size := (by omega)
  try have hi2 : w.heap.size + 1 < w2.heap.size := (by omega)
  try have hj2 : w.heap.size + 1 + 1 < w2.heap.size := (by omega)
  try have hk2 : w.heap.size + 1 + 1 + 1 < w2.heap.size := (by omega)
  try have hl2 : w.heap.size + 1 + 1 + 1 + 1 < w2.heap.size := (by omega)
  obtain ⟨n12a2, n12b2, _⟩ := F.news 12 _ _ rfl
  obtain ⟨n13a2, n13b2, _⟩ := F.news 13 _ _ rfl
  obtain ⟨n14a2, n14b2, _⟩ := F.news 14 _ _ rfl
  obtain ⟨n15a2, n15b2, _⟩ := F.news 15 _ _ rfl
  have p162 := F.puts 16 12 _ _ _ rfl rfl
  have q16_02 := R.cell_blk p162 0
  have f16_02 := R.free_blk p162 0
  have q16_12 := R.cell_blk p162 1
  have f16_12 := R.free_blk p162 1
  replace p162 := Lib.hid p162
  have p172 := F.puts 17 13 _ _ _ rfl rfl
  have q17_02 := R.cell_blk p172 0
  have f17_02 := R.free_blk p172 0
  have q17_12 := R.cell_blk p172 1
  have f17_12 := R.free_blk p172 1
  replace p172 := Lib.hid p172
  have p182 := F.puts 18 14 _ _ _ rfl rfl
  have q18_02 := R.cell_blk p182 0
  have f18_02 := R.free_blk p182 0
  have q18_12 := R.cell_blk p182 1
  have f18_12 := R.free_blk p182 1
  replace p182 := Lib.hid p182
  have p192 := F.puts 19 15 _ _ _ rfl rfl
  have q19_02 := R.cell_blk p192 0
  have f19_02 := R.free_blk p192 0
  have q19_12 := R.cell_blk p192 1
  have f19_12 := R.free_blk p192 1
  replace p192 := Lib.hid p192
  have d12_132 := F.apart 12 13 _ _ _ _ rfl rfl (by omega)
  have d12_142 := F.apart 12 14 _ _ _ _ rfl rfl (by omega)
  have d12_152 := F.apart 12 15 _ _ _ _ rfl rfl (by omega)
  have d13_142 := F.apart 13 14 _ _ _ _ rfl rfl (by omega)
  have d13_152 := F.apart 13 15 _ _ _ _ rfl rfl (by omega)
  have d14_152 := F.apart 14 15 _ _ _ _ rfl rfl (by omega)
  clear F
  generalize β2 12 = B12 at *
  generalize β2 13 = B13 at *
  generalize β2 14 = B14 at *
  generalize β2 15 = B15 at *
  go_wp2_with fail
  ((go_at_call 38; refine (F1.out _).mono ?_; rintro e w3 ⟨rfl, hb3⟩; obtain ⟨hB3, hz3, hc3, hf3⟩ := grow4 (w := w) (by go_grown) hb3; (try simp only [World.size_alloc, World.size_setCell, World.size_drew] at hz3); (try have hy3 := Nat.lt_of_succ_le hz3); (try have hx3 := Nat.lt_of_succ_lt hy3); (try have hw3 := Nat.lt_of_succ_lt hx3); (try have hv3 := Nat.lt_of_succ_lt hw3); (try have ha3 : w.heap.size < w3.heap.size := (by omega)); (try have hi3 : w.heap.size + 1 < w3.heap.size := (by omega)); (try have hj3 : w.heap.size + 1 + 1 < w3.heap.size := (by omega)); (try have hk3 : w.heap.size + 1 + 1 + 1 < w3.heap.size := (by omega)); (try have hl3 : w.heap.size + 1 + 1 + 1 + 1 < w3.heap.size := (by omega))); have L12 := Nat.lt_of_lt_of_le n12b2 hz3; have L13 := Nat.lt_of_lt_of_le n13b2 hz3; have L14 := Nat.lt_of_lt_of_le n14b2 hz3; have L15 := Nat.lt_of_lt_of_le n15b2 hz3)
  go_wp2_with fail
  (go_at_call 38; refine (F2.out _).mono ?_; rintro e w4 ⟨rfl, hb4⟩; obtain ⟨hB4, hz4, hc4, hf4⟩ := grow4 (w := w) (by go_grown) hb4; (try simp only [World.size_alloc, World.size_setCell, World.size_drew] at hz4); (try have hy4 := Nat.lt_of_succ_le hz4); (try have hx4 := Nat.lt_of_succ_lt hy4); (try have hw4 := Nat.lt_of_succ_lt hx4); (try have hv4 := Nat.lt_of_succ_lt hw4); (try have ha4 : w.heap.size < w4.heap.size := (by omega)); (try have hi4 : w.heap.size + 1 < w4.heap.size := (by omega)); (try have hj4 : w.heap.size + 1 + 1 < w4.heap.size := (by omega)); (try have hk4 : w.heap.size + 1 + 1 + 1 < w4.heap.size := (by omega)); (try have hl4 : w.heap.size + 1 + 1 + 1 + 1 < w4.heap.size := (by omega)))
  go_wp2_with fail
  go_loop [25] (fun i => ∃ k : Nat, k ≤ m + 1 ∧ i = .int .i64 k) (fun i => m + 2 - (intOf i).toNat)
  case atStart => exact ⟨0, Nat.zero_le _, rfl⟩
  case round =>
    obtain ⟨k, hk, rfl⟩ := hrel
    by_cases hlt : (k : Int) ≤ N
    · by_cases hkm : k < m
      · obtain ⟨x1, x2, x3, x4⟩ := M.along_bd N (P0 - Q0) k (V0 - U0) (by omega) (by omega) hlt (by omega) (by omega) (by omega) (by omega)
        obtain ⟨y1, y2, y3, y4⟩ := M.along_bd N (P1 - Q1) k (V1 - U1) (by omega) (by omega) hlt (by omega) (by omega) (by omega) (by omega)
        rcases M.far_abs (HM.out.2.1 k hkm) with z1 | ⟨z1, z2⟩ | ⟨z1, z2, z3⟩
        · go_wp2_with (go_at_call 44; refine (abs_any _ _ (by omega) (by omega)).mono ?_; rintro e w' ⟨rfl, rfl⟩)
          exact ⟨⟨k + 1, by omega, by go_num⟩, by simp [intOf]; omega⟩
        · go_wp2_with (go_at_call 44; refine (abs_any _ _ (by omega) (by omega)).mono ?_; rintro e w' ⟨rfl, rfl⟩)
          exact ⟨⟨k + 1, by omega, by go_num⟩, by simp [intOf]; omega⟩
        · obtain ⟨z4, z5⟩ := M.mul_bd (N * (P0 - Q0) + k * (V0 - U0)) (N * (P0 - Q0) + k * (V0 - U0)) 6553500 6553500 (by omega) (by omega) (by omega) (by omega)
          obtain ⟨z6, z7⟩ := M.mul_bd (N * (P1 - Q1) + k * (V1 - U1)) (N * (P1 - Q1) + k * (V1 - U1)) 6553500 6553500 (by omega) (by omega) (by omega) (by omega)
          go_wp2_with (go_at_call 44; refine (abs_any _ _ (by omega) (by omega)).mono ?_; rintro e w' ⟨rfl, rfl⟩)
          · first | (simp; omega) | omega | (simp <;> omega) | grind
          · exact ⟨⟨k + 1, by omega, by go_num⟩, by simp [intOf]; omega⟩
      · exfalso; omega
    · go_wp2_with (go_at_call 19; refine (fine_any _ (HT.out.below (by assumption : Below w.heap.size w _) hz)).mono ?_; rintro e w7 ⟨rfl, hb7⟩; obtain ⟨hB7, hz7, hc7, hf7⟩ := grow4 (w := w) (by go_grown) hb7; (try simp only [World.size_alloc, World.size_setCell, World.size_drew] at hz7); (try have hy7 := Nat.lt_of_succ_le hz7); (try have hx7 := Nat.lt_of_succ_lt hy7); (try have hw7 := Nat.lt_of_succ_lt hx7); (try have hv7 := Nat.lt_of_succ_lt hw7); (try have ha7 : w.heap.size < w7.heap.size := (by omega)); (try have hi7 : w.heap.size + 1 < w7.heap.size := (by omega)); (try have hj7 : w.heap.size + 1 + 1 < w7.heap.size := (by omega)); (try have hk7 : w.heap.size + 1 + 1 + 1 < w7.heap.size := (by omega)); (try have hl7 : w.heap.size + 1 + 1 + 1 + 1 < w7.heap.size := (by omega)))
      go_returns
      exact ⟨rfl, hB7⟩
end Go.Proofs.YtfcjdmpfoogljaaDoor
