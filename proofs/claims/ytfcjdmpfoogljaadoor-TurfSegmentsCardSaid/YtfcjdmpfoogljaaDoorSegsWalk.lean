/-
  TurfSegments: whatever the places, the law returns true (its walk).
-/
import Derived.Test.YtfcjdmpfoogljaaDoorSegs
set_option linter.unusedVariables false
set_option linter.unusedSimpArgs false
namespace Go.Proofs.YtfcjdmpfoogljaaDoor
open Go.ChangeShapes Go.WideShapes Go.ChangeAt Go.RowKit

set_option maxHeartbeats 4000000 in
theorem segments_walk (a0 a1 b0 b1 p0 p1 r c0 c1 c2 d0 d1 d2 : Int) (w : World) (ht : Tab w) :
    Calls Tryd.prog 4 #[.agg #[.int .i64 a0, .int .i64 a1], .agg #[.int .i64 b0, .int .i64 b1], .agg #[.int .i64 p0, .int .i64 p1], .int .i64 r, .agg #[.int .i64 c0, .int .i64 c1, .int .i64 c2], .agg #[.int .i64 d0, .int .i64 d1, .int .i64 d2]] w fun e w' => e = .returned (.bool true) ∧ Below w.heap.size w w' := by
  have hz := ht.size
  have HT := Lib.hid ht
  clear ht
  obtain ⟨n1, e1, q1⟩ := square_both a0 a1 b0 b1
  obtain ⟨n2, e2, q2⟩ := side_both a0 a1 b0 b1 p0 p1
  obtain ⟨n3, e3, q3⟩ := lies_both a0 a1 b0 b1 p0 p1 r
  obtain ⟨n4, e4, q4⟩ := cuts_both a0 a1 b0 b1 c0 c1 c2
  obtain ⟨n5, e5, q5⟩ := touch_both c0 c1 c2 d0 d1 d2
  have Q1 := Lib.hid q1
  have Q2 := Lib.hid q2
  have Q3 := Lib.hid q3
  have Q4 := Lib.hid q4
  have Q5 := Lib.hid q5
  clear q1 q2 q3 q4 q5
  go_enter Tryd.func4, Tryd.ntmps4
  go_wp2_with (first | (go_at_call 20; refine (Q1.out.1 _).mono ?_; rintro e w1 ⟨rfl, hb1⟩; obtain ⟨hB1, hz1, hc1, hf1⟩ := grow4 (w := w) (by go_grown) hb1; (try simp only [World.size_alloc, World.size_setCell, World.size_drew] at hz1); (try have hy1 := Nat.lt_of_succ_le hz1); (try have hx1 := Nat.lt_of_succ_lt hy1); (try have hw1 := Nat.lt_of_succ_lt hx1); (try have hv1 := Nat.lt_of_succ_lt hw1); (try have ha1 : w.heap.size < w1.heap.size := (by omega)); (try have hi1 : w.heap.size + 1 < w1.heap.size := (by omega)); (try have hj1 : w.heap.size + 1 + 1 < w1.heap.size := (by omega)); (try have hk1 : w.heap.size + 1 + 1 + 1 < w1.heap.size := (by omega)); (try have hl1 : w.heap.size + 1 + 1 + 1 + 1 < w1.heap.size := (by omega))) | (go_at_call 21; refine (Q1.out.2 _).mono ?_; rintro e w2 ⟨rfl, hb2⟩; obtain ⟨hB2, hz2, hc2, hf2⟩ := grow4 (w := w) (by go_grown) hb2; (try simp only [World.size_alloc, World.size_setCell, World.size_drew] at hz2); (try have hy2 := Nat.lt_of_succ_le hz2); (try have hx2 := Nat.lt_of_succ_lt hy2); (try have hw2 := Nat.lt_of_succ_lt hx2); (try have hv2 := Nat.lt_of_succ_lt hw2); (try have ha2 : w.heap.size < w2.heap.size := (by omega)); (try have hi2 : w.heap.size + 1 < w2.heap.size := (by omega)); (try have hj2 : w.heap.size + 1 + 1 < w2.heap.size := (by omega)); (try have hk2 : w.heap.size + 1 + 1 + 1 < w2.heap.size := (by omega)); (try have hl2 : w.heap.size + 1 + 1 + 1 + 1 < w2.heap.size := (by omega))))
  refine R.region_grow [.val (.agg #[.int .i64 a0, .int .i64 a1]), .val (.int .i64 (M.chk [(a0, a1)])), .val (.agg #[.int .i64 a0, .int .i64 a1]), .val (.int .i64 (M.chk [(a0, a1)])), .val (.bool false), .val (.bool false), .val (.agg #[.int .i64 c0, .int .i64 c1, .int .i64 c2]), .val (.int .i64 (chkDisc c0 c1 c2)), .val (.agg #[.int .i64 c0, .int .i64 c1, .int .i64 c2]), .val (.int .i64 (chkDisc c0 c1 c2)), .val (.bool false), .val (.bool false), .val (.bool false), .val (.int .i64 n1), .val (.int .i64 n1), .val (.bool false), .val (.bool false), .val (.bool false), .val (.int .i64 e1), .val (.int .i64 e1), .val (.bool false), .val (.bool false)] (by kernel_rfl) (by kernel_rfl) (by kernel_rfl) (by kernel_rfl) ?_ ?_
  · refine ⟨?_, ?_, ?_, ?_, ?_, ?_, ?_, ?_, ?_, ?_, ?_, ?_, ?_, ?_, ?_, ?_, ?_, ?_, ?_, ?_, ?_, ?_, trivial⟩
    · intro act wx KK E hk hK
      have e6 := E 6 _ rfl
      obtain ⟨hc, hf⟩ := hk.cells rfl
      try simp only [World.size_drew] at hc hf
      go_simp
      exact hK _ (Below.refl _ _)
    · intro act wx KK E hk hK
      have e37 := E 37 _ rfl
      go_simp
      refine (Check_any _ _ _).mono ?_
      rintro e w' ⟨rfl, hb⟩
      exact hK _ hb
    · intro act wx KK E hk hK
      have e6 := E 6 _ rfl
      obtain ⟨hc, hf⟩ := hk.cells rfl
      try simp only [World.size_drew] at hc hf
      go_simp
      exact hK _ (Below.refl _ _)
    · intro act wx KK E hk hK
      have e39 := E 39 _ rfl
      go_simp
      refine (rCheck_any _ _ _).mono ?_
      rintro e w' ⟨rfl, hb⟩
      exact hK _ hb
    · intro act wx KK E hk hK
      have e38 := E 38 _ rfl
      have e40 := E 40 _ rfl
      go_simp
      try go_bits
      first | exact hK _ (Below.refl _ _) | (go_step; exact hK _ (Below.refl _ _)) | (go_step; go_step; exact hK _ (Below.refl _ _))
    · intro act wx KK E hk hK
      have e41 := E 41 _ rfl
      go_simp
      exact hK _ (Below.refl _ _)
    · intro act wx KK E hk hK
      have e10 := E 10 _ rfl
      obtain ⟨hc, hf⟩ := hk.cells rfl
      try simp only [World.size_drew] at hc hf
      go_simp
      exact hK _ (Below.refl _ _)
    · intro act wx KK E hk hK
      have e43 := E 43 _ rfl
      go_simp
      refine (CheckDisc_any _ _ _ _).mono ?_
      rintro e w' ⟨rfl, hb⟩
      exact hK _ hb
    · intro act wx KK E hk hK
      have e10 := E 10 _ rfl
      obtain ⟨hc, hf⟩ := hk.cells rfl
      try simp only [World.size_drew] at hc hf
      go_simp
      exact hK _ (Below.refl _ _)
    · intro act wx KK E hk hK
      have e45 := E 45 _ rfl
      go_simp
      refine (rCheckDisc_any _ _ _ _).mono ?_
      rintro e w' ⟨rfl, hb⟩
      exact hK _ hb
    · intro act wx KK E hk hK
      have e44 := E 44 _ rfl
      have e46 := E 46 _ rfl
      go_simp
      try go_bits
      first | exact hK _ (Below.refl _ _) | (go_step; exact hK _ (Below.refl _ _)) | (go_step; go_step; exact hK _ (Below.refl _ _))
    · intro act wx KK E hk hK
      have e42 := E 42 _ rfl
      have e47 := E 47 _ rfl
      go_simp
      exact hK _ (Below.refl _ _)
    · intro act wx KK E hk hK
      have e48 := E 48 _ rfl
      go_simp
      exact hK _ (Below.refl _ _)
    · intro act wx KK E hk hK
      have e13 := E 13 _ rfl
      go_simp
      exact hK _ (Below.refl _ _)
    · intro act wx KK E hk hK
      have e15 := E 15 _ rfl
      go_simp
      exact hK _ (Below.refl _ _)
    · intro act wx KK E hk hK
      have e50 := E 50 _ rfl
      have e51 := E 51 _ rfl
      go_simp
      try go_bits
      first | exact hK _ (Below.refl _ _) | (go_step; exact hK _ (Below.refl _ _)) | (go_step; go_step; exact hK _ (Below.refl _ _))
    · intro act wx KK E hk hK
      have e49 := E 49 _ rfl
      have e52 := E 52 _ rfl
      go_simp
      exact hK _ (Below.refl _ _)
    · intro act wx KK E hk hK
      have e53 := E 53 _ rfl
      go_simp
      exact hK _ (Below.refl _ _)
    · intro act wx KK E hk hK
      have e14 := E 14 _ rfl
      go_simp
      exact hK _ (Below.refl _ _)
    · intro act wx KK E hk hK
      have e16 := E 16 _ rfl
      go_simp
      exact hK _ (Below.refl _ _)
    · intro act wx KK E hk hK
      have e55 := E 55 _ rfl
      have e56 := E 56 _ rfl
      go_simp
      try go_bits
      first | exact hK _ (Below.refl _ _) | (go_step; exact hK _ (Below.refl _ _)) | (go_step; go_step; exact hK _ (Below.refl _ _))
    · intro act wx KK E hk hK
      have e54 := E 54 _ rfl
      have e57 := E 57 _ rfl
      go_simp
      exact hK _ (Below.refl _ _)
  intro β3 w3 F
  simp only [R.finAct, R.Item.value, Act.put, List.getElem?_toArray, List.getElem?_cons_zero, List.getElem?_cons_succ, List.size_toArray, List.length_cons, List.length_nil, Nat.reduceAdd, List.setIfInBounds_toArray, List.set_cons_zero, List.set_cons_succ]
  have hB3 := stepB (w := w) (by go_grown) (F.kept.below rfl)
  obtain ⟨hc3, hf3⟩ := F.kept.cells rfl
  try simp only [World.size_drew] at hc3 hf3
  have hz3 := F.kept.size
  try simp only [World.size_alloc, World.size_setCell, World.size_drew] at hz3
  try have ha3 : w.heap.size < w3.heap.size := (by omega)
  try have hi3 : w.heap.size + 1 < w3.heap.size := (by omega)
  try have hj3 : w.heap.size + 1 + 1 < w3.heap.size := (by omega)
  try have hk3 : w.heap.size + 1 + 1 + 1 < w3.heap.size := (by omega)
  try have hl3 : w.heap.size + 1 + 1 + 1 + 1 < w3.heap.size := (by omega)
  clear F
  go_wp2_with (first | (go_at_call 26; refine (Q2.out.1 _).mono ?_; rintro e w4 ⟨rfl, hb4⟩; obtain ⟨hB4, hz4, hc4, hf4⟩ := grow4 (w := w) (by go_grown) hb4; (try simp only [World.size_alloc, World.size_setCell, World.size_drew] at hz4); (try have hy4 := Nat.lt_of_succ_le hz4); (try have hx4 := Nat.lt_of_succ_lt hy4); (try have hw4 := Nat.lt_of_succ_lt hx4); (try have hv4 := Nat.lt_of_succ_lt hw4); (try have ha4 : w.heap.size < w4.heap.size := (by omega)); (try have hi4 : w.heap.size + 1 < w4.heap.size := (by omega)); (try have hj4 : w.heap.size + 1 + 1 < w4.heap.size := (by omega)); (try have hk4 : w.heap.size + 1 + 1 + 1 < w4.heap.size := (by omega)); (try have hl4 : w.heap.size + 1 + 1 + 1 + 1 < w4.heap.size := (by omega))) | (go_at_call 27; refine (Q2.out.2 _).mono ?_; rintro e w5 ⟨rfl, hb5⟩; obtain ⟨hB5, hz5, hc5, hf5⟩ := grow4 (w := w) (by go_grown) hb5; (try simp only [World.size_alloc, World.size_setCell, World.size_drew] at hz5); (try have hy5 := Nat.lt_of_succ_le hz5); (try have hx5 := Nat.lt_of_succ_lt hy5); (try have hw5 := Nat.lt_of_succ_lt hx5); (try have hv5 := Nat.lt_of_succ_lt hw5); (try have ha5 : w.heap.size < w5.heap.size := (by omega)); (try have hi5 : w.heap.size + 1 < w5.heap.size := (by omega)); (try have hj5 : w.heap.size + 1 + 1 < w5.heap.size := (by omega)); (try have hk5 : w.heap.size + 1 + 1 + 1 < w5.heap.size := (by omega)); (try have hl5 : w.heap.size + 1 + 1 + 1 + 1 < w5.heap.size := (by omega))) | (go_at_call 28; refine (Q3.out.1 _).mono ?_; rintro e w6 ⟨rfl, hb6⟩; obtain ⟨hB6, hz6, hc6, hf6⟩ := grow4 (w := w) (by go_grown) hb6; (try simp only [World.size_alloc, World.size_setCell, World.size_drew] at hz6); (try have hy6 := Nat.lt_of_succ_le hz6); (try have hx6 := Nat.lt_of_succ_lt hy6); (try have hw6 := Nat.lt_of_succ_lt hx6); (try have hv6 := Nat.lt_of_succ_lt hw6); (try have ha6 : w.heap.size < w6.heap.size := (by omega)); (try have hi6 : w.heap.size + 1 < w6.heap.size := (by omega)); (try have hj6 : w.heap.size + 1 + 1 < w6.heap.size := (by omega)); (try have hk6 : w.heap.size + 1 + 1 + 1 < w6.heap.size := (by omega)); (try have hl6 : w.heap.size + 1 + 1 + 1 + 1 < w6.heap.size := (by omega))) | (go_at_call 29; refine (Q3.out.2 _).mono ?_; rintro e w7 ⟨rfl, hb7⟩; obtain ⟨hB7, hz7, hc7, hf7⟩ := grow4 (w := w) (by go_grown) hb7; (try simp only [World.size_alloc, World.size_setCell, World.size_drew] at hz7); (try have hy7 := Nat.lt_of_succ_le hz7); (try have hx7 := Nat.lt_of_succ_lt hy7); (try have hw7 := Nat.lt_of_succ_lt hx7); (try have hv7 := Nat.lt_of_succ_lt hw7); (try have ha7 : w.heap.size < w7.heap.size := (by omega)); (try have hi7 : w.heap.size + 1 < w7.heap.size := (by omega)); (try have hj7 : w.heap.size + 1 + 1 < w7.heap.size := (by omega)); (try have hk7 : w.heap.size + 1 + 1 + 1 < w7.heap.size := (by omega)); (try have hl7 : w.heap.size + 1 + 1 + 1 + 1 < w7.heap.size := (by omega))) | (go_at_call 30; refine (Q4.out.1 _).mono ?_; rintro e w8 ⟨rfl, hb8⟩; obtain ⟨hB8, hz8, hc8, hf8⟩ := grow4 (w := w) (by go_grown) hb8; (try simp only [World.size_alloc, World.size_setCell, World.size_drew] at hz8); (try have hy8 := Nat.lt_of_succ_le hz8); (try have hx8 := Nat.lt_of_succ_lt hy8); (try have hw8 := Nat.lt_of_succ_lt hx8); (try have hv8 := Nat.lt_of_succ_lt hw8); (try have ha8 : w.heap.size < w8.heap.size := (by omega)); (try have hi8 : w.heap.size + 1 < w8.heap.size := (by omega)); (try have hj8 : w.heap.size + 1 + 1 < w8.heap.size := (by omega)); (try have hk8 : w.heap.size + 1 + 1 + 1 < w8.heap.size := (by omega)); (try have hl8 : w.heap.size + 1 + 1 + 1 + 1 < w8.heap.size := (by omega))) | (go_at_call 31; refine (Q4.out.2 _).mono ?_; rintro e w9 ⟨rfl, hb9⟩; obtain ⟨hB9, hz9, hc9, hf9⟩ := grow4 (w := w) (by go_grown) hb9; (try simp only [World.size_alloc, World.size_setCell, World.size_drew] at hz9); (try have hy9 := Nat.lt_of_succ_le hz9); (try have hx9 := Nat.lt_of_succ_lt hy9); (try have hw9 := Nat.lt_of_succ_lt hx9); (try have hv9 := Nat.lt_of_succ_lt hw9); (try have ha9 : w.heap.size < w9.heap.size := (by omega)); (try have hi9 : w.heap.size + 1 < w9.heap.size := (by omega)); (try have hj9 : w.heap.size + 1 + 1 < w9.heap.size := (by omega)); (try have hk9 : w.heap.size + 1 + 1 + 1 < w9.heap.size := (by omega)); (try have hl9 : w.heap.size + 1 + 1 + 1 + 1 < w9.heap.size := (by omega))) | (go_at_call 32; refine (Q5.out.1 _).mono ?_; rintro e w10 ⟨rfl, hb10⟩; obtain ⟨hB10, hz10, hc10, hf10⟩ := grow4 (w := w) (by go_grown) hb10; (try simp only [World.size_alloc, World.size_setCell, World.size_drew] at hz10); (try have hy10 := Nat.lt_of_succ_le hz10); (try have hx10 := Nat.lt_of_succ_lt hy10); (try have hw10 := Nat.lt_of_succ_lt hx10); (try have hv10 := Nat.lt_of_succ_lt hw10); (try have ha10 : w.heap.size < w10.heap.size := (by omega)); (try have hi10 : w.heap.size + 1 < w10.heap.size := (by omega)); (try have hj10 : w.heap.size + 1 + 1 < w10.heap.size := (by omega)); (try have hk10 : w.heap.size + 1 + 1 + 1 < w10.heap.size := (by omega)); (try have hl10 : w.heap.size + 1 + 1 + 1 + 1 < w10.heap.size := (by omega))) | (go_at_call 33; refine (Q5.out.2 _).mono ?_; rintro e w11 ⟨rfl, hb11⟩; obtain ⟨hB11, hz11, hc11, hf11⟩ := grow4 (w := w) (by go_grown) hb11; (try simp only [World.size_alloc, World.size_setCell, World.size_drew] at hz11); (try have hy11 := Nat.lt_of_succ_le hz11); (try have hx11 := Nat.lt_of_succ_lt hy11); (try have hw11 := Nat.lt_of_succ_lt hx11); (try have hv11 := Nat.lt_of_succ_lt hw11); (try have ha11 : w.heap.size < w11.heap.size := (by omega)); (try have hi11 : w.heap.size + 1 < w11.heap.size := (by omega)); (try have hj11 : w.heap.size + 1 + 1 < w11.heap.size := (by omega)); (try have hk11 : w.heap.size + 1 + 1 + 1 < w11.heap.size := (by omega)); (try have hl11 : w.heap.size + 1 + 1 + 1 + 1 < w11.heap.size := (by omega))) | (go_at_call 19; refine (fine_any _ (HT.out.below (by assumption : Below w.heap.size w _) hz)).mono ?_; rintro e w12 ⟨rfl, hb12⟩; obtain ⟨hB12, hz12, hc12, hf12⟩ := grow4 (w := w) (by go_grown) hb12; (try simp only [World.size_alloc, World.size_setCell, World.size_drew] at hz12); (try have hy12 := Nat.lt_of_succ_le hz12); (try have hx12 := Nat.lt_of_succ_lt hy12); (try have hw12 := Nat.lt_of_succ_lt hx12); (try have hv12 := Nat.lt_of_succ_lt hw12); (try have ha12 : w.heap.size < w12.heap.size := (by omega)); (try have hi12 : w.heap.size + 1 < w12.heap.size := (by omega)); (try have hj12 : w.heap.size + 1 + 1 < w12.heap.size := (by omega)); (try have hk12 : w.heap.size + 1 + 1 + 1 < w12.heap.size := (by omega)); (try have hl12 : w.heap.size + 1 + 1 + 1 + 1 < w12.heap.size := (by omega))))
  go_returns
  exact ⟨rfl, hB12⟩
end Go.Proofs.YtfcjdmpfoogljaaDoor
