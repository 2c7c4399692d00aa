/-
  TurfNear: whatever the spots, the scale, the radius and the part, the law returns true (its walk).
-/
import Derived.Test.YtfcjdmpfoogljaaDoorNrA
import Derived.Test.YtfcjdmpfoogljaaDoorNrB
import Derived.Test.YtfcjdmpfoogljaaDoorNrC
import Derived.Test.YtfcjdmpfoogljaaDoorNrD
import Derived.Test.YtfcjdmpfoogljaaDoorNrE
import Derived.Test.YtfcjdmpfoogljaaDoorNrF
import Derived.Test.YtfcjdmpfoogljaaDoorNrG
import Derived.Test.YtfcjdmpfoogljaaDoorNrH
set_option linter.unusedVariables false
set_option linter.unusedSimpArgs false
namespace Go.Proofs.YtfcjdmpfoogljaaDoor
open Go.ChangeShapes Go.WideShapes Go.ChangeAt Go.RowKit

theorem In_move {x y b c : Int} (h1 : -2097152 ≤ x) (h2 : x ≤ 2097152) (h3 : -2097152 ≤ y) (h4 : y ≤ 2097152) (b1 : -32768 ≤ b) (b2 : b ≤ 32767) (c1 : -32768 ≤ c) (c2 : c ≤ 32767) : M.In (x + b) (y + c) := ⟨⟨by omega, by omega⟩, ⟨by omega, by omega⟩⟩
set_option maxHeartbeats 1000000 in
theorem near_walk (s0 s1 t0 t1 u0 u1 m r part b0 b1 : Int) (w : World) (ht : Tab w) (a1 : -32768 ≤ s0) (a2 : s0 ≤ 32767) (a3 : -32768 ≤ s1) (a4 : s1 ≤ 32767) (c1 : -32768 ≤ t0) (c2 : t0 ≤ 32767) (c3 : -32768 ≤ t1) (c4 : t1 ≤ 32767) (d1 : -32768 ≤ u0) (d2 : u0 ≤ 32767) (d3 : -32768 ≤ u1) (d4 : u1 ≤ 32767) (m1 : 0 ≤ m) (m2 : m ≤ 255) (r1 : 0 ≤ r) (r2 : r ≤ 65535) (p1 : 0 ≤ part) (p2 : part ≤ 255) (e1 : -32768 ≤ b0) (e2 : b0 ≤ 32767) (e3 : -32768 ≤ b1) (e4 : b1 ≤ 32767) :
    Calls Tryd.prog 9 #[.agg #[.int .i16 s0, .int .i16 s1], .agg #[.int .i16 t0, .int .i16 t1], .agg #[.int .i16 u0, .int .i16 u1], .int .u8 m, .int .u16 r, .int .u8 part, .agg #[.int .i16 b0, .int .i16 b1]] w fun e w' => e = .returned (.bool true) ∧ Below w.heap.size w w' := by
  have AT1 := fun w => at_any s0 s1 m w a1 a2 a3 a4 m1 m2
  have AT2 := fun w => at_any t0 t1 m w c1 c2 c3 c4 m1 m2
  have AT3 := fun w => at_any u0 u1 m w d1 d2 d3 d4 m1 m2
  obtain ⟨f1, f2⟩ := M.at_bd s0 m a1 a2
  obtain ⟨f3, f4⟩ := M.at_bd s1 m a3 a4
  obtain ⟨g1, g2⟩ := M.at_bd t0 m c1 c2
  obtain ⟨g3, g4⟩ := M.at_bd t1 m c3 c4
  obtain ⟨h1, h2⟩ := M.at_bd u0 m d1 d2
  obtain ⟨h3, h4⟩ := M.at_bd u1 m d3 d4
  have i1 := M.at_in s0 s1 m a1 a2 a3 a4
  have i2 := M.at_in t0 t1 m c1 c2 c3 c4
  have i3 := M.at_in u0 u1 m d1 d2 d3 d4
  generalize s0 * M.scale m = A0 at *
  generalize s1 * M.scale m = A1 at *
  generalize t0 * M.scale m = B0 at *
  generalize t1 * M.scale m = B1 at *
  generalize u0 * M.scale m = C0 at *
  generalize u1 * M.scale m = C1 at *
  have n3 : 0 ≤ 3 * r * (1 + m % 64) ∧ 3 * r * (1 + m % 64) ≤ 196605 * 64 := M.mul_range (3 * r) (1 + m % 64) 196605 64 (by omega) (by omega) (by omega) (by omega)
  have n1 : 0 ≤ 3 * r * (1 + m % 64) / 2 := by omega
  have n2 : 3 * r * (1 + m % 64) / 2 ≤ 8388608 := by omega
  have K1 : 0 ≤ part % 16 := by omega
  have K2 : part % 16 ≤ 15 := by omega
  have MV1 := fun w => move_any A0 A1 b0 b1 w (by omega) (by omega) (by omega) (by omega) e1 e2 e3 e4
  have MV2 := fun w => move_any B0 B1 b0 b1 w (by omega) (by omega) (by omega) (by omega) e1 e2 e3 e4
  have MV3 := fun w => move_any C0 C1 b0 b1 w (by omega) (by omega) (by omega) (by omega) e1 e2 e3 e4
  have LI1 := fun w => Lies_ok A0 A1 B0 B1 C0 C1 (3 * r * (1 + m % 64) / 2) w i1 i2 i3 n1 n2
  have LI2 := fun w => Lies_ok B0 B1 A0 A1 C0 C1 (3 * r * (1 + m % 64) / 2) w i2 i1 i3 n1 n2
  have LI3 := fun w => Lies_ok (A0 + b0) (A1 + b1) (B0 + b0) (B1 + b1) (C0 + b0) (C1 + b1) (3 * r * (1 + m % 64) / 2) w (In_move f1 f2 f3 f4 e1 e2 e3 e4) (In_move g1 g2 g3 g4 e1 e2 e3 e4) (In_move h1 h2 h3 h4 e1 e2 e3 e4) n1 n2
  rw [M.liesV_back] at LI2
  rw [M.liesV_move] at LI3
  obtain ⟨q1, q2⟩ := M.lies_far A0 A1 B0 B1 C0 C1 (3 * r * (1 + m % 64) / 2) (part % 16) K1 K2
  have CU := fun (k1 : 1 ≤ 3 * r * (1 + m % 64) / 2) (k2 : 3 * r * (1 + m % 64) / 2 ≤ 65536) w => Cuts_ok A0 A1 B0 B1 C0 C1 (3 * r * (1 + m % 64) / 2) w i1 i2 (chkDisc_of i3 k1 k2)
  have hz := M.lies_at A0 A1 C0 C1
  have hN : ∀ N : Int, M.liesV A0 A1 B0 B1 C0 C1 N = M.liesV A0 A1 B0 B1 C0 C1 N := fun _ => rfl
  rcases Int.lt_trichotomy (M.liesV A0 A1 B0 B1 C0 C1 (3 * r * (1 + m % 64) / 2)) 0 with hh | hh | hh
  · by_cases k : 3 * r * (1 + m % 64) / 2 < 1 ∨ 65536 < 3 * r * (1 + m % 64) / 2
    · exact nr_lt s0 s1 t0 t1 u0 u1 m r part b0 b1 A0 A1 B0 B1 C0 C1 _ w ht m1 m2 r1 r2 p1 p2 AT1 AT2 AT3 MV1 MV2 MV3 LI1 LI2 LI3 i1 i2 i3 hh k
    · have CU' := CU (by omega) (by omega)
      rw [decide_eq_true hh] at CU'
      exact nr_ltc s0 s1 t0 t1 u0 u1 m r part b0 b1 A0 A1 B0 B1 C0 C1 _ w ht m1 m2 r1 r2 p1 p2 AT1 AT2 AT3 MV1 MV2 MV3 LI1 LI2 LI3 i1 i2 i3 hh (by omega) (by omega) CU'
  · by_cases kz : 3 * r * (1 + m % 64) / 2 = 0
    · rw [hh] at LI1 LI2 LI3
      by_cases k0 : A0 = B0
      · subst k0
        by_cases k1 : A1 = B1
        · subst k1
          rw [kz] at hh
          obtain ⟨rfl, rfl⟩ := hz hh
          exact nr_z3 s0 s1 t0 t1 u0 u1 m r part b0 b1 A0 A1 0 w ht m1 m2 r1 r2 p1 p2 AT1 AT2 AT3 MV1 LI1 LI3 i1 kz
        · exact nr_z2 s0 s1 t0 t1 u0 u1 m r part b0 b1 A0 A1 B1 C0 C1 0 w ht m1 m2 r1 r2 p1 p2 AT1 AT2 AT3 MV1 MV2 MV3 LI1 LI2 LI3 i1 i2 i3 kz k1
      · exact nr_z1 s0 s1 t0 t1 u0 u1 m r part b0 b1 A0 A1 B0 B1 C0 C1 0 w ht m1 m2 r1 r2 p1 p2 AT1 AT2 AT3 MV1 MV2 MV3 LI1 LI2 LI3 i1 i2 i3 kz k0
    · have q := q1 (by omega)
      have hnn : ¬ M.liesV A0 A1 B0 B1 C0 C1 (3 * r * (1 + m % 64) / 2) < 0 := by omega
      by_cases k : 3 * r * (1 + m % 64) / 2 < 1 ∨ 65536 < 3 * r * (1 + m % 64) / 2
      · rw [hh] at LI1 LI2 LI3
        exact nr_eq s0 s1 t0 t1 u0 u1 m r part b0 b1 A0 A1 B0 B1 C0 C1 0 w ht m1 m2 r1 r2 p1 p2 AT1 AT2 AT3 MV1 MV2 MV3 LI1 LI2 LI3 i1 i2 i3 kz q (by omega)
      · have CU' := CU (by omega) (by omega)
        rw [decide_eq_false hnn] at CU'
        rw [hh] at LI1 LI2 LI3
        exact nr_eqc s0 s1 t0 t1 u0 u1 m r part b0 b1 A0 A1 B0 B1 C0 C1 0 w ht m1 m2 r1 r2 p1 p2 AT1 AT2 AT3 MV1 MV2 MV3 LI1 LI2 LI3 i1 i2 i3 kz q (by omega) (by omega) CU'
  · have q := q2 hh
    have hnn : ¬ M.liesV A0 A1 B0 B1 C0 C1 (3 * r * (1 + m % 64) / 2) < 0 := by omega
    by_cases k : 3 * r * (1 + m % 64) / 2 < 1 ∨ 65536 < 3 * r * (1 + m % 64) / 2
    · exact nr_gt s0 s1 t0 t1 u0 u1 m r part b0 b1 A0 A1 B0 B1 C0 C1 _ w ht m1 m2 r1 r2 p1 p2 AT1 AT2 AT3 MV1 MV2 MV3 LI1 LI2 LI3 i1 i2 i3 hh q k
    · have CU' := CU (by omega) (by omega)
      rw [decide_eq_false hnn] at CU'
      exact nr_gtc s0 s1 t0 t1 u0 u1 m r part b0 b1 A0 A1 B0 B1 C0 C1 _ w ht m1 m2 r1 r2 p1 p2 AT1 AT2 AT3 MV1 MV2 MV3 LI1 LI2 LI3 i1 i2 i3 hh q (by omega) (by omega) CU'
end Go.Proofs.YtfcjdmpfoogljaaDoor
