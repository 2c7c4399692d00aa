/-
  TurfRound: whatever the spots, the scale and the radius, the law returns true (its walk).
-/
import Derived.Test.YtfcjdmpfoogljaaDoorRdA
import Derived.Test.YtfcjdmpfoogljaaDoorRdB
import Derived.Test.YtfcjdmpfoogljaaDoorSegR
set_option linter.unusedVariables false
set_option linter.unusedSimpArgs false
namespace Go.Proofs.YtfcjdmpfoogljaaDoor
open Go.ChangeShapes Go.WideShapes Go.ChangeAt Go.RowKit

theorem ring_in (x y r : Int) (hx : -2097152 ≤ x) (hx2 : x ≤ 2097152) (hy : -2097152 ≤ y) (hy2 : y ≤ 2097152) (hr : 0 ≤ r) (hr2 : r ≤ 65536) : M.chk (ringPts x y r) = 0 := by
  rcases M.chk_cases (ringPts x y r) with ⟨h, _⟩ | ⟨_, p, hp, hn⟩
  · exact h
  · exfalso
    unfold ringPts at hp
    obtain ⟨k, hk, rfl⟩ := List.mem_map.1 hp
    have hf := (corner_far r hr hr2 k (List.mem_range.1 hk)).1
    have bd : ∀ z : Int, z * z ≤ r * r → -r ≤ z ∧ z ≤ r := by
      intro z hz
      have e : (r + 1) * (r + 1) = r * r + 2 * r + 1 := by grind
      constructor
      · rcases M.lt_or_ge' z (-r) with q | q
        · have := sq_mono (a := r + 1) (b := -z) (by omega) (by omega)
          have e2 : -z * -z = z * z := by grind
          omega
        · exact q
      · rcases M.lt_or_ge' r z with q | q
        · have := sq_mono (a := r + 1) (b := z) (by omega) (by omega)
          omega
        · exact q
    have q1 := M.sq_nonneg (cu r k)
    have q2 := M.sq_nonneg (cv r k)
    have t1 : -r ≤ (r * pc k).tdiv 4096 ∧ (r * pc k).tdiv 4096 ≤ r := bd (cu r k) (by omega)
    have t2 : -r ≤ (r * ps k).tdiv 4096 ∧ (r * ps k).tdiv 4096 ≤ r := bd (cv r k) (by omega)
    exact hn ⟨⟨by simp only [rpt]; omega, by simp only [rpt]; omega⟩, ⟨by simp only [rpt]; omega, by simp only [rpt]; omega⟩⟩
theorem sq_rpt (x y r : Int) (k : Nat) : M.sq (rpt x y r k).1 (rpt x y r k).2 x y = cu r k * cu r k + cv r k * cv r k := by
  have h : rpt x y r k = (x + cu r k, y + cv r k) := rfl
  rw [h]
  unfold M.sq
  grind
set_option maxHeartbeats 1000000 in
theorem round_walk (s0 s1 t0 t1 u0 u1 m r : Int) (w : World) (ht : Tab w) (a1 : -32768 ≤ s0) (a2 : s0 ≤ 32767) (a3 : -32768 ≤ s1) (a4 : s1 ≤ 32767) (c1 : -32768 ≤ t0) (c2 : t0 ≤ 32767) (c3 : -32768 ≤ t1) (c4 : t1 ≤ 32767) (d1 : -32768 ≤ u0) (d2 : u0 ≤ 32767) (d3 : -32768 ≤ u1) (d4 : u1 ≤ 32767) (m1 : 0 ≤ m) (m2 : m ≤ 255) (r1 : 0 ≤ r) (r2 : r ≤ 65535) :
    Calls Tryd.prog 10 #[.agg #[.int .i16 s0, .int .i16 s1], .agg #[.int .i16 t0, .int .i16 t1], .agg #[.int .i16 u0, .int .i16 u1], .int .u8 m, .int .u16 r] w fun e w' => e = .returned (.bool true) ∧ Below w.heap.size w w' := by
  have AT1 := fun w => at_any s0 s1 m w a1 a2 a3 a4 m1 m2
  have AT2 := fun w => at_any t0 t1 m w c1 c2 c3 c4 m1 m2
  have AT3 := fun w => at_any u0 u1 m w d1 d2 d3 d4 m1 m2
  obtain ⟨h1, h2⟩ := M.at_bd u0 m d1 d2
  obtain ⟨h3, h4⟩ := M.at_bd u1 m d3 d4
  have i1 := M.at_in s0 s1 m a1 a2 a3 a4
  have i2 := M.at_in t0 t1 m c1 c2 c3 c4
  have i3 := M.at_in u0 u1 m d1 d2 d3 d4
  generalize s0 * M.scale m = A0 at *
  generalize s1 * M.scale m = A1 at *
  generalize t0 * M.scale m = B0 at *
  generalize t1 * M.scale m = B1 at *
  generalize u0 * M.scale m = C0 at *
  generalize u1 * M.scale m = C1 at *
  have hd : chkDisc C0 C1 (1 + r) = 0 := chkDisc_of i3 (by omega) (by omega)
  have hc : M.chk (ringPts C0 C1 (1 + r)) = 0 := ring_in C0 C1 (1 + r) h1 h2 h3 h4 (by omega) (by omega)
  have CU := fun w => Cuts_ok A0 A1 B0 B1 C0 C1 (1 + r) w i1 i2 hd
  have PA := fun w ht => Passes_ok A0 A1 B0 B1 C0 C1 (1 + r) w ht i1 i2 hd hc
  have SK : ∀ k : Nat, k < 16 → M.sq (rpt C0 C1 (1 + r) k).1 (rpt C0 C1 (1 + r) k).2 C0 C1 ≤ (1 + r) * (1 + r) ∧ (0 < (1 + r) - (1 + r) / 8192 - 3 → ((1 + r) - (1 + r) / 8192 - 3) * ((1 + r) - (1 + r) / 8192 - 3) ≤ M.sq (rpt C0 C1 (1 + r) k).1 (rpt C0 C1 (1 + r) k).2 C0 C1) := by
    intro k hk
    rw [sq_rpt]
    obtain ⟨f1, f2⟩ := corner_far (1 + r) (by omega) (by omega) k hk
    exact ⟨f1, fun hp => f2 _ (by omega) (Int.le_refl _)⟩
  have SA := fun w => Square_ok A0 A1 C0 C1 w i1 i3
  have SB := fun w => Square_ok B0 B1 C0 C1 w i2 i3
  have LI := fun (hn : 0 < 15 * (1 + r) / 16 - 8) w => Lies_ok A0 A1 B0 B1 C0 C1 (15 * (1 + r) / 16 - 8) w i1 i2 i3 (by omega) (by omega)
  by_cases hX : M.CrossP ((sidesTo (rpt C0 C1 (1 + r)) 16).map (lr (rpt C0 C1 (1 + r)) A0 A1 B0 B1))
  · have hcut := pass_cut C0 C1 (1 + r) A0 A1 B0 B1 (by omega) (by omega) hX
    rw [decide_eq_true hcut] at CU
    exact rd_t s0 s1 t0 t1 u0 u1 m r A0 A1 B0 B1 C0 C1 _ _ _ true w ht r1 r2 AT1 AT2 AT3 i3 hd hc CU (fun w ht => (PA w ht).mono fun e w' ⟨⟨r', he, hr⟩, hb⟩ => ⟨by rw [he, hr.2 hX], hb⟩) SK SA SB LI
  · refine rd_f s0 s1 t0 t1 u0 u1 m r A0 A1 B0 B1 C0 C1 _ _ _ _ w ht r1 r2 AT1 AT2 AT3 i3 hd hc CU (fun w ht => (PA w ht).mono fun e w' ⟨⟨r', he, hr⟩, hb⟩ => ⟨by rw [he, show r' = false from by cases r' <;> first | rfl | exact absurd (hr.1 rfl) hX], hb⟩) SK SA SB LI ?_
    intro hn
    rcases M.lt_or_ge' (M.liesV A0 A1 B0 B1 C0 C1 (15 * (1 + r) / 16 - 8)) 0 with k | k
    · rcases M.lt_or_ge' ((1 + r) * (1 + r)) (M.sq A0 A1 C0 C1) with k1 | k1
      · rcases M.lt_or_ge' ((1 + r) * (1 + r)) (M.sq B0 B1 C0 C1) with k2 | k2
        · exact absurd (near_pass C0 C1 (1 + r) A0 A1 B0 B1 (15 * (1 + r) / 16 - 8) (by omega) hn (by omega) k k1 k2) hX
        · exact .inr (.inr k2)
      · exact .inr (.inl k1)
    · exact .inl k
end Go.Proofs.YtfcjdmpfoogljaaDoor
