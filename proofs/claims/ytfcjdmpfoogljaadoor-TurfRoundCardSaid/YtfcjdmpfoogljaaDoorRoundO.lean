/-
  Mathematics of rings: what passes the ring cuts the disc; what comes near enough to the middle passes the ring.
-/
import Derived.Test.YtfcjdmpfoogljaaDoorRoundN
import Derived.Test.YtfcjdmpfoogljaaDoorPass
set_option linter.unusedVariables false
namespace Go.Proofs.YtfcjdmpfoogljaaDoor

theorem side_mem {x y r : Int} {k : Nat} (hk : k < 16) (h : cD r k ≠ 0) : k ∈ sidesTo (rpt x y r) 16 := by
  unfold sidesTo
  rw [List.mem_filter, List.mem_range]
  refine ⟨hk, decide_eq_true fun e => h ?_⟩
  have e1 : x + cu r k = x + cu r (nxt k) := congrArg Prod.fst e
  have e2 : y + cv r k = y + cv r (nxt k) := congrArg Prod.snd e
  have e3 : cu r k = cu r (nxt k) := by omega
  have e4 : cv r k = cv r (nxt k) := by omega
  unfold cD
  rw [e3, e4]
  grind
theorem sides_lt {pt : Nat → Int × Int} {k : Nat} (h : k ∈ sidesTo pt 16) : k < 16 := by
  unfold sidesTo at h
  rw [List.mem_filter, List.mem_range] at h
  exact h.1
theorem near_pass (x y r a0 a1 b0 b1 n : Int) (hr : 0 ≤ r) (hn : 0 < n) (h : 16 * n ≤ 15 * r - 128) (hl : M.liesV a0 a1 b0 b1 x y n < 0) (ha : r * r < M.sq a0 a1 x y) (hb : r * r < M.sq b0 b1 x y) :
    M.CrossP ((sidesTo (rpt x y r) 16).map (lr (rpt x y r) a0 a1 b0 b1)) := by
  have hnr : n * n ≤ r * r := sq_mono (by omega) (by omega)
  unfold M.liesV at hl
  split at hl
  · have := M.cmp_neg_iff.1 hl; omega
  split at hl
  · have := M.cmp_neg_iff.1 hl; omega
  rename_i hT hS
  have hc := M.cmp_neg_iff.1 hl
  have hS1 : ∃ S, S = M.sq a0 a1 b0 b1 := ⟨_, rfl⟩
  obtain ⟨S, hS1⟩ := hS1
  have hT1 : ∃ T, T = M.ahead a0 a1 b0 b1 x y := ⟨_, rfl⟩
  obtain ⟨T, hT1⟩ := hT1
  have hL1 : ∃ l, l = M.left a0 a1 b0 b1 x y := ⟨_, rfl⟩
  obtain ⟨l, hL1⟩ := hL1
  rw [← hS1, ← hL1] at hc
  rw [← hT1] at hT
  rw [← hS1, ← hT1] at hS
  have m0 := side_far r n hr hn h 0 (by omega)
  refine cross_of (S := S) (T := T) ?_ (by omega) (by omega) (by omega) ?_
  · intro e
    have := List.map_eq_nil_iff.1 e
    have hm := side_mem (x := x) (y := y) (r := r) (k := 0) (by omega) (by omega)
    rw [this] at hm
    cases hm
  · intro i hi
    obtain ⟨k, hk, rfl⟩ := List.mem_map.1 hi
    have hk16 := sides_lt hk
    obtain ⟨hD, hE, hf⟩ := side_far r n hr hn h k hk16
    unfold lr
    simp only []
    rw [left_side, left_side]
    have hex : ∃ ex, ex = cu r (nxt k) - cu r k := ⟨_, rfl⟩
    obtain ⟨ex, hex⟩ := hex
    have hey : ∃ ey, ey = cv r (nxt k) - cv r k := ⟨_, rfl⟩
    obtain ⟨ey, hey⟩ := hey
    have hE2 : cE r k = ex * ex + ey * ey := by rw [hex, hey]; rfl
    rw [← hex, ← hey]
    rw [hE2] at hE hf
    generalize cD r k = D at *
    have hz0 : ∃ z0, z0 = S * (a0 - x) + T * (b0 - a0) := ⟨_, rfl⟩
    obtain ⟨z0, hz0⟩ := hz0
    have hz1 : ∃ z1, z1 = S * (a1 - y) + T * (b1 - a1) := ⟨_, rfl⟩
    obtain ⟨z1, hz1⟩ := hz1
    have id1 : (S - T) * (D + ex * (a1 - y) - ey * (a0 - x)) + T * (D + ex * (b1 - y) - ey * (b0 - x)) = S * D + (ex * z1 - ey * z0) := by rw [hz0, hz1]; grind
    have id2 : z0 * z0 + z1 * z1 = S * (l * l) := by
      rw [hz0, hz1, hS1, hT1, hL1]; unfold M.sq M.ahead M.left; grind
    have hct : ∃ c, c = ex * z1 - ey * z0 := ⟨_, rfl⟩
    obtain ⟨c, hct⟩ := hct
    rw [id1, ← hct]
    have id3 : (ex * ex + ey * ey) * (z0 * z0 + z1 * z1) = c * c + (ex * z0 + ey * z1) * (ex * z0 + ey * z1) := by rw [hct]; grind
    have q := M.sq_nonneg (ex * z0 + ey * z1)
    -- the square of c is less than that of S D
    have s1 : S * (l * l) < S * (n * n * S) := Int.mul_lt_mul_of_pos_left hc (by omega)
    have s2 : (ex * ex + ey * ey) * (S * (l * l)) < (ex * ex + ey * ey) * (S * (n * n * S)) := Int.mul_lt_mul_of_pos_left s1 hE
    have s3 : (ex * ex + ey * ey) * (n * n) * (S * S) ≤ D * D * (S * S) := Int.mul_le_mul_of_nonneg_right hf (M.sq_nonneg S)
    have s4 : (ex * ex + ey * ey) * (S * (n * n * S)) = (ex * ex + ey * ey) * (n * n) * (S * S) := by grind
    have s5 : S * D * (S * D) = D * D * (S * S) := by grind
    rw [id2] at id3
    have s6 : c * c < S * D * (S * D) := by omega
    have sd : 0 < S * D := Int.mul_pos (by omega) hD
    rcases M.lt_or_ge' c 0 with k1 | k1
    · have e : -c * -c = c * c := by grind
      have := M.sq_lt (a := -c) (b := S * D) (by omega) (by omega) (by omega)
      omega
    · omega
theorem Ent_congr {L L' : List (Int × Int)} (h : ∀ j, j ∈ L ↔ j ∈ L') {e1 e2 : Int} (k : M.Ent L e1 e2) : M.Ent L' e1 e2 := by
  rcases k with ⟨h1, h2, h3⟩ | ⟨i, hi, h1, h2, h3, h4, h5⟩
  · exact .inl ⟨h1, h2, fun j hj => h3 j ((h j).2 hj)⟩
  · exact .inr ⟨i, (h i).1 hi, h1, h2, h3, h4, fun j hj => h5 j ((h j).2 hj)⟩
theorem Lea_congr {L L' : List (Int × Int)} (h : ∀ j, j ∈ L ↔ j ∈ L') {e1 e2 : Int} (k : M.Lea L e1 e2) : M.Lea L' e1 e2 := by
  rcases k with ⟨h1, h2, h3⟩ | ⟨i, hi, h1, h2, h3, h4, h5⟩
  · exact .inl ⟨h1, h2, fun j hj => h3 j ((h j).2 hj)⟩
  · exact .inr ⟨i, (h i).1 hi, h1, h2, h3, h4, fun j hj => h5 j ((h j).2 hj)⟩
theorem ends_ex (L : List (Int × Int)) (hb : M.NoBad L) : ∃ e1 e2 l1 l2, M.Ent L e1 e2 ∧ M.Lea L l1 l2 := by
  induction L with
  | nil => exact ⟨0, 0, 0, 0, M.Ent.zero, M.Lea.zero⟩
  | cons x L ih =>
    obtain ⟨p, q⟩ := x
    have hb' : M.NoBad L := fun i hi => hb i (List.mem_cons_of_mem _ hi)
    have hx := hb (p, q) List.mem_cons_self
    simp only [] at hx
    obtain ⟨e1, e2, l1, l2, hE, hL⟩ := ih hb'
    have cg : ∀ j, j ∈ L ++ [(p, q)] ↔ j ∈ (p, q) :: L := fun j => by simp [or_comm]
    have hE' : ∃ e1 e2, M.Ent (L ++ [(p, q)]) e1 e2 := by
      by_cases hp : p ≤ 0
      · by_cases z : e2 = 0
        · exact ⟨_, _, hE.new hb' hp (by omega) (.inl z)⟩
        · by_cases k : e1 * (q - p) < -p * e2
          · exact ⟨_, _, hE.new hb' hp (by omega) (.inr k)⟩
          · exact ⟨_, _, hE.stay hb' z k⟩
      · exact ⟨_, _, hE.keep (by omega)⟩
    have hL' : ∃ l1 l2, M.Lea (L ++ [(p, q)]) l1 l2 := by
      by_cases hq : q ≤ 0
      · by_cases z : l2 = 0
        · exact ⟨_, _, hL.new hb' (by omega) hq (.inl z)⟩
        · by_cases k : p * l2 < l1 * (p - q)
          · exact ⟨_, _, hL.new hb' (by omega) hq (.inr k)⟩
          · exact ⟨_, _, hL.stay hb' z k⟩
      · exact ⟨_, _, hL.keep (by omega)⟩
    obtain ⟨e1', e2', h1⟩ := hE'
    obtain ⟨l1', l2', h2⟩ := hL'
    exact ⟨_, _, _, _, Ent_congr cg h1, Lea_congr cg h2⟩
theorem cross_at {L : List (Int × Int)} (h : M.CrossP L) : ∃ S T : Int, 0 ≤ T ∧ T ≤ S ∧ 0 < S ∧ ∀ i ∈ L, 0 < (S - T) * i.1 + T * i.2 := by
  have hb : M.NoBad L := h.2.1
  obtain ⟨e1, e2, l1, l2, hE, hL⟩ := ends_ex L hb
  by_cases z1 : e2 = 0
  · rcases hE with ⟨_, _, h3⟩ | ⟨_, _, _, _, _, h4, _⟩
    · exact ⟨1, 0, by omega, by omega, by omega, fun i hi => by have := h3 i hi; omega⟩
    · omega
  · by_cases z2 : l2 = 0
    · rcases hL with ⟨_, _, h3⟩ | ⟨_, _, _, _, _, h4, _⟩
      · exact ⟨1, 1, by omega, by omega, by omega, fun i hi => by have := h3 i hi; omega⟩
      · omega
    · have hc := (M.cross_both hE hL hb z1 z2).1 h
      rcases hE with ⟨_, k, _⟩ | ⟨i, hi, i1, i2, i3, i4, i5⟩
      · exact absurd k z1
      rcases hL with ⟨_, k, _⟩ | ⟨j, hj, j1, j2, j3, j4, j5⟩
      · exact absurd k z2
      have bi := hb i hi
      have bj := hb j hj
      refine ⟨e2 + l2, e1 + l1, by omega, by omega, by omega, fun m hm => ?_⟩
      have bm := hb m hm
      have hS : 0 < e2 + l2 := by omega
      have d1 : e1 * (e2 + l2) < (e1 + l1) * e2 := by
        have : e1 * (e2 + l2) = e1 * e2 + e1 * l2 := by grind
        have : (e1 + l1) * e2 = e1 * e2 + l1 * e2 := by grind
        omega
      have d2 : (e1 + l1) * l2 < l1 * (e2 + l2) := by
        have : (e1 + l1) * l2 = e1 * l2 + l1 * l2 := by grind
        have : l1 * (e2 + l2) = l1 * e2 + l1 * l2 := by grind
        omega
      have hTS : e1 + l1 ≤ e2 + l2 := by omega
      generalize e2 + l2 = S at *
      have hT0 : 0 ≤ e1 + l1 := by omega
      generalize e1 + l1 = T at *
      have e : (S - T) * m.1 + T * m.2 = S * m.1 + T * (m.2 - m.1) := by grind
      have e' : (S - T) * m.1 + T * m.2 = S * m.1 - T * (m.1 - m.2) := by grind
      by_cases hp : m.1 ≤ 0
      · have x1 := M.frac_le_lt (b := m.2 - m.1) (d := e2) (f := S) (by omega) i4 hS (i5 m hm hp) d1
        have : -m.1 * S = -(S * m.1) := by grind
        omega
      · by_cases hq : m.2 ≤ 0
        · have x1 := M.frac_lt_trans (b := S) (d := l2) (f := m.1 - m.2) hS j4 (by omega) d2 (j5 m hm hq)
          have : m.1 * S = S * m.1 := by grind
          omega
        · have a1 : 0 ≤ (S - T) * m.1 := Int.mul_nonneg (by omega) (by omega)
          have a2 : 0 ≤ T * m.2 := Int.mul_nonneg (by omega) (by omega)
          by_cases t0 : T = 0
          · subst t0
            have : 0 < (S - 0) * m.1 := Int.mul_pos (by omega) (by omega)
            omega
          · have : 0 < T * m.2 := Int.mul_pos (by omega) (by omega)
            omega
/-- The nearest place of a segment, also against any part of it. -/
theorem lies_far_part (x y u v p q n S T : Int) (h0 : 0 ≤ T) (h1 : T ≤ S) (hS : 0 < S) (h : 0 ≤ M.liesV x y u v p q n) :
    S * n * (S * n) ≤ (S * (x - p) + T * (u - x)) * (S * (x - p) + T * (u - x)) + (S * (y - q) + T * (v - y)) * (S * (y - q) + T * (v - y)) := by
  have hX : ∃ X, X = S * (x - p) + T * (u - x) := ⟨_, rfl⟩
  obtain ⟨X, hX⟩ := hX
  have hY : ∃ Y, Y = S * (y - q) + T * (v - y) := ⟨_, rfl⟩
  obtain ⟨Y, hY⟩ := hY
  rw [← hX, ← hY]
  have main : ∃ A B m : Int, 0 < m ∧ M.liesV x y u v p q n = M.cmp A B ∧ (S * S * A ≤ m * (X * X + Y * Y)) ∧ B = m * (n * n) := by
    unfold M.liesV
    by_cases k1 : M.ahead x y u v p q ≤ 0
    · rw [if_pos k1]
      refine ⟨M.sq x y p q, n * n, 1, by omega, rfl, ?_, by omega⟩
      have id : X * X + Y * Y = S * S * M.sq x y p q - 2 * (S * (T * M.ahead x y u v p q)) + (T * (u - x)) * (T * (u - x)) + (T * (v - y)) * (T * (v - y)) := by
        rw [hX, hY]; unfold M.sq M.ahead; grind
      have a1 : T * M.ahead x y u v p q ≤ T * 0 := Int.mul_le_mul_of_nonneg_left k1 h0
      have a4 : S * (T * M.ahead x y u v p q) ≤ S * 0 := Int.mul_le_mul_of_nonneg_left (by omega) (by omega)
      have a2 := M.sq_nonneg (T * (u - x))
      have a3 := M.sq_nonneg (T * (v - y))
      omega
    · rw [if_neg k1]
      by_cases k2 : M.sq x y u v ≤ M.ahead x y u v p q
      · rw [if_pos k2]
        refine ⟨M.sq u v p q, n * n, 1, by omega, rfl, ?_, by omega⟩
        have id : X * X + Y * Y = S * S * M.sq u v p q + 2 * (S * ((S - T) * (M.ahead x y u v p q - M.sq x y u v))) + ((S - T) * (u - x)) * ((S - T) * (u - x)) + ((S - T) * (v - y)) * ((S - T) * (v - y)) := by
          rw [hX, hY]; unfold M.sq M.ahead; grind
        have a1 : 0 ≤ S * ((S - T) * (M.ahead x y u v p q - M.sq x y u v)) := Int.mul_nonneg (by omega) (Int.mul_nonneg (by omega) (by omega))
        have a2 := M.sq_nonneg ((S - T) * (u - x))
        have a3 := M.sq_nonneg ((S - T) * (v - y))
        omega
      · rw [if_neg k2]
        refine ⟨M.left x y u v p q * M.left x y u v p q, n * n * M.sq x y u v, M.sq x y u v, by omega, rfl, ?_, by grind⟩
        have id : M.sq x y u v * (X * X + Y * Y) = S * S * (M.left x y u v p q * M.left x y u v p q) + (X * (u - x) + Y * (v - y)) * (X * (u - x) + Y * (v - y)) := by
          rw [hX, hY]; unfold M.sq M.left; grind
        have a2 := M.sq_nonneg (X * (u - x) + Y * (v - y))
        omega
  obtain ⟨A, B, m, hm, hl, hA, hB⟩ := main
  rw [hl] at h
  have k := M.cmp_nonneg h
  have k2 : S * S * B ≤ S * S * A := Int.mul_le_mul_of_nonneg_left k (M.sq_nonneg S)
  have x1 : m * (S * n * (S * n)) ≤ m * (X * X + Y * Y) := by
    have : S * S * B = m * (S * n * (S * n)) := by rw [hB]; grind
    omega
  exact Int.le_of_mul_le_mul_left x1 hm
/-- Where what was not below 0 is not above 0 any more. -/
theorem sign_turn (f : Nat → Int) (m : Nat) (h0 : 0 ≤ f m) (h4 : f (m + 4) ≤ 0) : ∃ k, m ≤ k ∧ k < m + 4 ∧ 0 ≤ f k ∧ f (k + 1) ≤ 0 := by
  by_cases h1 : f (m + 1) ≤ 0
  · exact ⟨m, by omega, by omega, h0, h1⟩
  by_cases h2 : f (m + 2) ≤ 0
  · exact ⟨m + 1, by omega, by omega, by omega, h2⟩
  by_cases h3 : f (m + 3) ≤ 0
  · exact ⟨m + 2, by omega, by omega, by omega, h3⟩
  exact ⟨m + 3, by omega, by omega, by omega, h4⟩
theorem sector (r z0 z1 : Int) (hr : 0 ≤ r) : ∃ k, k < 16 ∧ 0 ≤ cu r k * z1 - cv r k * z0 ∧ cu r (nxt k) * z1 - cv r (nxt k) * z0 ≤ 0 := by
  obtain ⟨c0, c1, c2, c3, c4, c5, c6, c7, c8, c9, c10, c11, c12, c13, c14, c15⟩ := corner16 r hr
  have up : ∀ m, m < 12 → 0 ≤ cu r m * z1 - cv r m * z0 → cu r (m + 4) * z1 - cv r (m + 4) * z0 ≤ 0 → ∃ k, k < 16 ∧ 0 ≤ cu r k * z1 - cv r k * z0 ∧ cu r (nxt k) * z1 - cv r (nxt k) * z0 ≤ 0 := by
    intro m hm a b
    obtain ⟨k, k1, k2, k3, k4⟩ := sign_turn (fun k => cu r k * z1 - cv r k * z0) m a b
    exact ⟨k, by omega, k3, by rw [nxt_lt k (by omega)]; exact k4⟩
  have p1 : 0 ≤ z1 → 0 ≤ r * z1 := fun h => Int.mul_nonneg hr h
  have p0 : 0 ≤ z0 → 0 ≤ r * z0 := fun h => Int.mul_nonneg hr h
  have n1 : z1 ≤ 0 → r * z1 ≤ 0 := fun h => by have : r * z1 ≤ r * 0 := Int.mul_le_mul_of_nonneg_left h hr; omega
  have n0 : z0 ≤ 0 → r * z0 ≤ 0 := fun h => by have : r * z0 ≤ r * 0 := Int.mul_le_mul_of_nonneg_left h hr; omega
  have m1 : -r * z1 = -(r * z1) := by grind
  have m0 : -r * z0 = -(r * z0) := by grind
  by_cases a : 0 ≤ z1
  · by_cases b : 0 ≤ z0
    · exact up 0 (by omega) (by rw [c0.1, c0.2]; have := p1 a; omega) (by rw [c4.1, c4.2]; have := p0 b; omega)
    · exact up 4 (by omega) (by rw [c4.1, c4.2]; have := n0 (by omega); omega) (by rw [c8.1, c8.2]; have := p1 a; omega)
  · by_cases b : z0 ≤ 0
    · exact up 8 (by omega) (by rw [c8.1, c8.2]; have := n1 (by omega); omega) (by rw [c12.1, c12.2]; have := n0 b; omega)
    · -- the last quarter ends at the first corner
      by_cases h13 : cu r 13 * z1 - cv r 13 * z0 ≤ 0
      · exact ⟨12, by omega, by rw [c12.1, c12.2]; have := p0 (by omega); omega, h13⟩
      by_cases h14 : cu r 14 * z1 - cv r 14 * z0 ≤ 0
      · exact ⟨13, by omega, by omega, h14⟩
      by_cases h15 : cu r 15 * z1 - cv r 15 * z0 ≤ 0
      · exact ⟨14, by omega, by omega, h15⟩
      exact ⟨15, by omega, by omega, by rw [nxt_15, c0.1, c0.2]; have := n1 (by omega); omega⟩
theorem cD_pos (r : Int) (hr : 3 ≤ r) (k : Nat) (hk : k < 16) : 0 < cD r k := by
  obtain ⟨⟨u1, u2⟩, ⟨v1, v2⟩, ⟨w1, w2⟩, u0, v0, w0⟩ := q_bd r (by omega)
  rcases sideAB r (by omega) k hk with ⟨hD, _⟩ | ⟨hD, _⟩ <;> rw [hD]
  · exact Int.mul_pos (by omega) (by omega)
  · exact Int.mul_pos (by omega) (by omega)
theorem pass_cut (x y r a0 a1 b0 b1 : Int) (hr : 1 ≤ r) (hr2 : r ≤ 65536) (h : M.CrossP ((sidesTo (rpt x y r) 16).map (lr (rpt x y r) a0 a1 b0 b1))) : M.liesV a0 a1 b0 b1 x y r < 0 := by
  obtain ⟨S, T, h0, h1, hS, hall⟩ := cross_at h
  have hz0 : ∃ z0, z0 = S * (a0 - x) + T * (b0 - a0) := ⟨_, rfl⟩
  obtain ⟨z0, hz0⟩ := hz0
  have hz1 : ∃ z1, z1 = S * (a1 - y) + T * (b1 - a1) := ⟨_, rfl⟩
  obtain ⟨z1, hz1⟩ := hz1
  have side : ∀ k, k < 16 → k ∈ sidesTo (rpt x y r) 16 → 0 < S * cD r k + ((cu r (nxt k) - cu r k) * z1 - (cv r (nxt k) - cv r k) * z0) := by
    intro k hk hm
    have := hall _ (List.mem_map_of_mem (f := lr (rpt x y r) a0 a1 b0 b1) hm)
    unfold lr at this
    simp only [] at this
    rw [left_side, left_side] at this
    have id1 : (S - T) * (cD r k + (cu r (nxt k) - cu r k) * (a1 - y) - (cv r (nxt k) - cv r k) * (a0 - x)) + T * (cD r k + (cu r (nxt k) - cu r k) * (b1 - y) - (cv r (nxt k) - cv r k) * (b0 - x)) = S * cD r k + ((cu r (nxt k) - cu r k) * z1 - (cv r (nxt k) - cv r k) * z0) := by rw [hz0, hz1]; grind
    omega
  by_cases h3 : r < 3
  · -- two sides that no point is on the left of
    exfalso
    obtain ⟨c0, c1, c2, c3, c4, c5, c6, c7, c8, c9, c10, c11, c12, c13, c14, c15⟩ := corner16 r (by omega)
    obtain ⟨⟨u1, u2⟩, ⟨v1, v2⟩, ⟨w1, w2⟩, u0, v0, w0⟩ := q_bd r (by omega)
    have hv : qv r = 0 := by omega
    have hu : qu r < r := by omega
    have n0 : nxt 0 = 1 := rfl
    have n8 : nxt 8 = 9 := rfl
    have mem : ∀ k, k < 16 → cu r k ≠ cu r (nxt k) → k ∈ sidesTo (rpt x y r) 16 := by
      intro k hk hne
      unfold sidesTo
      rw [List.mem_filter, List.mem_range]
      refine ⟨hk, decide_eq_true fun e => hne ?_⟩
      have e1 : x + cu r k = x + cu r (nxt k) := congrArg Prod.fst e
      omega
    have s0 := side 0 (by omega) (mem 0 (by omega) (by rw [n0, c0.1, c1.1]; omega))
    have s8 := side 8 (by omega) (mem 8 (by omega) (by rw [n8, c8.1, c9.1]; omega))
    unfold cD at s0 s8
    rw [n0, c0.1, c0.2, c1.1, c1.2, hv] at s0
    rw [n8, c8.1, c8.2, c9.1, c9.2, hv] at s8
    have e : S * (-r * -0 - 0 * -qu r) + ((-qu r - -r) * z1 - (-0 - 0) * z0) = -(S * (r * 0 - 0 * qu r) + ((qu r - r) * z1 - (0 - 0) * z0)) := by grind
    omega
  · have hD := cD_pos r (by omega)
    obtain ⟨k, hk, f1, f2⟩ := sector r z0 z1 (by omega)
    have sd := side k hk (side_mem hk (by have := hD k hk; omega))
    have hDk := hD k hk
    obtain ⟨v1, _⟩ := corner_far r (by omega) hr2 k hk
    obtain ⟨v2, _⟩ := corner_far r (by omega) hr2 (nxt k) (Nat.mod_lt _ (by omega))
    have hDd : cD r k = cu r k * cv r (nxt k) - cv r k * cu r (nxt k) := rfl
    generalize cu r k = u at *
    generalize cv r k = v at *
    generalize cu r (nxt k) = u' at *
    generalize cv r (nxt k) = v' at *
    generalize cD r k = D at *
    have hα : ∃ α, α = -(u' * z1 - v' * z0) := ⟨_, rfl⟩
    obtain ⟨α, hα⟩ := hα
    have hβ : ∃ β, β = u * z1 - v * z0 := ⟨_, rfl⟩
    obtain ⟨β, hβ⟩ := hβ
    have a0' : 0 ≤ α := by omega
    have b0' : 0 ≤ β := by omega
    have e0 : (u' - u) * z1 - (v' - v) * z0 = -(α + β) := by rw [hα, hβ]; grind
    rw [e0] at sd
    have ez0 : D * z0 = α * u + β * u' := by rw [hα, hβ, hDd]; grind
    have ez1 : D * z1 = α * v + β * v' := by rw [hα, hβ, hDd]; grind
    -- the square of D z
    have id1 : D * D * (z0 * z0 + z1 * z1) = α * α * (u * u + v * v) + 2 * (α * β * (u * u' + v * v')) + β * β * (u' * u' + v' * v') := by
      have : D * D * (z0 * z0 + z1 * z1) = D * z0 * (D * z0) + D * z1 * (D * z1) := by grind
      rw [this, ez0, ez1]; grind
    have dot : u * u' + v * v' ≤ r * r := by
      have q1 := M.sq_nonneg (u - u')
      have q2 := M.sq_nonneg (v - v')
      have e1 : (u - u') * (u - u') = u * u - 2 * (u * u') + u' * u' := by grind
      have e2 : (v - v') * (v - v') = v * v - 2 * (v * v') + v' * v' := by grind
      omega
    have m1 : α * α * (u * u + v * v) ≤ α * α * (r * r) := Int.mul_le_mul_of_nonneg_left v1 (M.sq_nonneg α)
    have m2 : β * β * (u' * u' + v' * v') ≤ β * β * (r * r) := Int.mul_le_mul_of_nonneg_left v2 (M.sq_nonneg β)
    have m3 : α * β * (u * u' + v * v') ≤ α * β * (r * r) := Int.mul_le_mul_of_nonneg_left dot (Int.mul_nonneg a0' b0')
    have m4 : (α + β) * (α + β) * (r * r) = α * α * (r * r) + 2 * (α * β * (r * r)) + β * β * (r * r) := by grind
    have m5 : (α + β) * (α + β) < S * D * (S * D) := by
      have x1 : (α + β) * (α + β) ≤ (α + β) * (S * D) := Int.mul_le_mul_of_nonneg_left (by omega) (by omega)
      have x2 : (α + β) * (S * D) < S * D * (S * D) := Int.mul_lt_mul_of_pos_right (by omega) (by omega)
      omega
    have rr : 0 < r * r := Int.mul_pos (by omega) (by omega)
    have m6 : (α + β) * (α + β) * (r * r) < S * D * (S * D) * (r * r) := Int.mul_lt_mul_of_pos_right m5 rr
    have m7 : S * D * (S * D) * (r * r) = D * D * (S * r * (S * r)) := by grind
    have dd : 0 < D * D := Int.mul_pos hDk hDk
    have fin : z0 * z0 + z1 * z1 < S * r * (S * r) := by
      have : D * D * (z0 * z0 + z1 * z1) < D * D * (S * r * (S * r)) := by omega
      exact Int.lt_of_mul_lt_mul_left this (by omega)
    rcases M.lt_or_ge' (M.liesV a0 a1 b0 b1 x y r) 0 with k1 | k1
    · exact k1
    · have := lies_far_part a0 a1 b0 b1 x y r S T h0 h1 hS k1
      rw [← hz0, ← hz1] at this
      omega
end Go.Proofs.YtfcjdmpfoogljaaDoor
