/-
  Layer 3: the plain mathematics of many steps.
-/
import Derived.Test.YtlgabdamgalngaaCtRa
set_option linter.unusedVariables false
set_option linter.unusedSimpArgs false
namespace Go.Proofs.Ytlgabdamgalngaa.M
theorem whole_add {n w d : Int} (hd : 0 < d) : whole (n + w * d) d = w + whole n d ∧ rest (n + w * d) d = rest n d := by
  have l := rest_lo n d hd
  have g := rest_hi n d hd
  have e := whole_rest n d
  have e2 : (w + whole n d) * d = w * d + whole n d * d := by grind
  obtain ⟨h1, h2⟩ := rest_of (n + w * d) d (w + whole n d) (rest n d) hd (by omega) l g
  exact ⟨h1.symm, h2.symm⟩
theorem ax_succ {n m a u p : Int} (hm : 0 < m) : ax 1 m (ax n m a u p) u (ar n m u p) = ax (n + 1) m a u p ∧ ar 1 m u (ar n m u p) = ar (n + 1) m u p := by
  unfold ax ar
  have e := whole_rest (n * u + p) (64 * m)
  have e1 : (n + 1) * u + p = (1 * u + rest (n * u + p) (64 * m)) + whole (n * u + p) (64 * m) * (64 * m) := by
    have : (n + 1) * u = n * u + u := by grind
    omega
  rw [e1]
  obtain ⟨h1, h2⟩ := whole_add (n := 1 * u + rest (n * u + p) (64 * m)) (w := whole (n * u + p) (64 * m)) (d := 64 * m) (by omega)
  rw [h1, h2]
  exact ⟨by omega, rfl⟩
theorem ax_zero {m a u p : Int} (hm : 400 ≤ m ∧ m ≤ 500) (hp : -(32 * m) ≤ p ∧ p ≤ 32 * m - 1) : ax 0 m a u p = a ∧ ar 0 m u p = p := by
  obtain ⟨h1, h2⟩ := rest_of (0 * u + p) (64 * m) 0 p (by omega) (by simp) (by omega) (by omega)
  unfold ax ar
  rw [← h1, ← h2]
  exact ⟨by omega, rfl⟩
theorem ar_bd {n m u p : Int} (hm : 0 < m) : -(32 * m) ≤ ar n m u p ∧ ar n m u p ≤ 32 * m - 1 := by
  have l := rest_lo (n * u + p) (64 * m) (by omega)
  have g := rest_hi (n * u + p) (64 * m) (by omega)
  unfold ar
  omega
theorem whole_mono {n k d : Int} (hd : 0 < d) (h : n ≤ k) : whole n d ≤ whole k d := by
  unfold whole
  exact Int.ediv_le_ediv (by omega) (by omega)
theorem ax_between {i k m a u p N : Int} (hm : 400 ≤ m ∧ m ≤ 500) (hp : -(32 * m) ≤ p ∧ p ≤ 32 * m - 1) (h0 : 0 ≤ i) (hi : i ≤ k) (ha : -N ≤ a ∧ a ≤ N) (hk : -N ≤ ax k m a u p ∧ ax k m a u p ≤ N) : -N ≤ ax i m a u p ∧ ax i m a u p ≤ N := by
  have hz := (ax_zero (a := a) (u := u) hm hp).1
  unfold ax at *
  rcases Int.le_total 0 u with hu | hu
  · have h1 : 0 * u ≤ i * u := Int.mul_le_mul_of_nonneg_right h0 hu
    have h2 : i * u ≤ k * u := Int.mul_le_mul_of_nonneg_right hi hu
    have := whole_mono (d := 64 * m) (by omega) (show 0 * u + p ≤ i * u + p by omega)
    have := whole_mono (d := 64 * m) (by omega) (show i * u + p ≤ k * u + p by omega)
    omega
  · have h1 : i * u ≤ 0 * u := Int.mul_le_mul_of_nonpos_right h0 hu
    have h2 : k * u ≤ i * u := Int.mul_le_mul_of_nonpos_right hi hu
    have := whole_mono (d := 64 * m) (by omega) (show i * u + p ≤ 0 * u + p by omega)
    have := whole_mono (d := 64 * m) (by omega) (show k * u + p ≤ i * u + p by omega)
    omega
theorem place_between {i k m a b u v p q : Int} (hm : 400 ≤ m ∧ m ≤ 500) (hp : -(32 * m) ≤ p ∧ p ≤ 32 * m - 1) (hq : -(32 * m) ≤ q ∧ q ≤ 32 * m - 1) (h0 : 0 ≤ i) (hi : i ≤ k) (ha : placeB a b = true) (hk : placeB (ax k m a u p) (ax k m b v q) = true) : placeB (ax i m a u p) (ax i m b v q) = true := by
  simp only [placeB, Bool.and_eq_true, btw_iff] at *
  exact ⟨ax_between hm hp h0 hi ha.1 hk.1, ax_between hm hq h0 hi ha.2 hk.2⟩
/-- After n steps, all of them valid, the motion is valid. -/
theorem mot_after {n m r a b u v p q : Int} (h : motB m r a b u v p q = true) (hp : placeB (ax n m a u p) (ax n m b v q) = true) : motB m r (ax n m a u p) (ax n m b v q) u v (ar n m u p) (ar n m v q) = true := by
  obtain ⟨⟨hm, hr⟩, _, _, _⟩ := mot_facts h
  have g1 := ar_bd (n := n) (u := u) (p := p) (m := m) (by omega)
  have g2 := ar_bd (n := n) (u := v) (p := q) (m := m) (by omega)
  simp only [motB, Bool.and_eq_true] at h ⊢
  refine ⟨⟨⟨h.1.1.1, hp⟩, h.1.2⟩, ?_⟩
  simp only [restB, Bool.and_eq_true, btw_iff]
  exact ⟨g1, g2⟩
theorem SE_after {n m r a b u v p q : Int} (h : motB m r a b u v p q = true) (hp : placeB (ax n m a u p) (ax n m b v q) = true) : SE m r (ax n m a u p) (ax n m b v q) u v (ar n m u p) (ar n m v q) = AE (n + 1) m a b u v p q := by
  obtain ⟨⟨hm, hr⟩, _, _, _⟩ := mot_facts h
  unfold SE
  rw [mot_after h hp, if_pos rfl]
  unfold AE
  rw [(ax_succ (n := n) (a := a) (u := u) (p := p) (m := m) (by omega)).1, (ax_succ (n := n) (a := b) (u := v) (p := q) (m := m) (by omega)).1]
theorem AE_cases (n m a b u v p q : Int) : (AE n m a b u v p q = 0 ∧ placeB (ax n m a u p) (ax n m b v q) = true) ∨ (AE n m a b u v p q = 4 ∧ placeB (ax n m a u p) (ax n m b v q) = false) := by
  unfold AE
  cases placeB (ax n m a u p) (ax n m b v q) <;> simp
theorem lost_sum {n m a u p : Int} : 64 * m * (ax n m a u p - a) + ar n m u p - p = n * u := by
  unfold ax ar
  have e := whole_rest (n * u + p) (64 * m)
  have e2 : 64 * m * (a + whole (n * u + p) (64 * m) - a) = whole (n * u + p) (64 * m) * (64 * m) := by grind
  omega
theorem lost_facts {n m r a b u v p q : Int} (h : motB m r a b u v p q = true) (hp : placeB (ax n m a u p) (ax n m b v q) = true) (h0 : 0 ≤ n) (hn : n ≤ 16000) :
    (-4194304 ≤ ax n m a u p ∧ ax n m a u p ≤ 4194304) ∧ (-4194304 ≤ ax n m b v q ∧ ax n m b v q ≤ 4194304) ∧ (-268435456000 ≤ 64 * m * (ax n m a u p - a) ∧ 64 * m * (ax n m a u p - a) ≤ 268435456000) ∧ (-268435456000 ≤ 64 * m * (ax n m b v q - b) ∧ 64 * m * (ax n m b v q - b) ≤ 268435456000) ∧
    ((-(32 * m) ≤ ar n m u p ∧ ar n m u p ≤ 32 * m - 1) ∧ (-(32 * m) ≤ ar n m v q ∧ ar n m v q ≤ 32 * m - 1)) ∧ ((-268435456000 ≤ n * u ∧ n * u ≤ 268435456000) ∧ (-268435456000 ≤ n * v ∧ n * v ≤ 268435456000)) := by
  obtain ⟨⟨hm, hr⟩, ⟨ha, hb⟩, ⟨hu, hv⟩, _⟩ := mot_facts h
  simp only [placeB, Bool.and_eq_true, btw_iff] at hp
  exact ⟨hp.1, hp.2, mul_bd' (A := 32000) (B := 8388608) (by decide) (by omega) (by omega), mul_bd' (A := 32000) (B := 8388608) (by decide) (by omega) (by omega), ⟨ar_bd (by omega), ar_bd (by omega)⟩, mul_bd' (A := 16000) (B := 16777216) (by decide) (by omega) hu, mul_bd' (A := 16000) (B := 16777216) (by decide) (by omega) hv⟩
end Go.Proofs.Ytlgabdamgalngaa.M
