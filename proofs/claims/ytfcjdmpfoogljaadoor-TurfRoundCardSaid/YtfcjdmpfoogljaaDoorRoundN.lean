/-
  Mathematics of rings: their sides; a segment that comes near enough to the middle passes the ring.
-/
import Derived.Test.YtfcjdmpfoogljaaDoorRoundM
import Derived.Test.YtfcjdmpfoogljaaDoorNearM
set_option linter.unusedVariables false
namespace Go.Proofs.YtfcjdmpfoogljaaDoor

theorem nxt_lt (k : Nat) (h : k < 15) : nxt k = k + 1 := by unfold nxt; omega
theorem nxt_15 : nxt 15 = 0 := rfl
/-- How a side turns round the middle; the square of its length. -/
def cD (r : Int) (k : Nat) : Int := cu r k * cv r (nxt k) - cv r k * cu r (nxt k)
def cE (r : Int) (k : Nat) : Int := (cu r (nxt k) - cu r k) * (cu r (nxt k) - cu r k) + (cv r (nxt k) - cv r k) * (cv r (nxt k) - cv r k)
theorem sideAB (r : Int) (hr : 0 ≤ r) (k : Nat) (hk : k < 16) :
    (cD r k = r * qv r ∧ cE r k = (r - qu r) * (r - qu r) + qv r * qv r) ∨ (cD r k = qw r * (qu r - qv r) ∧ cE r k = (qu r - qw r) * (qu r - qw r) + (qw r - qv r) * (qw r - qv r)) := by
  obtain ⟨c0, c1, c2, c3, c4, c5, c6, c7, c8, c9, c10, c11, c12, c13, c14, c15⟩ := corner16 r hr
  have n : nxt 0 = 1 ∧ nxt 1 = 2 ∧ nxt 2 = 3 ∧ nxt 3 = 4 ∧ nxt 4 = 5 ∧ nxt 5 = 6 ∧ nxt 6 = 7 ∧ nxt 7 = 8 ∧ nxt 8 = 9 ∧ nxt 9 = 10 ∧ nxt 10 = 11 ∧ nxt 11 = 12 ∧ nxt 12 = 13 ∧ nxt 13 = 14 ∧ nxt 14 = 15 ∧ nxt 15 = 0 := by decide
  obtain ⟨n0, n1, n2, n3, n4, n5, n6, n7, n8, n9, n10, n11, n12, n13, n14, n15⟩ := n
  revert k
  apply of16
  unfold cD cE
  refine ⟨?_, ?_, ?_, ?_, ?_, ?_, ?_, ?_, ?_, ?_, ?_, ?_, ?_, ?_, ?_, ?_⟩
  · rw [n0, c0.1, c0.2, c1.1, c1.2]; left; constructor <;> grind
  · rw [n1, c1.1, c1.2, c2.1, c2.2]; right; constructor <;> grind
  · rw [n2, c2.1, c2.2, c3.1, c3.2]; right; constructor <;> grind
  · rw [n3, c3.1, c3.2, c4.1, c4.2]; left; constructor <;> grind
  · rw [n4, c4.1, c4.2, c5.1, c5.2]; left; constructor <;> grind
  · rw [n5, c5.1, c5.2, c6.1, c6.2]; right; constructor <;> grind
  · rw [n6, c6.1, c6.2, c7.1, c7.2]; right; constructor <;> grind
  · rw [n7, c7.1, c7.2, c8.1, c8.2]; left; constructor <;> grind
  · rw [n8, c8.1, c8.2, c9.1, c9.2]; left; constructor <;> grind
  · rw [n9, c9.1, c9.2, c10.1, c10.2]; right; constructor <;> grind
  · rw [n10, c10.1, c10.2, c11.1, c11.2]; right; constructor <;> grind
  · rw [n11, c11.1, c11.2, c12.1, c12.2]; left; constructor <;> grind
  · rw [n12, c12.1, c12.2, c13.1, c13.2]; left; constructor <;> grind
  · rw [n13, c13.1, c13.2, c14.1, c14.2]; right; constructor <;> grind
  · rw [n14, c14.1, c14.2, c15.1, c15.2]; right; constructor <;> grind
  · rw [n15, c15.1, c15.2, c0.1, c0.2]; left; constructor <;> grind

/-- No side is nearer to the middle than 15 / 16 of the radius, less 8. -/
theorem side_far (r n : Int) (hr : 0 ≤ r) (hn : 0 < n) (h : 16 * n ≤ 15 * r - 128) (k : Nat) (hk : k < 16) : 0 < cD r k ∧ 0 < cE r k ∧ cE r k * (n * n) ≤ cD r k * cD r k := by
  obtain ⟨⟨u1, u2⟩, ⟨v1, v2⟩, ⟨w1, w2⟩, u0, v0, w0⟩ := q_bd r hr
  have hr9 : 9 ≤ r := by omega
  rcases sideAB r hr k hk with ⟨hD, hE⟩ | ⟨hD, hE⟩
  · rw [hD, hE]
    generalize qu r = u at *
    generalize qv r = v at *
    have v3 : 1 ≤ v := by omega
    have hg : ∃ g, g = r - u := ⟨_, rfl⟩
    obtain ⟨g, hg⟩ := hg
    rw [← hg]
    have g0 : 0 ≤ g := by omega
    have g1 : 4096 * g ≤ 312 * r + 4095 := by omega
    refine ⟨Int.mul_pos (by omega) (by omega), by have := M.sq_nonneg g; have : 0 < v * v := Int.mul_pos (by omega) (by omega); omega, ?_⟩
    -- 347 r v is at least 1000 g n
    have rr := M.sq_nonneg (r - 6)
    have rr' : (r - 6) * (r - 6) = r * r - 12 * r + 36 := by grind
    have b1 : r * (1567 * r) ≤ r * (4096 * v + 4095) := Int.mul_le_mul_of_nonneg_left v2 hr
    have b2 : 4096 * g * (16 * n) ≤ (312 * r + 4095) * (16 * n) := Int.mul_le_mul_of_nonneg_right g1 (by omega)
    have b3 : (312 * r + 4095) * (16 * n) ≤ (312 * r + 4095) * (15 * r - 128) := Int.mul_le_mul_of_nonneg_left h (by omega)
    have i1 : r * (1567 * r) = 1567 * (r * r) := by grind
    have i2 : r * (4096 * v + 4095) = 4096 * (r * v) + 4095 * r := by grind
    have i3 : 4096 * g * (16 * n) = 65536 * (g * n) := by grind
    have i4 : (312 * r + 4095) * (15 * r - 128) = 4680 * (r * r) + 21489 * r - 524160 := by grind
    have b4 : 1000 * (g * n) ≤ 347 * (r * v) := by omega
    have b5 := sq_mono (a := 1000 * (g * n)) (by have := Int.mul_nonneg g0 (show 0 ≤ n by omega); omega) b4
    have b6 := sq_mono (a := 16 * n) (b := 15 * r) (by omega) (by omega)
    have j1 : 16 * n * (16 * n) = 256 * (n * n) := by grind
    have j2 : 15 * r * (15 * r) = 225 * (r * r) := by grind
    have j3 : 1000 * (g * n) * (1000 * (g * n)) = 1000000 * (g * g * (n * n)) := by grind
    have j4 : 347 * (r * v) * (347 * (r * v)) = 120409 * (r * r * (v * v)) := by grind
    have b7 : 256 * (n * n) * (v * v) ≤ 225 * (r * r) * (v * v) := Int.mul_le_mul_of_nonneg_right (by omega) (M.sq_nonneg v)
    have j5 : 256 * (n * n) * (v * v) = 256 * (v * v * (n * n)) := by grind
    have j6 : 225 * (r * r) * (v * v) = 225 * (r * r * (v * v)) := by grind
    have j7 : (g * g + v * v) * (n * n) = g * g * (n * n) + v * v * (n * n) := by grind
    have j8 : r * v * (r * v) = r * r * (v * v) := by grind
    have nn : 0 ≤ r * r * (v * v) := Int.mul_nonneg (M.sq_nonneg r) (M.sq_nonneg v)
    omega
  · rw [hD, hE]
    generalize qu r = u at *
    generalize qv r = v at *
    generalize qw r = w at *
    have uw0 : 1 ≤ u - w := by omega
    have wv0 : 1 ≤ w - v := by omega
    have hd : ∃ d, d = u - v := ⟨_, rfl⟩
    obtain ⟨d, hd⟩ := hd
    rw [← hd]
    have d1 : 2217 * r - 4095 ≤ 4096 * d := by omega
    refine ⟨Int.mul_pos (by omega) (by omega), by have : 0 < (u - w) * (u - w) := Int.mul_pos (by omega) (by omega); have := M.sq_nonneg (w - v); omega, ?_⟩
    -- 4096 times the length is at most 1599 r + 5792
    have a1 := sq_mono (a := 4096 * (u - w)) (b := 888 * r + 4095) (by omega) (by omega)
    have a2 := sq_mono (a := 4096 * (w - v)) (b := 1329 * r + 4095) (by omega) (by omega)
    have i1 : 4096 * (u - w) * (4096 * (u - w)) = 16777216 * ((u - w) * (u - w)) := by grind
    have i2 : 4096 * (w - v) * (4096 * (w - v)) = 16777216 * ((w - v) * (w - v)) := by grind
    have i3 : (888 * r + 4095) * (888 * r + 4095) = 788544 * (r * r) + 7272720 * r + 16769025 := by grind
    have i4 : (1329 * r + 4095) * (1329 * r + 4095) = 1766241 * (r * r) + 10884510 * r + 16769025 := by grind
    have i5 : (1599 * r + 5792) * (1599 * r + 5792) = 2556801 * (r * r) + 18522816 * r + 33547264 := by grind
    have rr := M.sq_nonneg r
    have hL : 16777216 * ((u - w) * (u - w) + (w - v) * (w - v)) ≤ (1599 * r + 5792) * (1599 * r + 5792) := by omega
    -- 4096 D is at least (1599 r + 5792) n
    have b1 : (2896 * r - 4095) * (2217 * r - 4095) ≤ 4096 * w * (4096 * d) := Int.mul_le_mul (by omega) d1 (by omega) (by omega)
    have b2 : (1599 * r + 5792) * (16 * n) ≤ (1599 * r + 5792) * (15 * r - 128) := Int.mul_le_mul_of_nonneg_left h (by omega)
    have j1 : (2896 * r - 4095) * (2217 * r - 4095) = 6420432 * (r * r) - 20937735 * r + 16769025 := by grind
    have j2 : (1599 * r + 5792) * (15 * r - 128) = 23985 * (r * r) - 117792 * r - 741376 := by grind
    have j3 : 4096 * w * (4096 * d) = 4096 * (4096 * (w * d)) := by grind
    have j4 : (1599 * r + 5792) * (16 * n) = 16 * ((1599 * r + 5792) * n) := by grind
    have b3 : (1599 * r + 5792) * n ≤ 4096 * (w * d) := by omega
    have b4 := sq_mono (a := (1599 * r + 5792) * n) (Int.mul_nonneg (by omega) (by omega)) b3
    have j5 : (1599 * r + 5792) * n * ((1599 * r + 5792) * n) = (1599 * r + 5792) * (1599 * r + 5792) * (n * n) := by grind
    have j6 : 4096 * (w * d) * (4096 * (w * d)) = 16777216 * (w * d * (w * d)) := by grind
    have b5 : 16777216 * ((u - w) * (u - w) + (w - v) * (w - v)) * (n * n) ≤ (1599 * r + 5792) * (1599 * r + 5792) * (n * n) := Int.mul_le_mul_of_nonneg_right hL (M.sq_nonneg n)
    have j7 : 16777216 * ((u - w) * (u - w) + (w - v) * (w - v)) * (n * n) = 16777216 * (((u - w) * (u - w) + (w - v) * (w - v)) * (n * n)) := by grind
    omega
/-- How far a point is on the left of a side, from how the side lies to the middle. -/
theorem left_side (x y r p0 p1 : Int) (k : Nat) : M.left (rpt x y r k).1 (rpt x y r k).2 (rpt x y r (nxt k)).1 (rpt x y r (nxt k)).2 p0 p1 =
    cD r k + (cu r (nxt k) - cu r k) * (p1 - y) - (cv r (nxt k) - cv r k) * (p0 - x) := by
  have h : ∀ j, rpt x y r j = (x + cu r j, y + cv r j) := fun _ => rfl
  rw [h, h]
  unfold M.left cD
  grind
/-- All that is on the left of every way between two parts of a segment. -/
theorem cross_of {L : List (Int × Int)} (hL : L ≠ []) (S T : Int) (h0 : 0 ≤ T) (h1 : T ≤ S) (hS : 0 < S) (h : ∀ i ∈ L, 0 < (S - T) * i.1 + T * i.2) : M.CrossP L := by
  refine ⟨hL, fun i hi hb => ?_, fun i hi k hk hi0 hk0 => ?_⟩
  · have := h i hi
    have a1 : (S - T) * i.1 ≤ (S - T) * 0 := Int.mul_le_mul_of_nonneg_left hb.1 (by omega)
    have a2 : T * i.2 ≤ T * 0 := Int.mul_le_mul_of_nonneg_left hb.2 h0
    omega
  · have q1 := h i hi
    have q2 := h k hk
    have e1 : (S - T) * i.1 + T * i.2 = S * i.1 + T * (i.2 - i.1) := by grind
    have e2 : (S - T) * k.1 + T * k.2 = S * k.1 - T * (k.1 - k.2) := by grind
    have hd1 : 0 < i.2 - i.1 := by
      rcases M.lt_or_ge' 0 (i.2 - i.1) with z | z
      · exact z
      · have a1 : T * (i.2 - i.1) ≤ T * 0 := Int.mul_le_mul_of_nonneg_left z h0
        have a2 : S * i.1 ≤ S * 0 := Int.mul_le_mul_of_nonneg_left hi0 (by omega)
        omega
    have hd2 : 0 < k.1 - k.2 := by
      rcases M.lt_or_ge' 0 (k.1 - k.2) with z | z
      · exact z
      · have a1 : (S - T) * k.1 ≤ (S - T) * k.2 := Int.mul_le_mul_of_nonneg_left (by omega) (by omega)
        have a2 : S * k.2 ≤ S * 0 := Int.mul_le_mul_of_nonneg_left hk0 (by omega)
        have a3 : (S - T) * k.2 + T * k.2 = S * k.2 := by grind
        omega
    -- -p / (q - p) < T / S < p' / (p' - q')
    have x1 : -i.1 * S < T * (i.2 - i.1) := by
      have : -i.1 * S = -(S * i.1) := by grind
      omega
    have x2 : T * (k.1 - k.2) < k.1 * S := by
      have : k.1 * S = S * k.1 := by grind
      omega
    exact M.frac_lt_trans (b := i.2 - i.1) (d := S) (f := k.1 - k.2) hd1 hS hd2 x1 (by omega)
end Go.Proofs.YtfcjdmpfoogljaaDoor
