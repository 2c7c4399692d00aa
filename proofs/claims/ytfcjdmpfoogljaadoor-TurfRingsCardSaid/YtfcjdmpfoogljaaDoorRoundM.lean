/-
  Mathematics of rings: their corners.
-/
import Derived.Test.YtfcjdmpfoogljaaDoorIter
import Derived.Test.YtfcjdmpfoogljaaDoorPassM
set_option linter.unusedVariables false
namespace Go.Proofs.YtfcjdmpfoogljaaDoor

/-- The corners, seen from the middle. -/
def cu (r : Int) (k : Nat) : Int := (r * pc k).tdiv 4096
def cv (r : Int) (k : Nat) : Int := (r * ps k).tdiv 4096
/-- The three numbers of which they are made. -/
def qu (r : Int) : Int := 3784 * r / 4096
def qv (r : Int) : Int := 1567 * r / 4096
def qw (r : Int) : Int := 2896 * r / 4096
theorem tdiv_pos (r c : Int) (hr : 0 ≤ r) (hc : 0 ≤ c) : (r * c).tdiv 4096 = c * r / 4096 := by
  rw [Int.tdiv_eq_ediv_of_nonneg (Int.mul_nonneg hr hc), Int.mul_comm]
theorem tdiv_neg' (r c : Int) (hr : 0 ≤ r) (hc : 0 ≤ c) : (r * -c).tdiv 4096 = -(c * r / 4096) := by
  rw [Int.mul_neg, Int.neg_tdiv, tdiv_pos r c hr hc]
theorem corner16 (r : Int) (hr : 0 ≤ r) :
    (cu r 0 = r ∧ cv r 0 = 0) ∧ (cu r 1 = qu r ∧ cv r 1 = qv r) ∧ (cu r 2 = qw r ∧ cv r 2 = qw r) ∧ (cu r 3 = qv r ∧ cv r 3 = qu r) ∧
    (cu r 4 = 0 ∧ cv r 4 = r) ∧ (cu r 5 = -qv r ∧ cv r 5 = qu r) ∧ (cu r 6 = -qw r ∧ cv r 6 = qw r) ∧ (cu r 7 = -qu r ∧ cv r 7 = qv r) ∧
    (cu r 8 = -r ∧ cv r 8 = 0) ∧ (cu r 9 = -qu r ∧ cv r 9 = -qv r) ∧ (cu r 10 = -qw r ∧ cv r 10 = -qw r) ∧ (cu r 11 = -qv r ∧ cv r 11 = -qu r) ∧
    (cu r 12 = 0 ∧ cv r 12 = -r) ∧ (cu r 13 = qv r ∧ cv r 13 = -qu r) ∧ (cu r 14 = qw r ∧ cv r 14 = -qw r) ∧ (cu r 15 = qu r ∧ cv r 15 = -qv r) := by
  have p0 : (r * 4096).tdiv 4096 = r := by rw [tdiv_pos r 4096 hr (by omega)]; omega
  have p1 : (r * 3784).tdiv 4096 = qu r := tdiv_pos r 3784 hr (by omega)
  have p2 : (r * 1567).tdiv 4096 = qv r := tdiv_pos r 1567 hr (by omega)
  have p3 : (r * 2896).tdiv 4096 = qw r := tdiv_pos r 2896 hr (by omega)
  have n0 : (r * -4096).tdiv 4096 = -r := by rw [tdiv_neg' r 4096 hr (by omega)]; omega
  have n1 : (r * -3784).tdiv 4096 = -qu r := tdiv_neg' r 3784 hr (by omega)
  have n2 : (r * -1567).tdiv 4096 = -qv r := tdiv_neg' r 1567 hr (by omega)
  have n3 : (r * -2896).tdiv 4096 = -qw r := tdiv_neg' r 2896 hr (by omega)
  have z : (r * 0).tdiv 4096 = 0 := by simp
  exact ⟨⟨p0, z⟩, ⟨p1, p2⟩, ⟨p3, p3⟩, ⟨p2, p1⟩, ⟨z, p0⟩, ⟨n2, p1⟩, ⟨n3, p3⟩, ⟨n1, p2⟩, ⟨n0, z⟩, ⟨n1, n2⟩, ⟨n3, n3⟩, ⟨n2, n1⟩, ⟨z, n0⟩, ⟨p2, n1⟩, ⟨p3, n3⟩, ⟨p1, n2⟩⟩
theorem of16 {P : Nat → Prop} (h : P 0 ∧ P 1 ∧ P 2 ∧ P 3 ∧ P 4 ∧ P 5 ∧ P 6 ∧ P 7 ∧ P 8 ∧ P 9 ∧ P 10 ∧ P 11 ∧ P 12 ∧ P 13 ∧ P 14 ∧ P 15) (k : Nat) (hk : k < 16) : P k := by
  obtain ⟨h0, h1, h2, h3, h4, h5, h6, h7, h8, h9, h10, h11, h12, h13, h14, h15⟩ := h
  rcases k with _ | _ | _ | _ | _ | _ | _ | _ | _ | _ | _ | _ | _ | _ | _ | _ | k
  all_goals first | assumption | omega

/-- How large the three numbers are. -/
theorem q_bd (r : Int) (hr : 0 ≤ r) : (4096 * qu r ≤ 3784 * r ∧ 3784 * r ≤ 4096 * qu r + 4095) ∧ (4096 * qv r ≤ 1567 * r ∧ 1567 * r ≤ 4096 * qv r + 4095) ∧ (4096 * qw r ≤ 2896 * r ∧ 2896 * r ≤ 4096 * qw r + 4095) ∧ 0 ≤ qu r ∧ 0 ≤ qv r ∧ 0 ≤ qw r := by
  unfold qu qv qw
  omega
theorem sq_mono {a b : Int} (ha : 0 ≤ a) (h : a ≤ b) : a * a ≤ b * b := Int.mul_le_mul h h ha (by omega)
/-- No corner is farther than the radius. -/
theorem far3 (r : Int) (hr : 0 ≤ r) : qu r * qu r + qv r * qv r ≤ r * r ∧ qw r * qw r + qw r * qw r ≤ r * r := by
  obtain ⟨⟨u1, u2⟩, ⟨v1, v2⟩, ⟨w1, w2⟩, u0, v0, w0⟩ := q_bd r hr
  generalize qu r = u at *
  generalize qv r = v at *
  generalize qw r = w at *
  have a1 := sq_mono (a := 4096 * u) (by omega) u1
  have a2 := sq_mono (a := 4096 * v) (by omega) v1
  have a3 := sq_mono (a := 4096 * w) (by omega) w1
  have e1 : 4096 * u * (4096 * u) = 16777216 * (u * u) := by grind
  have e2 : 4096 * v * (4096 * v) = 16777216 * (v * v) := by grind
  have e3 : 4096 * w * (4096 * w) = 16777216 * (w * w) := by grind
  have e4 : 3784 * r * (3784 * r) = 14318656 * (r * r) := by grind
  have e5 : 1567 * r * (1567 * r) = 2455489 * (r * r) := by grind
  have e6 : 2896 * r * (2896 * r) = 8386816 * (r * r) := by grind
  have := M.sq_nonneg r
  omega
/-- .. or much nearer: from a lower bound along a direction. -/
theorem near_dir (u v c s t N K : Int) (hN : c * c + s * s = N) (hN0 : 0 < N) (ht0 : 0 ≤ t) (hK0 : 0 ≤ K) (hK : 4096 * N ≤ K * K) (h : K * t ≤ 64 * (u * c + v * s)) : t * t ≤ u * u + v * v := by
  -- Cauchy
  have id : (u * u + v * v) * N = (u * c + v * s) * (u * c + v * s) + (u * s - v * c) * (u * s - v * c) := by rw [← hN]; grind
  have q := M.sq_nonneg (u * s - v * c)
  have k := sq_mono (a := K * t) (Int.mul_nonneg hK0 ht0) h
  have e1 : 64 * (u * c + v * s) * (64 * (u * c + v * s)) = 4096 * ((u * c + v * s) * (u * c + v * s)) := by grind
  have e2 : K * t * (K * t) = K * K * (t * t) := by grind
  have k2 : 4096 * N * (t * t) ≤ K * K * (t * t) := Int.mul_le_mul_of_nonneg_right hK (M.sq_nonneg t)
  have k3 : N * (t * t) ≤ N * (u * u + v * v) := by
    have e3 : 4096 * N * (t * t) = 4096 * (N * (t * t)) := by grind
    have e4 : (u * u + v * v) * N = N * (u * u + v * v) := by grind
    omega
  exact Int.le_of_mul_le_mul_left k3 hN0
theorem near3 (r t : Int) (hr : 0 ≤ r) (ht : 0 ≤ t) (hr2 : r ≤ 65536) (h : t ≤ r - r / 8192 - 3) : t * t ≤ qu r * qu r + qv r * qv r ∧ t * t ≤ qw r * qw r + qw r * qw r := by
  obtain ⟨⟨u1, u2⟩, ⟨v1, v2⟩, ⟨w1, w2⟩, u0, v0, w0⟩ := q_bd r hr
  constructor
  · exact near_dir (qu r) (qv r) 3784 1567 t 16774145 262121 (by omega) (by omega) ht (by omega) (by omega) (by omega)
  · exact near_dir (qw r) (qw r) 2896 2896 t 16773632 262116 (by omega) (by omega) ht (by omega) (by omega) (by omega)
/-- The square of each corner's distance. -/
theorem corner_far (r : Int) (hr : 0 ≤ r) (hr2 : r ≤ 65536) (k : Nat) (hk : k < 16) : cu r k * cu r k + cv r k * cv r k ≤ r * r ∧ ∀ t, 0 ≤ t → t ≤ r - r / 8192 - 3 → t * t ≤ cu r k * cu r k + cv r k * cv r k := by
  obtain ⟨f1, f2⟩ := far3 r hr
  have rr := M.sq_nonneg r
  have ne : ∀ a : Int, -a * -a = a * a := fun a => by grind
  have tr : ∀ t, 0 ≤ t → t ≤ r - r / 8192 - 3 → t * t ≤ r * r := fun t h0 h1 => sq_mono h0 (by omega)
  have n1 : ∀ t, 0 ≤ t → t ≤ r - r / 8192 - 3 → t * t ≤ qu r * qu r + qv r * qv r := fun t h0 h1 => (near3 r t hr h0 hr2 h1).1
  have n2 : ∀ t, 0 ≤ t → t ≤ r - r / 8192 - 3 → t * t ≤ qw r * qw r + qw r * qw r := fun t h0 h1 => (near3 r t hr h0 hr2 h1).2
  have key : ∀ a b : Int, (a * a + b * b = r * r ∨ a * a + b * b = qu r * qu r + qv r * qv r ∨ a * a + b * b = qw r * qw r + qw r * qw r) → a * a + b * b ≤ r * r ∧ ∀ t, 0 ≤ t → t ≤ r - r / 8192 - 3 → t * t ≤ a * a + b * b := by
    intro a b h
    rcases h with h | h | h <;> rw [h]
    · exact ⟨by omega, tr⟩
    · exact ⟨f1, n1⟩
    · exact ⟨f2, n2⟩
  apply key
  obtain ⟨c0, c1, c2, c3, c4, c5, c6, c7, c8, c9, c10, c11, c12, c13, c14, c15⟩ := corner16 r hr
  revert k
  apply of16
  refine ⟨?_, ?_, ?_, ?_, ?_, ?_, ?_, ?_, ?_, ?_, ?_, ?_, ?_, ?_, ?_, ?_⟩
  · rw [c0.1, c0.2]; left; omega
  · rw [c1.1, c1.2]; right; left; omega
  · rw [c2.1, c2.2]; right; right; omega
  · rw [c3.1, c3.2]; right; left; omega
  · rw [c4.1, c4.2]; left; omega
  · rw [c5.1, c5.2, ne]; right; left; omega
  · rw [c6.1, c6.2, ne]; right; right; omega
  · rw [c7.1, c7.2, ne]; right; left; omega
  · rw [c8.1, c8.2, ne]; left; omega
  · rw [c9.1, c9.2, ne, ne]; right; left; omega
  · rw [c10.1, c10.2, ne]; right; right; omega
  · rw [c11.1, c11.2, ne, ne]; right; left; omega
  · rw [c12.1, c12.2, ne]; left; omega
  · rw [c13.1, c13.2, ne]; right; left; omega
  · rw [c14.1, c14.2, ne]; right; right; omega
  · rw [c15.1, c15.2, ne]; right; left; omega
end Go.Proofs.YtfcjdmpfoogljaaDoor
