/-
  Layer 3: what is valid, in numbers.
-/
import Derived.Test.YtlgabdamgalngaaCtO
import Derived.Test.YtlgabdamgalngaaMathB
set_option linter.unusedVariables false
set_option linter.unusedSimpArgs false
namespace Go.Proofs.Ytlgabdamgalngaa.M
theorem place_in {x y : Int} (h : placeB x y = true) : In x y := by
  simp only [placeB, Bool.and_eq_true, btw_iff] at h
  exact h
theorem mot_facts {m r a b u v p q : Int} (h : motB m r a b u v p q = true) : ((400 ≤ m ∧ m ≤ 500) ∧ (1000 ≤ r ∧ r ≤ 4096)) ∧ ((-4194304 ≤ a ∧ a ≤ 4194304) ∧ (-4194304 ≤ b ∧ b ≤ 4194304)) ∧ ((-16777216 ≤ u ∧ u ≤ 16777216) ∧ (-16777216 ≤ v ∧ v ≤ 16777216)) ∧ ((-(32 * m) ≤ p ∧ p ≤ 32 * m - 1) ∧ (-(32 * m) ≤ q ∧ q ≤ 32 * m - 1)) := by
  simp only [motB, ballB, placeB, momB, restB, Bool.and_eq_true, btw_iff] at h
  omega
theorem bnc_facts {r d : Int} (h : bncB r d = true) : (0 ≤ r ∧ r ≤ 950) ∧ (0 ≤ d ∧ d ≤ 300) := by
  simp only [bncB, Bool.and_eq_true, btw_iff] at h
  omega
theorem mot_place {m r a b u v p q : Int} (h : motB m r a b u v p q = true) : placeB a b = true := by
  simp only [motB, Bool.and_eq_true] at h
  exact h.1.1.2
/-- In contact. -/
def nearB (s R : Int) : Bool := decide (s ≤ R * R) && decide (225 * R * R ≤ 256 * s)
/-- The error of a kick. -/
def kickE (near : Bool) (d : Int) : Int := if near then (if 0 < d then 0 else 10) else 5
def sel (e x : Int) : Int := if e = 0 then x else 0
def sel2 (e x y : Int) : Int := if e = 0 then x else y
theorem near_facts {x y u v R : Int} (h : nearB (sq x y u v) R = true) (h1 : 1 ≤ R) (h2 : R ≤ 69632) : 0 < sq x y u v ∧ (-R ≤ u - x ∧ u - x ≤ R) ∧ (-R ≤ v - y ∧ v - y ≤ R) := by
  simp only [nearB, Bool.and_eq_true, decide_eq_true_eq] at h
  have a1 : 1 * 1 ≤ R * R := Int.mul_le_mul h1 h1 (by omega) (by omega)
  have e1 : 225 * R * R = 225 * (R * R) := by grind
  have a2 := sq_nonneg (u - x)
  have a3 := sq_nonneg (v - y)
  have hs : sq x y u v = (u - x) * (u - x) + (v - y) * (v - y) := rfl
  exact ⟨by omega, of_sq (by omega) (by omega), of_sq (by omega) (by omega)⟩
theorem reach_facts {R : Int} (h1 : 1 ≤ R) (h2 : R ≤ 69632) : (1 ≤ R * R ∧ R * R ≤ 4848615424) ∧ (1 ≤ 225 * R ∧ 225 * R ≤ 15667200) ∧ (1 ≤ 225 * R * R ∧ 225 * R * R ≤ 1090938470400) := by
  have a1 : 1 * 1 ≤ R * R := Int.mul_le_mul h1 h1 (by omega) (by omega)
  have a2 : R * R ≤ 69632 * 69632 := sq_mono (by omega) h2
  have e1 : 225 * R * R = 225 * (R * R) := by grind
  omega
theorem urge_facts {m1 m2 u1 u2 : Int} (h1 : 400 ≤ m1 ∧ m1 ≤ 500) (h2 : 400 ≤ m2 ∧ m2 ≤ 500) (k1 : -16777216 ≤ u1 ∧ u1 ≤ 16777216) (k2 : -16777216 ≤ u2 ∧ u2 ≤ 16777216) :
    (-8388608000 ≤ m2 * u1 ∧ m2 * u1 ≤ 8388608000) ∧ (-8388608000 ≤ m1 * u2 ∧ m1 * u2 ≤ 8388608000) ∧ (-((m1 + m2) * 16777216) ≤ m2 * u1 - m1 * u2 ∧ m2 * u1 - m1 * u2 ≤ (m1 + m2) * 16777216) := by
  have a1 : m2 * u1 ≤ m2 * 16777216 := Int.mul_le_mul_of_nonneg_left k1.2 (by omega)
  have a2 : m2 * -16777216 ≤ m2 * u1 := Int.mul_le_mul_of_nonneg_left k1.1 (by omega)
  have a3 : m1 * u2 ≤ m1 * 16777216 := Int.mul_le_mul_of_nonneg_left k2.2 (by omega)
  have a4 : m1 * -16777216 ≤ m1 * u2 := Int.mul_le_mul_of_nonneg_left k2.1 (by omega)
  omega
/-- A product of an urge with a way. -/
theorem dot_facts {ux uy wx wy : Int} (x1 : -16777216000 ≤ ux ∧ ux ≤ 16777216000) (y1 : -16777216000 ≤ uy ∧ uy ≤ 16777216000) (w1 : -8388608 ≤ wx ∧ wx ≤ 8388608) (w2 : -8388608 ≤ wy ∧ wy ≤ 8388608) :
    (-140737488355328000 ≤ ux * wx ∧ ux * wx ≤ 140737488355328000) ∧ (-140737488355328000 ≤ uy * wy ∧ uy * wy ≤ 140737488355328000) ∧ (wx * ux = ux * wx ∧ wy * uy = uy * wy) :=
  ⟨mul_bd' (by decide) x1 w1, mul_bd' (by decide) y1 w2, Int.mul_comm _ _, Int.mul_comm _ _⟩
theorem err_two {b : Bool} (h : b = false) : err b = 2 := by rw [h]; rfl
/-- The kick of two balls, whatever they are: the error; both numbers. -/
def KE (m1 r1 a1 b1 u1 v1 p1 q1 m2 r2 a2 b2 u2 v2 p2 q2 rb dg : Int) : Int := if motB m1 r1 a1 b1 u1 v1 p1 q1 && motB m2 r2 a2 b2 u2 v2 p2 q2 && bncB rb dg then kickE (nearB (sq a1 b1 a2 b2) (r1 + r2)) ((m2 * u1 - m1 * u2) * (a2 - a1) + (m2 * v1 - m1 * v2) * (b2 - b1)) else 2
def KX (m1 r1 a1 b1 u1 v1 p1 q1 m2 r2 a2 b2 u2 v2 p2 q2 rb dg : Int) : Int := if KE m1 r1 a1 b1 u1 v1 p1 q1 m2 r2 a2 b2 u2 v2 p2 q2 rb dg = 0 then kx (m2 * u1 - m1 * u2) (m2 * v1 - m1 * v2) (a2 - a1) (b2 - b1) (sq a1 b1 a2 b2) (m1 + m2) rb dg else 0
def KY (m1 r1 a1 b1 u1 v1 p1 q1 m2 r2 a2 b2 u2 v2 p2 q2 rb dg : Int) : Int := if KE m1 r1 a1 b1 u1 v1 p1 q1 m2 r2 a2 b2 u2 v2 p2 q2 rb dg = 0 then ky (m2 * u1 - m1 * u2) (m2 * v1 - m1 * v2) (a2 - a1) (b2 - b1) (sq a1 b1 a2 b2) (m1 + m2) rb dg else 0
/-- The error of a bounce. -/
def BE (m1 r1 a1 b1 u1 v1 p1 q1 m2 r2 a2 b2 u2 v2 p2 q2 rb dg : Int) : Int := if KE m1 r1 a1 b1 u1 v1 p1 q1 m2 r2 a2 b2 u2 v2 p2 q2 rb dg = 0 then (if momB (u1 - KX m1 r1 a1 b1 u1 v1 p1 q1 m2 r2 a2 b2 u2 v2 p2 q2 rb dg) (v1 - KY m1 r1 a1 b1 u1 v1 p1 q1 m2 r2 a2 b2 u2 v2 p2 q2 rb dg) && momB (u2 + KX m1 r1 a1 b1 u1 v1 p1 q1 m2 r2 a2 b2 u2 v2 p2 q2 rb dg) (v2 + KY m1 r1 a1 b1 u1 v1 p1 q1 m2 r2 a2 b2 u2 v2 p2 q2 rb dg) then 0 else 4) else KE m1 r1 a1 b1 u1 v1 p1 q1 m2 r2 a2 b2 u2 v2 p2 q2 rb dg
theorem KE_facts {m1 r1 a1 b1 u1 v1 p1 q1 m2 r2 a2 b2 u2 v2 p2 q2 rb dg : Int} (h : KE m1 r1 a1 b1 u1 v1 p1 q1 m2 r2 a2 b2 u2 v2 p2 q2 rb dg = 0) : motB m1 r1 a1 b1 u1 v1 p1 q1 = true ∧ motB m2 r2 a2 b2 u2 v2 p2 q2 = true ∧ bncB rb dg = true ∧ nearB (sq a1 b1 a2 b2) (r1 + r2) = true ∧ 0 < (m2 * u1 - m1 * u2) * (a2 - a1) + (m2 * v1 - m1 * v2) * (b2 - b1) := by
  unfold KE kickE at h
  split at h
  · rename_i hb
    simp only [Bool.and_eq_true] at hb
    split at h
    · split at h
      · exact ⟨hb.1.1, hb.1.2, hb.2, by assumption, by assumption⟩
      · omega
    · omega
  · omega
theorem KE_bad {m1 r1 a1 b1 u1 v1 p1 q1 m2 r2 a2 b2 u2 v2 p2 q2 rb dg : Int} (h : ¬ (motB m1 r1 a1 b1 u1 v1 p1 q1 = true ∧ motB m2 r2 a2 b2 u2 v2 p2 q2 = true ∧ bncB rb dg = true)) : KE m1 r1 a1 b1 u1 v1 p1 q1 m2 r2 a2 b2 u2 v2 p2 q2 rb dg = 2 := by
  unfold KE
  rw [if_neg (by simp only [Bool.and_eq_true]; intro k; exact h ⟨k.1.1, k.1.2, k.2⟩)]
theorem KE_good {m1 r1 a1 b1 u1 v1 p1 q1 m2 r2 a2 b2 u2 v2 p2 q2 rb dg : Int} (h1 : motB m1 r1 a1 b1 u1 v1 p1 q1 = true) (h2 : motB m2 r2 a2 b2 u2 v2 p2 q2 = true) (hx : bncB rb dg = true) : KE m1 r1 a1 b1 u1 v1 p1 q1 m2 r2 a2 b2 u2 v2 p2 q2 rb dg = kickE (nearB (sq a1 b1 a2 b2) (r1 + r2)) ((m2 * u1 - m1 * u2) * (a2 - a1) + (m2 * v1 - m1 * v2) * (b2 - b1)) := by
  unfold KE
  rw [if_pos (by simp [h1, h2, hx])]
theorem within_bd {x X B : Int} (h : Within x X) (h1 : -B ≤ X ∧ X ≤ B) : -B ≤ x ∧ x ≤ B := by
  unfold Within at h
  rcases Int.le_total 0 X with k | k
  · have := h.1 k; omega
  · have := h.2 k; omega
theorem K_rng {m1 r1 a1 b1 u1 v1 p1 q1 m2 r2 a2 b2 u2 v2 p2 q2 rb dg : Int} (h : KE m1 r1 a1 b1 u1 v1 p1 q1 m2 r2 a2 b2 u2 v2 p2 q2 rb dg = 0) : KickRng (m2 * u1 - m1 * u2) (m2 * v1 - m1 * v2) (a2 - a1) (b2 - b1) (sq a1 b1 a2 b2) (m1 + m2) rb dg := by
  obtain ⟨h1, h2, hx, hn, _⟩ := KE_facts h
  obtain ⟨⟨hm1, hr1⟩, ⟨ha1, hb1⟩, ⟨hu1, hv1⟩, ⟨hp1, hq1⟩⟩ := mot_facts h1
  obtain ⟨⟨hm2, hr2⟩, ⟨ha2, hb2⟩, ⟨hu2, hv2⟩, ⟨hp2, hq2⟩⟩ := mot_facts h2
  obtain ⟨hrb, hdg⟩ := bnc_facts hx
  obtain ⟨_, _, hux⟩ := urge_facts hm1 hm2 hu1 hu2
  obtain ⟨_, _, huy⟩ := urge_facts hm1 hm2 hv1 hv2
  obtain ⟨h0, _, _⟩ := near_facts hn (by omega) (by omega)
  exact kick_rng rfl h0 (by omega) (by omega) hrb.1 hrb.2 hdg.1 hdg.2 hux.1 hux.2 huy.1 huy.2
theorem K_bd (m1 r1 a1 b1 u1 v1 p1 q1 m2 r2 a2 b2 u2 v2 p2 q2 rb dg : Int) : (-50331648 ≤ KX m1 r1 a1 b1 u1 v1 p1 q1 m2 r2 a2 b2 u2 v2 p2 q2 rb dg ∧ KX m1 r1 a1 b1 u1 v1 p1 q1 m2 r2 a2 b2 u2 v2 p2 q2 rb dg ≤ 50331648) ∧ (-50331648 ≤ KY m1 r1 a1 b1 u1 v1 p1 q1 m2 r2 a2 b2 u2 v2 p2 q2 rb dg ∧ KY m1 r1 a1 b1 u1 v1 p1 q1 m2 r2 a2 b2 u2 v2 p2 q2 rb dg ≤ 50331648) := by
  unfold KX KY
  by_cases h : KE m1 r1 a1 b1 u1 v1 p1 q1 m2 r2 a2 b2 u2 v2 p2 q2 rb dg = 0
  · rw [if_pos h, if_pos h]
    have hr := K_rng h
    obtain ⟨hx, hy⟩ := kx_within (m2 * u1 - m1 * u2) (m2 * v1 - m1 * v2) (a2 - a1) (b2 - b1) (sq a1 b1 a2 b2) (m1 + m2) rb dg
    exact ⟨within_bd hx hr.x, within_bd hy hr.y⟩
  · rw [if_neg h, if_neg h]; omega
theorem KXY_zero {m1 r1 a1 b1 u1 v1 p1 q1 m2 r2 a2 b2 u2 v2 p2 q2 rb dg : Int} (h : ¬ KE m1 r1 a1 b1 u1 v1 p1 q1 m2 r2 a2 b2 u2 v2 p2 q2 rb dg = 0) : KX m1 r1 a1 b1 u1 v1 p1 q1 m2 r2 a2 b2 u2 v2 p2 q2 rb dg = 0 ∧ KY m1 r1 a1 b1 u1 v1 p1 q1 m2 r2 a2 b2 u2 v2 p2 q2 rb dg = 0 := by
  unfold KX KY
  rw [if_neg h, if_neg h]; exact ⟨rfl, rfl⟩
/-- The kick of a ball off a disc; the error of a bump. -/
def PE (m r a b u v p q x y R rb dg : Int) : Int := if motB m r a b u v p q && discB x y R && bncB rb dg then kickE (nearB (sq a b x y) (r + R)) (u * (x - a) + v * (y - b)) else 2
def PX (m r a b u v p q x y R rb dg : Int) : Int := if PE m r a b u v p q x y R rb dg = 0 then kx u v (x - a) (y - b) (sq a b x y) 1 rb dg else 0
def PY (m r a b u v p q x y R rb dg : Int) : Int := if PE m r a b u v p q x y R rb dg = 0 then ky u v (x - a) (y - b) (sq a b x y) 1 rb dg else 0
def UE (m r a b u v p q x y R rb dg : Int) : Int := if PE m r a b u v p q x y R rb dg = 0 then (if momB (u - PX m r a b u v p q x y R rb dg) (v - PY m r a b u v p q x y R rb dg) then 0 else 4) else PE m r a b u v p q x y R rb dg
theorem disc_facts {x y R : Int} (h : discB x y R = true) : placeB x y = true ∧ (-4194304 ≤ x ∧ x ≤ 4194304) ∧ (-4194304 ≤ y ∧ y ≤ 4194304) ∧ (1 ≤ R ∧ R ≤ 65536) := by
  simp only [discB, Bool.and_eq_true, btw_iff] at h
  obtain ⟨h1, h2⟩ := h
  have h3 := h1
  simp only [placeB, Bool.and_eq_true, btw_iff] at h3
  exact ⟨h1, h3.1, h3.2, h2⟩
theorem PE_facts {m r a b u v p q x y R rb dg : Int} (h : PE m r a b u v p q x y R rb dg = 0) : motB m r a b u v p q = true ∧ discB x y R = true ∧ bncB rb dg = true ∧ nearB (sq a b x y) (r + R) = true ∧ 0 < u * (x - a) + v * (y - b) := by
  unfold PE kickE at h
  split at h
  · rename_i hb
    simp only [Bool.and_eq_true] at hb
    split at h
    · split at h
      · exact ⟨hb.1.1, hb.1.2, hb.2, by assumption, by assumption⟩
      · omega
    · omega
  · omega
theorem PE_bad {m r a b u v p q x y R rb dg : Int} (h : ¬ (motB m r a b u v p q = true ∧ discB x y R = true ∧ bncB rb dg = true)) : PE m r a b u v p q x y R rb dg = 2 ∧ UE m r a b u v p q x y R rb dg = 2 := by
  have e : PE m r a b u v p q x y R rb dg = 2 := by
    unfold PE
    rw [if_neg (by simp only [Bool.and_eq_true]; intro k; exact h ⟨k.1.1, k.1.2, k.2⟩)]
  refine ⟨e, ?_⟩
  unfold UE
  rw [e]; rfl
theorem P_rng {m r a b u v p q x y R rb dg : Int} (h : PE m r a b u v p q x y R rb dg = 0) : KickRng u v (x - a) (y - b) (sq a b x y) 1 rb dg := by
  obtain ⟨h1, h2, hx, hn, _⟩ := PE_facts h
  obtain ⟨⟨hm1, hr1⟩, ⟨ha1, hb1⟩, ⟨hu1, hv1⟩, ⟨hp1, hq1⟩⟩ := mot_facts h1
  obtain ⟨_, hx1, hy1, hR⟩ := disc_facts h2
  obtain ⟨hrb, hdg⟩ := bnc_facts hx
  obtain ⟨h0, _, _⟩ := near_facts hn (by omega) (by omega)
  exact kick_rng rfl h0 (by omega) (by omega) hrb.1 hrb.2 hdg.1 hdg.2 (by omega) (by omega) (by omega) (by omega)
theorem P_bd (m r a b u v p q x y R rb dg : Int) : (-50331648 ≤ PX m r a b u v p q x y R rb dg ∧ PX m r a b u v p q x y R rb dg ≤ 50331648) ∧ (-50331648 ≤ PY m r a b u v p q x y R rb dg ∧ PY m r a b u v p q x y R rb dg ≤ 50331648) := by
  unfold PX PY
  by_cases h : PE m r a b u v p q x y R rb dg = 0
  · rw [if_pos h, if_pos h]
    have hr := P_rng h
    obtain ⟨hx, hy⟩ := kx_within u v (x - a) (y - b) (sq a b x y) 1 rb dg
    exact ⟨within_bd hx hr.x, within_bd hy hr.y⟩
  · rw [if_neg h, if_neg h]; omega
theorem P_bd0 {m r a b u v p q x y R rb dg : Int} (h1 : motB m r a b u v p q = true) (h2 : discB x y R = true) (hx : bncB rb dg = true) (n1 : sq a b x y ≤ (r + R) * (r + R)) (n2 : 225 * (r + R) * (r + R) ≤ 256 * sq a b x y) :
    (-50331648 ≤ kx u v (x - a) (y - b) (sq a b x y) 1 rb dg ∧ kx u v (x - a) (y - b) (sq a b x y) 1 rb dg ≤ 50331648) ∧ (-50331648 ≤ ky u v (x - a) (y - b) (sq a b x y) 1 rb dg ∧ ky u v (x - a) (y - b) (sq a b x y) 1 rb dg ≤ 50331648) := by
  obtain ⟨⟨hm1, hr1⟩, ⟨ha1, hb1⟩, ⟨hu1, hv1⟩, ⟨hp1, hq1⟩⟩ := mot_facts h1
  obtain ⟨_, hx1, hy1, hR⟩ := disc_facts h2
  obtain ⟨hrb, hdg⟩ := bnc_facts hx
  have hn : nearB (sq a b x y) (r + R) = true := by simp [nearB, n1, n2]
  obtain ⟨h0, _, _⟩ := near_facts hn (by omega) (by omega)
  have hr := kick_rng (r := rb) (d := dg) (ux := u) (uy := v) (b := 1) (wx := x - a) (wy := y - b) rfl h0 (by omega) (by omega) hrb.1 hrb.2 hdg.1 hdg.2 (by omega) (by omega) (by omega) (by omega)
  obtain ⟨hx, hy⟩ := kx_within u v (x - a) (y - b) (sq a b x y) 1 rb dg
  exact ⟨within_bd hx hr.x, within_bd hy hr.y⟩
theorem near_lo {s R : Int} (h : nearB s R = true) : s ≤ R * R := by
  simp only [nearB, Bool.and_eq_true, decide_eq_true_eq] at h
  exact h.1
theorem near_hi {s R : Int} (h : nearB s R = true) : 225 * R * R ≤ 256 * s := by
  simp only [nearB, Bool.and_eq_true, decide_eq_true_eq] at h
  exact h.2
theorem P_bd1 {m r a b u v p q x y R rb dg : Int} (h1 : motB m r a b u v p q = true) (h2 : discB x y R = true) (hx : bncB rb dg = true) (hn : nearB (sq a b x y) (r + R) = true) :
    (-50331648 ≤ kx u v (x - a) (y - b) ((x - a) * (x - a) + (y - b) * (y - b)) 1 rb dg ∧ kx u v (x - a) (y - b) ((x - a) * (x - a) + (y - b) * (y - b)) 1 rb dg ≤ 50331648) ∧ (-50331648 ≤ ky u v (x - a) (y - b) ((x - a) * (x - a) + (y - b) * (y - b)) 1 rb dg ∧ ky u v (x - a) (y - b) ((x - a) * (x - a) + (y - b) * (y - b)) 1 rb dg ≤ 50331648) :=
  P_bd0 h1 h2 hx (near_lo hn) (near_hi hn)
/-- Work. -/
def WE (m1 r1 a1 b1 u1 v1 p1 q1 m2 r2 a2 b2 u2 v2 p2 q2 : Int) : Int := if motB m1 r1 a1 b1 u1 v1 p1 q1 && motB m2 r2 a2 b2 u2 v2 p2 q2 then 0 else 2
def WK (m1 r1 a1 b1 u1 v1 p1 q1 m2 r2 a2 b2 u2 v2 p2 q2 : Int) : Int := if WE m1 r1 a1 b1 u1 v1 p1 q1 m2 r2 a2 b2 u2 v2 p2 q2 = 0 then m2 * (u1 * u1 + v1 * v1) + m1 * (u2 * u2 + v2 * v2) else 0
theorem WE_bad {m1 r1 a1 b1 u1 v1 p1 q1 m2 r2 a2 b2 u2 v2 p2 q2 : Int} (h : ¬ (motB m1 r1 a1 b1 u1 v1 p1 q1 = true ∧ motB m2 r2 a2 b2 u2 v2 p2 q2 = true)) : WK m1 r1 a1 b1 u1 v1 p1 q1 m2 r2 a2 b2 u2 v2 p2 q2 = 0 ∧ WE m1 r1 a1 b1 u1 v1 p1 q1 m2 r2 a2 b2 u2 v2 p2 q2 = 2 := by
  have e : WE m1 r1 a1 b1 u1 v1 p1 q1 m2 r2 a2 b2 u2 v2 p2 q2 = 2 := by
    unfold WE
    rw [if_neg (by simp only [Bool.and_eq_true]; exact h)]
  refine ⟨?_, e⟩
  unfold WK
  rw [e]; rfl
theorem work_facts {m u v : Int} (h1 : 400 ≤ m ∧ m ≤ 500) (hu : -16777216 ≤ u ∧ u ≤ 16777216) (hv : -16777216 ≤ v ∧ v ≤ 16777216) : (0 ≤ u * u ∧ u * u ≤ 281474976710656) ∧ (0 ≤ v * v ∧ v * v ≤ 281474976710656) := by
  have a1 := sq_mono hu.1 hu.2
  have a2 := sq_mono hv.1 hv.2
  have a3 := sq_nonneg u
  have a4 := sq_nonneg v
  omega
theorem work_mul {m s : Int} (h1 : 400 ≤ m ∧ m ≤ 500) (h2 : 0 ≤ s ∧ s ≤ 562949953421312) : 0 ≤ m * s ∧ m * s ≤ 281474976710656000 :=
  mul_range m s 500 562949953421312 (by omega) h1.2 h2.1 h2.2
end Go.Proofs.Ytlgabdamgalngaa.M
