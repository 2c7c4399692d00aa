/-
  Layer 3: a kick, both sides.
-/
import Derived.Test.YtlgabdamgalngaaCtL
set_option linter.unusedVariables false
set_option linter.unusedSimpArgs false
namespace Go.Proofs.Ytlgabdamgalngaa
open Go Go.RowKit Go.Proofs.Ytlgabdamgalngaa.E
theorem tooB_yes {b ux uy X Y : Int} (h : M.tooB b ux uy X Y = true) : (2 : Int) * (ux * X + uy * Y) < b * (X * X + Y * Y) := of_decide_eq_true h
theorem tooB_no {b ux uy X Y : Int} (h : M.tooB b ux uy X Y = false) : ¬ (2 : Int) * (ux * X + uy * Y) < b * (X * X + Y * Y) := of_decide_eq_false h
theorem kl_all (wx wy sq ux uy b r d : Int) (hb1 : 1 ≤ b) (hb2 : b ≤ 1000) (hu1 : -16777216000 ≤ ux) (hu2 : ux ≤ 16777216000) (hv1 : -16777216000 ≤ uy) (hv2 : uy ≤ 16777216000) :
    ∀ (n : Nat) (X Y : Int), X.natAbs + Y.natAbs ≤ n → -50331648 ≤ X → X ≤ 50331648 → -50331648 ≤ Y → Y ≤ 50331648 →
      ∃ m, Rounds cfg cfg.L (loopOf cfg.P 93 0) m (kl_T wx wy sq ux uy b r d X Y) (kl_H wx wy sq ux uy b r d X Y) (.exit 0) (kl_T2 wx wy sq ux uy b r d (M.hvx b ux uy X Y) (M.hvy b ux uy X Y)) (kl_H2 wx wy sq ux uy b r d (M.hvx b ux uy X Y) (M.hvy b ux uy X Y)) := by
  intro n
  induction n with
  | zero =>
    intro X Y h hx1 hx2 hy1 hy2
    have hx : X = 0 := by omega
    have hy : Y = 0 := by omega
    subst hx; subst hy
    have ht := M.tooB_zero b ux uy
    rw [(M.hv_stop ht).1, (M.hv_stop ht).2]
    exact ⟨1, rounds_done (kl_2 wx wy sq ux uy b r d hb1 hb2 hu1 hu2 hv1 hv2 0 0 hx1 hx2 hy1 hy2 (tooB_no ht)) (by simp)⟩
  | succ n ih =>
    intro X Y h hx1 hx2 hy1 hy2
    cases ht : M.tooB b ux uy X Y with
    | false =>
      rw [(M.hv_stop ht).1, (M.hv_stop ht).2]
      exact ⟨1, rounds_done (kl_2 wx wy sq ux uy b r d hb1 hb2 hu1 hu2 hv1 hv2 X Y hx1 hx2 hy1 hy2 (tooB_no ht)) (by simp)⟩
    | true =>
      rw [(M.hv_step ht).1, (M.hv_step ht).2]
      have hl := M.tooB_lt ht
      obtain ⟨_, _, _, _, _, h6, h7⟩ := M.round_rng hb1 hb2 hu1 hu2 hv1 hv2 hx1 hx2 hy1 hy2
      obtain ⟨m, hm⟩ := ih (X.tdiv 2) (Y.tdiv 2) (by omega) h6.1 h6.2 h7.1 h7.2
      exact ⟨m + 1, rounds_more (kl_1 wx wy sq ux uy b r d hb1 hb2 hu1 hu2 hv1 hv2 X Y hx1 hx2 hy1 hy2 (tooB_yes ht)) hm⟩
theorem kl_loop (wx wy sq ux uy b r d X Y : Int) (hb1 : 1 ≤ b) (hb2 : b ≤ 1000) (hu1 : -16777216000 ≤ ux) (hu2 : ux ≤ 16777216000) (hv1 : -16777216000 ≤ uy) (hv2 : uy ≤ 16777216000) (hx : -50331648 ≤ X ∧ X ≤ 50331648) (hy : -50331648 ≤ Y ∧ Y ≤ 50331648) :
    Runs cfg cfg.L (.loop (loopOf cfg.P 93 0)) (kl_T wx wy sq ux uy b r d X Y) (kl_H wx wy sq ux uy b r d X Y) (.exit 0) (kl_T2 wx wy sq ux uy b r d (M.hvx b ux uy X Y) (M.hvy b ux uy X Y)) (kl_H2 wx wy sq ux uy b r d (M.hvx b ux uy X Y) (M.hvy b ux uy X Y)) := by
  obtain ⟨m, hm⟩ := kl_all wx wy sq ux uy b r d hb1 hb2 hu1 hu2 hv1 hv2 _ X Y (Nat.le_refl _) hx.1 hx.2 hy.1 hy.2
  exact runs_loop hm
theorem rl_all (wx wy ux uy r d b : Int) (hb1 : 1 ≤ b) (hb2 : b ≤ 1000) (hu1 : -16777216000 ≤ ux) (hu2 : ux ≤ 16777216000) (hv1 : -16777216000 ≤ uy) (hv2 : uy ≤ 16777216000) (hp : 0 < ux * wx + uy * wy) (hq : 0 < wx * wx + wy * wy) (hm : ¬ (ux * wx + uy * wy).tmod (wx * wx + wy * wy) < 0) :
    ∀ (n : Nat) (X Y : Int), X.natAbs + Y.natAbs ≤ n → -50331648 ≤ X → X ≤ 50331648 → -50331648 ≤ Y → Y ≤ 50331648 →
      ∃ m, Rounds cfg cfg.L (loopOf cfg.P 62 0) m (rl_T wx wy ux uy r d b X Y) (rl_H wx wy ux uy r d b X Y) (.exit 0) (rl_T2 wx wy ux uy r d b (M.hvx b ux uy X Y) (M.hvy b ux uy X Y)) (rl_H2 wx wy ux uy r d b (M.hvx b ux uy X Y) (M.hvy b ux uy X Y)) := by
  intro n
  induction n with
  | zero =>
    intro X Y h hx1 hx2 hy1 hy2
    have hx : X = 0 := by omega
    have hy : Y = 0 := by omega
    subst hx; subst hy
    have ht := M.tooB_zero b ux uy
    rw [(M.hv_stop ht).1, (M.hv_stop ht).2]
    exact ⟨1, rounds_done (rl_2 wx wy ux uy r d b hb1 hb2 hu1 hu2 hv1 hv2 hp hq hm 0 0 hx1 hx2 hy1 hy2 (tooB_no ht)) (by simp)⟩
  | succ n ih =>
    intro X Y h hx1 hx2 hy1 hy2
    cases ht : M.tooB b ux uy X Y with
    | false =>
      rw [(M.hv_stop ht).1, (M.hv_stop ht).2]
      exact ⟨1, rounds_done (rl_2 wx wy ux uy r d b hb1 hb2 hu1 hu2 hv1 hv2 hp hq hm X Y hx1 hx2 hy1 hy2 (tooB_no ht)) (by simp)⟩
    | true =>
      rw [(M.hv_step ht).1, (M.hv_step ht).2]
      have hl := M.tooB_lt ht
      obtain ⟨_, _, _, _, _, h6, h7⟩ := M.round_rng hb1 hb2 hu1 hu2 hv1 hv2 hx1 hx2 hy1 hy2
      obtain ⟨m, hm'⟩ := ih (X.tdiv 2) (Y.tdiv 2) (by omega) h6.1 h6.2 h7.1 h7.2
      exact ⟨m + 1, rounds_more (rl_1 wx wy ux uy r d b hb1 hb2 hu1 hu2 hv1 hv2 hp hq hm X Y hx1 hx2 hy1 hy2 (tooB_yes ht)) hm'⟩
theorem rl_loop (wx wy ux uy r d b X Y : Int) (hb1 : 1 ≤ b) (hb2 : b ≤ 1000) (hu1 : -16777216000 ≤ ux) (hu2 : ux ≤ 16777216000) (hv1 : -16777216000 ≤ uy) (hv2 : uy ≤ 16777216000) (hp : 0 < ux * wx + uy * wy) (hq : 0 < wx * wx + wy * wy) (hm : ¬ (ux * wx + uy * wy).tmod (wx * wx + wy * wy) < 0) (hx : -50331648 ≤ X ∧ X ≤ 50331648) (hy : -50331648 ≤ Y ∧ Y ≤ 50331648) :
    Runs cfg cfg.L (.loop (loopOf cfg.P 62 0)) (rl_T wx wy ux uy r d b X Y) (rl_H wx wy ux uy r d b X Y) (.exit 0) (rl_T2 wx wy ux uy r d b (M.hvx b ux uy X Y) (M.hvy b ux uy X Y)) (rl_H2 wx wy ux uy r d b (M.hvx b ux uy X Y) (M.hvy b ux uy X Y)) := by
  obtain ⟨m, hm'⟩ := rl_all wx wy ux uy r d b hb1 hb2 hu1 hu2 hv1 hv2 hp hq hm _ X Y (Nat.le_refl _) hx.1 hx.2 hy.1 hy.2
  exact runs_loop hm'
theorem rl_kick {wx wy ux uy r d b X Y : Int} (hb1 : 1 ≤ b) (hb2 : b ≤ 1000) (hu1 : -16777216000 ≤ ux) (hu2 : ux ≤ 16777216000) (hv1 : -16777216000 ≤ uy) (hv2 : uy ≤ 16777216000) (hp : 0 < ux * wx + uy * wy) (hq : 0 < wx * wx + wy * wy) (hm : ¬ (ux * wx + uy * wy).tmod (wx * wx + wy * wy) < 0) (hx : -50331648 ≤ X ∧ X ≤ 50331648) (hy : -50331648 ≤ Y ∧ Y ≤ 50331648)
    (eX : X = M.k0x ux uy wx wy (wx * wx + wy * wy) b r d) (eY : Y = M.k0y ux uy wx wy (wx * wx + wy * wy) b r d) :
    Runs cfg cfg.L (.loop (loopOf cfg.P 62 0)) (rl_T wx wy ux uy r d b X Y) (rl_H wx wy ux uy r d b X Y) (.exit 0) (rl_T2 wx wy ux uy r d b (M.kx ux uy wx wy (wx * wx + wy * wy) b r d) (M.ky ux uy wx wy (wx * wx + wy * wy) b r d)) (rl_H2 wx wy ux uy r d b (M.kx ux uy wx wy (wx * wx + wy * wy) b r d) (M.ky ux uy wx wy (wx * wx + wy * wy) b r d)) := by
  have h := rl_loop wx wy ux uy r d b X Y hb1 hb2 hu1 hu2 hv1 hv2 hp hq hm hx hy
  unfold M.kx M.ky
  rw [← eX, ← eY]
  exact h
end Go.Proofs.Ytlgabdamgalngaa
