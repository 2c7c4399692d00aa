/-
  Layer 3: the loop of the statement ContactLost, whole.
-/
import Derived.Test.YtlgabdamgalngaaCtLl
set_option linter.unusedVariables false
set_option linter.unusedSimpArgs false
namespace Go.Proofs.Ytlgabdamgalngaa
open Go Go.RowKit Go.Proofs.Ytlgabdamgalngaa.E

theorem ll_all (m r a b u v p q ticks tX tY tU tW tP tQ tE : Int) (h1 : M.motB m r a b u v p q = true) (ht1 : 0 ≤ ticks) (ht2 : ticks ≤ 255) (hT : Ret cfg 22 [.raw (.agg #[.int .i64 m, .int .i64 r]), .raw (.agg #[.int .i64 a, .int .i64 b, .int .i64 u, .int .i64 v, .int .i64 p, .int .i64 q]), .raw (.int .i64 (ticks.tmod 4))] (.raw (.tuple #[.agg #[.int .i64 tX, .int .i64 tY, .int .i64 tU, .int .i64 tW, .int .i64 tP, .int .i64 tQ], .int .i64 tE]))) (htE : tE = M.AE (16 * ticks.tmod 4) m a b u v p q) :
    ∀ (k : Nat) (i : Int), i + k = 16 * ticks.tmod 4 → 0 ≤ i → M.placeB (M.ax i m a u p) (M.ax i m b v q) = true →
    (M.AE (16 * ticks.tmod 4) m a b u v p q = 0 ∧ ∃ n, Rounds cfg cfg.L (loopOf cfg.P 6 0) n (ll_T m r a b u v p q ticks tX tY tU tW tP tQ tE (i) (M.ax (i) m a u p) (M.ax (i) m b v q) u v (M.ar (i) m u p) (M.ar (i) m v q)) (ll_H m r a b u v p q ticks tX tY tU tW tP tQ tE (i) (M.ax (i) m a u p) (M.ax (i) m b v q) u v (M.ar (i) m u p) (M.ar (i) m v q)) (.exit 0) (ll_T3 m r a b u v p q ticks tX tY tU tW tP tQ tE (16 * ticks.tmod 4) (M.ax (16 * ticks.tmod 4) m a u p) (M.ax (16 * ticks.tmod 4) m b v q) u v (M.ar (16 * ticks.tmod 4) m u p) (M.ar (16 * ticks.tmod 4) m v q)) (ll_H3 m r a b u v p q ticks tX tY tU tW tP tQ tE (16 * ticks.tmod 4) (M.ax (16 * ticks.tmod 4) m a u p) (M.ax (16 * ticks.tmod 4) m b v q) u v (M.ar (16 * ticks.tmod 4) m u p) (M.ar (16 * ticks.tmod 4) m v q))) ∨
    (M.AE (16 * ticks.tmod 4) m a b u v p q = 4 ∧ ∃ j X Y U W P Q n, Rounds cfg cfg.L (loopOf cfg.P 6 0) n (ll_T m r a b u v p q ticks tX tY tU tW tP tQ tE (i) (M.ax (i) m a u p) (M.ax (i) m b v q) u v (M.ar (i) m u p) (M.ar (i) m v q)) (ll_H m r a b u v p q ticks tX tY tU tW tP tQ tE (i) (M.ax (i) m a u p) (M.ax (i) m b v q) u v (M.ar (i) m u p) (M.ar (i) m v q)) .ret (ll_T1 m r a b u v p q ticks tX tY tU tW tP tQ tE j X Y U W P Q) (ll_H1 m r a b u v p q ticks tX tY tU tW tP tQ tE j X Y U W P Q)) := by
  have he1 := M.err_eq.2 h1
  have hb4 := M.tmod_bd4 ht1
  obtain ⟨⟨hm, hr⟩, ⟨ha, hb⟩, ⟨hu, hv⟩, ⟨hp, hq⟩⟩ := M.mot_facts h1
  intro k
  induction k with
  | zero =>
    intro i hi h0 hpl
    obtain rfl : i = 16 * ticks.tmod 4 := by omega
    left
    refine ⟨by unfold M.AE; rw [hpl]; rfl, 1, ?_⟩
    exact rounds_done (ll_3 m r a b u v p q ticks tX tY tU tW tP tQ tE h1 he1 ht1 ht2 hT (16 * ticks.tmod 4) (M.ax (16 * ticks.tmod 4) m a u p) (M.ax (16 * ticks.tmod 4) m b v q) u v (M.ar (16 * ticks.tmod 4) m u p) (M.ar (16 * ticks.tmod 4) m v q) h0 (by omega) (Or.inl (by omega)) (by omega)) (by simp)
  | succ k ih =>
    intro i hi h0 hpl
    have hSE := M.SE_after h1 hpl
    rcases M.AE_cases (i + 1) m a b u v p q with ⟨e0, hpl'⟩ | ⟨e4, hbad⟩
    · have hb := ll_2 m r a b u v p q ticks tX tY tU tW tP tQ tE h1 he1 ht1 ht2 hT i (M.ax (i) m a u p) (M.ax (i) m b v q) u v (M.ar (i) m u p) (M.ar (i) m v q) h0 (by omega) (Or.inr (Or.inl (hSE.trans e0))) (by omega) (hSE.trans e0)
      have es : ∀ z, M.sel (M.SE m r (M.ax (i) m a u p) (M.ax (i) m b v q) u v (M.ar (i) m u p) (M.ar (i) m v q)) z = z := fun z => if_pos (hSE.trans e0)
      simp only [es] at hb
      rw [(M.ax_succ (n := i) (a := a) (u := u) (p := p) (m := m) (by omega)).1, (M.ax_succ (n := i) (a := a) (u := u) (p := p) (m := m) (by omega)).2, (M.ax_succ (n := i) (a := b) (u := v) (p := q) (m := m) (by omega)).1, (M.ax_succ (n := i) (a := b) (u := v) (p := q) (m := m) (by omega)).2] at hb
      rcases ih (i + 1) (by omega) (by omega) hpl' with ⟨g1, n, g2⟩ | ⟨g1, j, X, Y, U, W, P, Q, n, g3⟩
      · exact Or.inl ⟨g1, n + 1, rounds_more hb g2⟩
      · exact Or.inr ⟨g1, j, X, Y, U, W, P, Q, n + 1, rounds_more hb g3⟩
    · right
      have hA : M.AE (16 * ticks.tmod 4) m a b u v p q = 4 := by
        rcases M.AE_cases (16 * ticks.tmod 4) m a b u v p q with ⟨_, g⟩ | ⟨g, _⟩
        · have := M.place_between hm hp hq (i := i + 1) (k := 16 * ticks.tmod 4) (by omega) (by omega) (M.mot_place h1) g
          rw [this] at hbad
          cases hbad
        · exact g
      exact ⟨hA, i, _, _, _, _, _, _, 1, rounds_done (ll_1 m r a b u v p q ticks tX tY tU tW tP tQ tE h1 he1 ht1 ht2 hT i (M.ax (i) m a u p) (M.ax (i) m b v q) u v (M.ar (i) m u p) (M.ar (i) m v q) h0 (by omega) (Or.inr (Or.inr ⟨hSE.trans e4, htE.trans hA⟩)) (by omega) (by rw [hSE, e4]; decide)) (by simp)⟩

end Go.Proofs.Ytlgabdamgalngaa
