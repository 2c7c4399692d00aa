/-
  Layer 3: the loop of the document's Tick, whole.
-/
import Derived.Test.YtlgabdamgalngaaCtTk
import Derived.Test.YtlgabdamgalngaaCtMd
set_option linter.unusedVariables false
set_option linter.unusedSimpArgs false
namespace Go.Proofs.Ytlgabdamgalngaa
open Go Go.RowKit Go.Proofs.Ytlgabdamgalngaa.E

theorem tk_all (m r a b u v p q t : Int) (h1 : M.motB m r a b u v p q = true) (ht1 : 0 ≤ t) (ht2 : t ≤ 1000) : ∀ (k : Nat) (i : Int), i + k = 16 * t → 0 ≤ i → M.placeB (M.ax i m a u p) (M.ax i m b v q) = true →
    (M.AE (16 * t) m a b u v p q = 0 ∧ ∃ n, Rounds cfg cfg.L (loopOf cfg.P 23 0) n (tk_T m r a b u v p q t (i) (M.ax (i) m a u p) (M.ax (i) m b v q) u v (M.ar (i) m u p) (M.ar (i) m v q)) (tk_H m r a b u v p q t (i) (M.ax (i) m a u p) (M.ax (i) m b v q) u v (M.ar (i) m u p) (M.ar (i) m v q)) (.exit 0) (tk_T3 m r a b u v p q t (16 * t) (M.ax (16 * t) m a u p) (M.ax (16 * t) m b v q) u v (M.ar (16 * t) m u p) (M.ar (16 * t) m v q)) (tk_H3 m r a b u v p q t (16 * t) (M.ax (16 * t) m a u p) (M.ax (16 * t) m b v q) u v (M.ar (16 * t) m u p) (M.ar (16 * t) m v q))) ∨
    (M.AE (16 * t) m a b u v p q = 4 ∧ ∃ j X Y U W P Q n, M.SE m r X Y U W P Q = 4 ∧ Rounds cfg cfg.L (loopOf cfg.P 23 0) n (tk_T m r a b u v p q t (i) (M.ax (i) m a u p) (M.ax (i) m b v q) u v (M.ar (i) m u p) (M.ar (i) m v q)) (tk_H m r a b u v p q t (i) (M.ax (i) m a u p) (M.ax (i) m b v q) u v (M.ar (i) m u p) (M.ar (i) m v q)) .ret (tk_T1 m r a b u v p q t j X Y U W P Q) (tk_H1 m r a b u v p q t j X Y U W P Q)) := by
  have he1 := M.err_eq.2 h1
  obtain ⟨⟨hm, hr⟩, ⟨ha, hb⟩, ⟨hu, hv⟩, ⟨hp, hq⟩⟩ := M.mot_facts h1
  intro k
  induction k with
  | zero =>
    intro i hi h0 hpl
    obtain rfl : i = 16 * t := by omega
    left
    refine ⟨by unfold M.AE; rw [hpl]; rfl, 1, ?_⟩
    exact rounds_done (tk_3 m r a b u v p q t h1 he1 ht1 ht2 (16 * t) (M.ax (16 * t) m a u p) (M.ax (16 * t) m b v q) u v (M.ar (16 * t) m u p) (M.ar (16 * t) m v q) h0 (by omega) (by omega)) (by simp)
  | succ k ih =>
    intro i hi h0 hpl
    have hSE := M.SE_after h1 hpl
    rcases M.AE_cases (i + 1) m a b u v p q with ⟨e0, hpl'⟩ | ⟨e4, hbad⟩
    · have hb := tk_2 m r a b u v p q t h1 he1 ht1 ht2 i (M.ax (i) m a u p) (M.ax (i) m b v q) u v (M.ar (i) m u p) (M.ar (i) m v q) h0 (by omega) (by omega) (hSE.trans e0)
      have es : ∀ z, M.sel (M.SE m r (M.ax (i) m a u p) (M.ax (i) m b v q) u v (M.ar (i) m u p) (M.ar (i) m v q)) z = z := fun z => if_pos (hSE.trans e0)
      simp only [es] at hb
      rw [(M.ax_succ (n := i) (a := a) (u := u) (p := p) (m := m) (by omega)).1, (M.ax_succ (n := i) (a := a) (u := u) (p := p) (m := m) (by omega)).2, (M.ax_succ (n := i) (a := b) (u := v) (p := q) (m := m) (by omega)).1, (M.ax_succ (n := i) (a := b) (u := v) (p := q) (m := m) (by omega)).2] at hb
      rcases ih (i + 1) (by omega) (by omega) hpl' with ⟨g1, n, g2⟩ | ⟨g1, j, X, Y, U, W, P, Q, n, g2, g3⟩
      · exact Or.inl ⟨g1, n + 1, rounds_more hb g2⟩
      · exact Or.inr ⟨g1, j, X, Y, U, W, P, Q, n + 1, g2, rounds_more hb g3⟩
    · right
      have hA : M.AE (16 * t) m a b u v p q = 4 := by
        rcases M.AE_cases (16 * t) m a b u v p q with ⟨_, g⟩ | ⟨g, _⟩
        · have := M.place_between hm hp hq (i := i + 1) (k := 16 * t) (by omega) (by omega) (M.mot_place h1) g
          rw [this] at hbad
          cases hbad
        · exact g
      refine ⟨hA, i, _, _, _, _, _, _, 1, hSE.trans e4, rounds_done (tk_1 m r a b u v p q t h1 he1 ht1 ht2 i (M.ax (i) m a u p) (M.ax (i) m b v q) u v (M.ar (i) m u p) (M.ar (i) m v q) h0 (by omega) (by omega) (by rw [hSE, e4]; decide)) (by simp)⟩

end Go.Proofs.Ytlgabdamgalngaa
