/-
  Places towards another one: the program and the document, all cases.
-/
import Derived.Test.YtfcjdmpfoogljaaDoorTowB
import Derived.Test.YtfcjdmpfoogljaaDoorTowC
import Derived.Test.YtfcjdmpfoogljaaDoorTowD
import Derived.Test.YtfcjdmpfoogljaaDoorTowE
import Derived.Test.YtfcjdmpfoogljaaDoorTowT
import Derived.Test.YtfcjdmpfoogljaaDoorTowU
import Derived.Test.YtfcjdmpfoogljaaDoorSegs
set_option linter.unusedVariables false
set_option linter.unusedSimpArgs false
namespace Go.Proofs.YtfcjdmpfoogljaaDoor
open Go.ChangeShapes Go.WideShapes Go.ChangeAt Go.RowKit

theorem chk_in {X Y : Int} (h : M.chk [(X, Y)] = 0) : M.In X Y := by
  rcases M.chk_cases [(X, Y)] with ⟨_, k⟩ | ⟨h', _⟩
  · exact k (X, Y) (by simp)
  · omega
theorem towards_mid (p0 p1 q0 q1 l d : Int) (h1 : M.In p0 p1) (h2 : M.In q0 q1) (l1 : 0 ≤ l) (l2 : l ≤ 4194304) (he : ¬ (p0 = q0 ∧ p1 = q1)) (hr : M.IsRoot (4096 * M.sq p0 p1 q0 q1) d) :
    (M.In (M.tow p0 q0 l d) (M.tow p1 q1 l d) ∧ Both 40 41 #[.agg #[.int .i64 p0, .int .i64 p1], .agg #[.int .i64 q0, .int .i64 q1], .int .i64 l] (.tuple #[.agg #[.int .i64 (M.tow p0 q0 l d), .int .i64 (M.tow p1 q1 l d)], .int .i64 0])) ∨
    Both 40 41 #[.agg #[.int .i64 p0, .int .i64 p1], .agg #[.int .i64 q0, .int .i64 q1], .int .i64 l] (.tuple #[.agg #[.int .i64 0, .int .i64 0], .int .i64 4]) := by
  have j1 := inB_yes h1
  have j2 := inB_yes h2
  have j3 := M.among_yes l1 l2
  have A := fun w => ahead_ref p0 p1 q0 q1 l d w h1 h2 l1 l2 he hr
  by_cases hp : p0 = q0
  · subst hp
    have hne : ¬ p1 = q1 := fun h => he ⟨rfl, h⟩
    have e1 : M.tow p0 p0 l d = p0 + M.whole 0 d := by unfold M.tow; rw [show 64 * (p0 - p0) * l = 0 by simp]
    have e2 : M.tow p1 q1 l d = q1 + M.whole (64 * (p1 - q1) * l) d := rfl
    rw [e1, e2] at A ⊢
    rcases chk_one (X := p0 + M.whole 0 d) (Y := q1 + M.whole (64 * (p1 - q1) * l) d) with ⟨c1, c2⟩ | ⟨c1, c2⟩
    · exact .inl ⟨chk_in c1, fun w => Towards_ok0 p0 p1 q1 l d w h1 h2 l1 l2 hne c1 hr, fun w => rTow_ok0 p0 p1 q1 l _ _ w j1 j2 j3 hne A c2⟩
    · exact .inr ⟨fun w => Towards_over0 p0 p1 q1 l d w h1 h2 l1 l2 hne c1 hr, fun w => rTow_over0 p0 p1 q1 l _ _ w j1 j2 j3 hne A c2⟩
  · rcases chk_one (X := M.tow p0 q0 l d) (Y := M.tow p1 q1 l d) with ⟨c1, c2⟩ | ⟨c1, c2⟩
    · exact .inl ⟨chk_in c1, fun w => Towards_ok p0 p1 q0 q1 l d w h1 h2 l1 l2 hp c1 hr, fun w => rTow_ok p0 p1 q0 q1 l _ _ w j1 j2 j3 hp A c2⟩
    · exact .inr ⟨fun w => Towards_over p0 p1 q0 q1 l d w h1 h2 l1 l2 hp c1 hr, fun w => rTow_over p0 p1 q0 q1 l _ _ w j1 j2 j3 hp A c2⟩
theorem towards_both (p0 p1 q0 q1 l : Int) : ∃ x y e : Int, Both 40 41 #[.agg #[.int .i64 p0, .int .i64 p1], .agg #[.int .i64 q0, .int .i64 q1], .int .i64 l] (.tuple #[.agg #[.int .i64 x, .int .i64 y], .int .i64 e]) := by
  by_cases h : M.In p0 p1 ∧ M.In q0 q1
  · obtain ⟨h1, h2⟩ := h
    by_cases hl : l < 0 ∨ 4194304 < l
    · exact ⟨0, 0, 3, fun w => Towards_range p0 p1 q0 q1 l w h1 h2 hl, fun w => rTowards_range p0 p1 q0 q1 l w h1 h2 hl⟩
    · by_cases he : p0 = q0 ∧ p1 = q1
      · obtain ⟨rfl, rfl⟩ := he
        exact ⟨0, 0, 9, fun w => Towards_zero p0 p1 l w h1 (by omega) (by omega), fun w => rTowards_zero p0 p1 l w h1 (by omega) (by omega)⟩
      · obtain ⟨d, hd⟩ := M.root_ex (4096 * M.sq p0 p1 q0 q1) (by have := M.sq_bd h1 h2; omega)
        rcases towards_mid p0 p1 q0 q1 l d h1 h2 (by omega) (by omega) he hd with ⟨_, b⟩ | b
        · exact ⟨_, _, _, b⟩
        · exact ⟨_, _, _, b⟩
  · exact ⟨0, 0, 2, fun w => Towards_bad p0 p1 q0 q1 l w h, fun w => rTowards_bad p0 p1 q0 q1 l w h⟩
end Go.Proofs.YtfcjdmpfoogljaaDoor
