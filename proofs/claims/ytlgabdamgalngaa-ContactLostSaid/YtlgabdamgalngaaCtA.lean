/-
  Layer 3: the checks, both sides.
-/
import Derived.Test.YtlgabdamgalngaaEngS
import Derived.Test.YtlgabdamgalngaaCtM
import Derived.Test.YtlgabdamgalngaaSegs
set_option linter.unusedVariables false
set_option linter.unusedSimpArgs false
namespace Go.Proofs.Ytlgabdamgalngaa
open Go Go.RowKit Go.Proofs.Ytlgabdamgalngaa.E

theorem chk_place (x y : Int) : M.chk [(x, y)] = M.err (M.placeB x y) := by
  unfold M.chk M.okAll M.err M.placeB M.btw
  simp only [List.all_cons, List.all_nil, Bool.and_true, M.fits, Bool.decide_and]
theorem chkDisc_place (x y r : Int) : chkDisc x y r = M.err (M.discB x y r) := by
  unfold chkDisc M.discB
  by_cases h : r < 1 ∨ 65536 < r
  · rw [if_pos h]
    have : M.btw r 1 65536 = false := by rw [M.btw_no]; omega
    simp [this]
  · rw [if_neg h, chk_place]
    have : M.btw r 1 65536 = true := by rw [M.btw_iff]; omega
    simp [this]
theorem turfCheck (x y : Int) : Ret cfg 48 [.raw (.agg #[.int .i64 x, .int .i64 y])] (.raw (.int .i64 (M.err (M.placeB x y)))) := by
  rw [← chk_place]
  exact fn_of_calls (args := [.agg #[.int .i64 x, .int .i64 y]]) fun w => Check_any x y w
theorem turfCheckDisc (x y r : Int) : Ret cfg 64 [.raw (.agg #[.int .i64 x, .int .i64 y, .int .i64 r])] (.raw (.int .i64 (M.err (M.discB x y r)))) := by
  rw [← chkDisc_place]
  exact fn_of_calls (args := [.agg #[.int .i64 x, .int .i64 y, .int .i64 r]]) fun w => CheckDisc_any x y r w

set_option maxRecDepth 100000 in
theorem between_1 (n l h : Int) (f0 : l ≤ n) : Ret cfg 46 [.raw (.int .i64 n), .raw (.int .i64 l), .raw (.int .i64 h)] (V.raw (Value.bool (decide (n ≤ h)))) := by
  exact fn_of cfg_mixed cfg_call cfg_base.1 cfg_base.2.1 cfg_base.2.2 (n := 40) (ans := [Ans.go, Ans.br true, Ans.br true]) (cons := [(decide (l ≤ n) = true), (true = true)]) (by kernel_rfl) rfl rfl
    ⟨(by first | assumption | omega | (simp; omega) | (simp_all; done) | (simp_all; omega)), rfl, trivial⟩
set_option maxRecDepth 100000 in
theorem between_2 (n l h : Int) (f0 : ¬l ≤ n) : Ret cfg 46 [.raw (.int .i64 n), .raw (.int .i64 l), .raw (.int .i64 h)] (V.raw (Value.bool false)) := by
  exact fn_of cfg_mixed cfg_call cfg_base.1 cfg_base.2.1 cfg_base.2.2 (n := 40) (ans := [Ans.go, Ans.br false, Ans.br false]) (cons := [(decide (l ≤ n) = false), (false = false)]) (by kernel_rfl) rfl rfl
    ⟨(by first | assumption | omega | (simp; omega) | (simp_all; done) | (simp_all; omega)), rfl, trivial⟩
theorem between (n l h : Int) : Ret cfg 46 [.raw (.int .i64 n), .raw (.int .i64 l), .raw (.int .i64 h)] (.raw (.bool (M.btw n l h))) := by
  by_cases f0 : l ≤ n
  ·
    have e : (.raw (.bool (M.btw n l h)) : V) = V.raw (Value.bool (decide (n ≤ h))) := by (simp [M.btw]; omega)
    rw [e]
    exact between_1 n l h f0
  ·
    have e : (.raw (.bool (M.btw n l h)) : V) = V.raw (Value.bool false) := by (simp [M.btw]; omega)
    rw [e]
    exact between_2 n l h f0
set_option maxRecDepth 100000 in
theorem within_1 (n l h : Int) (f0 : l ≤ n) : Ret cfg 47 [.raw (.int .i64 n), .raw (.int .i64 l), .raw (.int .i64 h)] (V.raw (Value.bool (decide (n ≤ h)))) := by
  exact fn_of cfg_mixed cfg_call cfg_base.1 cfg_base.2.1 cfg_base.2.2 (n := 40) (ans := [Ans.go, Ans.br true, Ans.br true]) (cons := [(decide (l ≤ n) = true), (true = true)]) (by kernel_rfl) rfl rfl
    ⟨(by first | assumption | omega | (simp; omega) | (simp_all; done) | (simp_all; omega)), rfl, trivial⟩
set_option maxRecDepth 100000 in
theorem within_2 (n l h : Int) (f0 : ¬l ≤ n) : Ret cfg 47 [.raw (.int .i64 n), .raw (.int .i64 l), .raw (.int .i64 h)] (V.raw (Value.bool false)) := by
  exact fn_of cfg_mixed cfg_call cfg_base.1 cfg_base.2.1 cfg_base.2.2 (n := 40) (ans := [Ans.go, Ans.br false, Ans.br false]) (cons := [(decide (l ≤ n) = false), (false = false)]) (by kernel_rfl) rfl rfl
    ⟨(by first | assumption | omega | (simp; omega) | (simp_all; done) | (simp_all; omega)), rfl, trivial⟩
theorem within (n l h : Int) : Ret cfg 47 [.raw (.int .i64 n), .raw (.int .i64 l), .raw (.int .i64 h)] (.raw (.bool (M.btw n l h))) := by
  by_cases f0 : l ≤ n
  ·
    have e : (.raw (.bool (M.btw n l h)) : V) = V.raw (Value.bool (decide (n ≤ h))) := by (simp [M.btw]; omega)
    rw [e]
    exact within_1 n l h f0
  ·
    have e : (.raw (.bool (M.btw n l h)) : V) = V.raw (Value.bool false) := by (simp [M.btw]; omega)
    rw [e]
    exact within_2 n l h f0
set_option maxRecDepth 100000 in
theorem among_1 (n l h : Int) (f0 : l ≤ n) : Ret cfg 82 [.raw (.int .i64 n), .raw (.int .i64 l), .raw (.int .i64 h)] (V.raw (Value.bool (decide (n ≤ h)))) := by
  exact fn_of cfg_mixed cfg_call cfg_base.1 cfg_base.2.1 cfg_base.2.2 (n := 40) (ans := [Ans.go, Ans.br true, Ans.br true]) (cons := [(decide (l ≤ n) = true), (true = true)]) (by kernel_rfl) rfl rfl
    ⟨(by first | assumption | omega | (simp; omega) | (simp_all; done) | (simp_all; omega)), rfl, trivial⟩
set_option maxRecDepth 100000 in
theorem among_2 (n l h : Int) (f0 : ¬l ≤ n) : Ret cfg 82 [.raw (.int .i64 n), .raw (.int .i64 l), .raw (.int .i64 h)] (V.raw (Value.bool false)) := by
  exact fn_of cfg_mixed cfg_call cfg_base.1 cfg_base.2.1 cfg_base.2.2 (n := 40) (ans := [Ans.go, Ans.br false, Ans.br false]) (cons := [(decide (l ≤ n) = false), (false = false)]) (by kernel_rfl) rfl rfl
    ⟨(by first | assumption | omega | (simp; omega) | (simp_all; done) | (simp_all; omega)), rfl, trivial⟩
theorem among (n l h : Int) : Ret cfg 82 [.raw (.int .i64 n), .raw (.int .i64 l), .raw (.int .i64 h)] (.raw (.bool (M.btw n l h))) := by
  by_cases f0 : l ≤ n
  ·
    have e : (.raw (.bool (M.btw n l h)) : V) = V.raw (Value.bool (decide (n ≤ h))) := by (simp [M.btw]; omega)
    rw [e]
    exact among_1 n l h f0
  ·
    have e : (.raw (.bool (M.btw n l h)) : V) = V.raw (Value.bool false) := by (simp [M.btw]; omega)
    rw [e]
    exact among_2 n l h f0
end Go.Proofs.Ytlgabdamgalngaa
