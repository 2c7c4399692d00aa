/-
  Layer 3: a momentum that is slowed, both sides.
-/
import Derived.Test.YtlgabdamgalngaaCtW
import Derived.Test.YtlgabdamgalngaaCtMc
set_option linter.unusedVariables false
set_option linter.unusedSimpArgs false
namespace Go.Proofs.Ytlgabdamgalngaa
open Go Go.RowKit Go.Proofs.Ytlgabdamgalngaa.E

theorem turfRoot {n : Int} (h3 : 0 ≤ n) (h4 : n ≤ 4611686018427387904) : Ret cfg 52 [.raw (.int .i64 n)] (.raw (.tuple #[.int .i64 (M.rootI n), .int .i64 0])) :=
  fn_of_calls (args := [.int .i64 n]) fun w => Root_ok n (M.rootI n) w h3 h4 (M.rootI_is h3)
theorem rSqrt {n : Int} (h3 : 0 ≤ n) (h4 : n ≤ 4611686018427387904) : Ret cfg 87 [.raw (.int .i64 n)] (.raw (.int .i64 (M.rootI n))) :=
  fn_of_calls (args := [.int .i64 n]) fun w => (sqrt_any n (M.rootI n) w h3 h4 (M.rootI_is h3)).mono fun e w' ⟨h1, h2⟩ => ⟨h1, by subst h2; exact Below.refl _ _⟩
set_option maxRecDepth 100000 in
theorem slow_ok_1 (x y l : Int) (h1 : M.momB x y = true) (f0 : l < (0 : Int)) : Ret cfg 24 [.raw (.agg #[.int .i64 x, .int .i64 y]), .raw (.int .i64 l)] (V.raw (Value.tuple { toList := [Value.agg { toList := [Value.int IntKind.i64 (0 : Int), Value.int IntKind.i64 (0 : Int)] }, Value.int IntKind.i64 (3 : Int)] })) := by
  obtain ⟨hx, hy⟩ := M.mom_facts h1
  obtain ⟨_, _, hL0, hL1⟩ := M.len_facts hx hy
  have eL : M.lenI x y = M.rootI (64 * (x * x + y * y)) := rfl
  rw [eL] at hL0 hL1
  first | have k1 := (M.slow_mul (L := M.rootI (64 * (x * x + y * y))) (l := l) hx ⟨hL0, hL1⟩ (by omega) (by omega)).1 | skip
  first | have k2 := (M.slow_mul (L := M.rootI (64 * (x * x + y * y))) (l := l) hy ⟨hL0, hL1⟩ (by omega) (by omega)).1 | skip
  first | have k3 := (M.slow_mul (L := M.rootI (64 * (x * x + y * y))) (l := l) hx ⟨hL0, hL1⟩ (by omega) (by omega)).2 | skip
  first | have k4 := (M.slow_mul (L := M.rootI (64 * (x * x + y * y))) (l := l) hy ⟨hL0, hL1⟩ (by omega) (by omega)).2 | skip
  exact fn_of cfg_mixed cfg_call cfg_base.1 cfg_base.2.1 cfg_base.2.2 (n := 40) (ans := [Ans.go, Ans.ret (V.raw (Value.bool (M.momB x y))), Ans.br false, Ans.br true, Ans.br true, Ans.br true]) (cons := [(Ret cfg (49 : Nat) [V.raw (Value.agg { toList := [Value.int IntKind.i64 x, Value.int IntKind.i64 y] })] (V.raw (Value.bool (M.momB x y)))), ((!M.momB x y) = false), (decide (l < (0 : Int)) = true), (true = true), (true = true)]) (by kernel_rfl) rfl rfl
    ⟨(isMomentum _ _), (by first | assumption | omega | (simp; omega) | (simp_all; done) | (simp_all; omega)), (by first | assumption | omega | (simp; omega) | (simp_all; done) | (simp_all; omega)), rfl, rfl, trivial⟩
set_option maxRecDepth 100000 in
theorem slow_ok_2 (x y l : Int) (h1 : M.momB x y = true) (f0 : ¬l < (0 : Int)) (f1 : (33554432 : Int) < l) : Ret cfg 24 [.raw (.agg #[.int .i64 x, .int .i64 y]), .raw (.int .i64 l)] (V.raw (Value.tuple { toList := [Value.agg { toList := [Value.int IntKind.i64 (0 : Int), Value.int IntKind.i64 (0 : Int)] }, Value.int IntKind.i64 (3 : Int)] })) := by
  obtain ⟨hx, hy⟩ := M.mom_facts h1
  obtain ⟨_, _, hL0, hL1⟩ := M.len_facts hx hy
  have eL : M.lenI x y = M.rootI (64 * (x * x + y * y)) := rfl
  rw [eL] at hL0 hL1
  first | have k1 := (M.slow_mul (L := M.rootI (64 * (x * x + y * y))) (l := l) hx ⟨hL0, hL1⟩ (by omega) (by omega)).1 | skip
  first | have k2 := (M.slow_mul (L := M.rootI (64 * (x * x + y * y))) (l := l) hy ⟨hL0, hL1⟩ (by omega) (by omega)).1 | skip
  first | have k3 := (M.slow_mul (L := M.rootI (64 * (x * x + y * y))) (l := l) hx ⟨hL0, hL1⟩ (by omega) (by omega)).2 | skip
  first | have k4 := (M.slow_mul (L := M.rootI (64 * (x * x + y * y))) (l := l) hy ⟨hL0, hL1⟩ (by omega) (by omega)).2 | skip
  exact fn_of cfg_mixed cfg_call cfg_base.1 cfg_base.2.1 cfg_base.2.2 (n := 40) (ans := [Ans.go, Ans.ret (V.raw (Value.bool (M.momB x y))), Ans.br false, Ans.br false, Ans.br false, Ans.br true]) (cons := [(Ret cfg (49 : Nat) [V.raw (Value.agg { toList := [Value.int IntKind.i64 x, Value.int IntKind.i64 y] })] (V.raw (Value.bool (M.momB x y)))), ((!M.momB x y) = false), (decide (l < (0 : Int)) = false), (false = false), (decide ((33554432 : Int) < l) = true)]) (by kernel_rfl) rfl rfl
    ⟨(isMomentum _ _), (by first | assumption | omega | (simp; omega) | (simp_all; done) | (simp_all; omega)), (by first | assumption | omega | (simp; omega) | (simp_all; done) | (simp_all; omega)), rfl, (by first | assumption | omega | (simp; omega) | (simp_all; done) | (simp_all; omega)), trivial⟩
set_option maxRecDepth 100000 in
theorem slow_ok_3 (x y l : Int) (h1 : M.momB x y = true) (f0 : ¬l < (0 : Int)) (f1 : ¬(33554432 : Int) < l) (f2 : M.rootI ((64 : Int) * (x * x + y * y)) - (8 : Int) * l ≤ (0 : Int)) : Ret cfg 24 [.raw (.agg #[.int .i64 x, .int .i64 y]), .raw (.int .i64 l)] (V.raw (Value.tuple { toList := [Value.agg { toList := [Value.int IntKind.i64 (0 : Int), Value.int IntKind.i64 (0 : Int)] }, Value.int IntKind.i64 (0 : Int)] })) := by
  obtain ⟨hx, hy⟩ := M.mom_facts h1
  obtain ⟨_, _, hL0, hL1⟩ := M.len_facts hx hy
  have eL : M.lenI x y = M.rootI (64 * (x * x + y * y)) := rfl
  rw [eL] at hL0 hL1
  first | have k1 := (M.slow_mul (L := M.rootI (64 * (x * x + y * y))) (l := l) hx ⟨hL0, hL1⟩ (by omega) (by omega)).1 | skip
  first | have k2 := (M.slow_mul (L := M.rootI (64 * (x * x + y * y))) (l := l) hy ⟨hL0, hL1⟩ (by omega) (by omega)).1 | skip
  first | have k3 := (M.slow_mul (L := M.rootI (64 * (x * x + y * y))) (l := l) hx ⟨hL0, hL1⟩ (by omega) (by omega)).2 | skip
  first | have k4 := (M.slow_mul (L := M.rootI (64 * (x * x + y * y))) (l := l) hy ⟨hL0, hL1⟩ (by omega) (by omega)).2 | skip
  exact fn_of cfg_mixed cfg_call cfg_base.1 cfg_base.2.1 cfg_base.2.2 (n := 40) (ans := [Ans.go, Ans.ret (V.raw (Value.bool (M.momB x y))), Ans.br false, Ans.br false, Ans.br false, Ans.br false, Ans.go, Ans.ret (V.raw (Value.tuple { toList := [Value.int IntKind.i64 (M.rootI ((64 : Int) * (x * x + y * y))), Value.int IntKind.i64 (0 : Int)] })), Ans.br true]) (cons := [(Ret cfg (49 : Nat) [V.raw (Value.agg { toList := [Value.int IntKind.i64 x, Value.int IntKind.i64 y] })] (V.raw (Value.bool (M.momB x y)))), ((!M.momB x y) = false), (decide (l < (0 : Int)) = false), (false = false), (decide ((33554432 : Int) < l) = false), (inR IntKind.i64 (x * x)), (inR IntKind.i64 (y * y)), (inR IntKind.i64 (x * x + y * y)), (inR IntKind.i64 ((64 : Int) * (x * x + y * y))), (Ret cfg (52 : Nat) [V.raw (Value.int IntKind.i64 ((64 : Int) * (x * x + y * y)))] (V.raw (Value.tuple { toList := [Value.int IntKind.i64 (M.rootI ((64 : Int) * (x * x + y * y))), Value.int IntKind.i64 (0 : Int)] }))), (inR IntKind.i64 ((8 : Int) * l)), (inR IntKind.i64 (M.rootI ((64 : Int) * (x * x + y * y)) - (8 : Int) * l)), (decide (M.rootI ((64 : Int) * (x * x + y * y)) - (8 : Int) * l ≤ (0 : Int)) = true)]) (by kernel_rfl) rfl rfl
    ⟨(isMomentum _ _), (by first | assumption | omega | (simp; omega) | (simp_all; done) | (simp_all; omega)), (by first | assumption | omega | (simp; omega) | (simp_all; done) | (simp_all; omega)), rfl, (by first | assumption | omega | (simp; omega) | (simp_all; done) | (simp_all; omega)), inR_i64 (by omega) (by omega), inR_i64 (by omega) (by omega), inR_i64 (by omega) (by omega), inR_i64 (by omega) (by omega), (turfRoot (by omega) (by omega)), inR_i64 (by omega) (by omega), inR_i64 (by omega) (by omega), (by first | assumption | omega | (simp; omega) | (simp_all; done) | (simp_all; omega)), trivial⟩
set_option maxRecDepth 100000 in
theorem slow_ok_4 (x y l : Int) (h1 : M.momB x y = true) (f0 : ¬l < (0 : Int)) (f1 : ¬(33554432 : Int) < l) (f2 : ¬M.rootI ((64 : Int) * (x * x + y * y)) - (8 : Int) * l ≤ (0 : Int)) : Ret cfg 24 [.raw (.agg #[.int .i64 x, .int .i64 y]), .raw (.int .i64 l)] (V.raw (Value.tuple { toList := [Value.agg { toList := [Value.int IntKind.i64 ((x * (M.rootI ((64 : Int) * (x * x + y * y)) - (8 : Int) * l)).tdiv (M.rootI ((64 : Int) * (x * x + y * y)))), Value.int IntKind.i64 ((y * (M.rootI ((64 : Int) * (x * x + y * y)) - (8 : Int) * l)).tdiv (M.rootI ((64 : Int) * (x * x + y * y))))] }, Value.int IntKind.i64 (0 : Int)] })) := by
  obtain ⟨hx, hy⟩ := M.mom_facts h1
  obtain ⟨_, _, hL0, hL1⟩ := M.len_facts hx hy
  have eL : M.lenI x y = M.rootI (64 * (x * x + y * y)) := rfl
  rw [eL] at hL0 hL1
  first | have k1 := (M.slow_mul (L := M.rootI (64 * (x * x + y * y))) (l := l) hx ⟨hL0, hL1⟩ (by omega) (by omega)).1 | skip
  first | have k2 := (M.slow_mul (L := M.rootI (64 * (x * x + y * y))) (l := l) hy ⟨hL0, hL1⟩ (by omega) (by omega)).1 | skip
  first | have k3 := (M.slow_mul (L := M.rootI (64 * (x * x + y * y))) (l := l) hx ⟨hL0, hL1⟩ (by omega) (by omega)).2 | skip
  first | have k4 := (M.slow_mul (L := M.rootI (64 * (x * x + y * y))) (l := l) hy ⟨hL0, hL1⟩ (by omega) (by omega)).2 | skip
  exact fn_of cfg_mixed cfg_call cfg_base.1 cfg_base.2.1 cfg_base.2.2 (n := 40) (ans := [Ans.go, Ans.ret (V.raw (Value.bool (M.momB x y))), Ans.br false, Ans.br false, Ans.br false, Ans.br false, Ans.go, Ans.ret (V.raw (Value.tuple { toList := [Value.int IntKind.i64 (M.rootI ((64 : Int) * (x * x + y * y))), Value.int IntKind.i64 (0 : Int)] })), Ans.br false, Ans.go, Ans.go, Ans.olds [], Ans.go, Ans.go, Ans.olds [], Ans.go]) (cons := [(Ret cfg (49 : Nat) [V.raw (Value.agg { toList := [Value.int IntKind.i64 x, Value.int IntKind.i64 y] })] (V.raw (Value.bool (M.momB x y)))), ((!M.momB x y) = false), (decide (l < (0 : Int)) = false), (false = false), (decide ((33554432 : Int) < l) = false), (inR IntKind.i64 (x * x)), (inR IntKind.i64 (y * y)), (inR IntKind.i64 (x * x + y * y)), (inR IntKind.i64 ((64 : Int) * (x * x + y * y))), (Ret cfg (52 : Nat) [V.raw (Value.int IntKind.i64 ((64 : Int) * (x * x + y * y)))] (V.raw (Value.tuple { toList := [Value.int IntKind.i64 (M.rootI ((64 : Int) * (x * x + y * y))), Value.int IntKind.i64 (0 : Int)] }))), (inR IntKind.i64 ((8 : Int) * l)), (inR IntKind.i64 (M.rootI ((64 : Int) * (x * x + y * y)) - (8 : Int) * l)), (decide (M.rootI ((64 : Int) * (x * x + y * y)) - (8 : Int) * l ≤ (0 : Int)) = false), (inR IntKind.i64 (x * (M.rootI ((64 : Int) * (x * x + y * y)) - (8 : Int) * l))), (M.rootI ((64 : Int) * (x * x + y * y)) ≠ (0 : Int)), (inR IntKind.i64 ((x * (M.rootI ((64 : Int) * (x * x + y * y)) - (8 : Int) * l)).tdiv (M.rootI ((64 : Int) * (x * x + y * y))))), (inR IntKind.i64 (y * (M.rootI ((64 : Int) * (x * x + y * y)) - (8 : Int) * l))), (M.rootI ((64 : Int) * (x * x + y * y)) ≠ (0 : Int)), (inR IntKind.i64 ((y * (M.rootI ((64 : Int) * (x * x + y * y)) - (8 : Int) * l)).tdiv (M.rootI ((64 : Int) * (x * x + y * y)))))]) (by kernel_rfl) rfl rfl
    ⟨(isMomentum _ _), (by first | assumption | omega | (simp; omega) | (simp_all; done) | (simp_all; omega)), (by first | assumption | omega | (simp; omega) | (simp_all; done) | (simp_all; omega)), rfl, (by first | assumption | omega | (simp; omega) | (simp_all; done) | (simp_all; omega)), inR_i64 (by omega) (by omega), inR_i64 (by omega) (by omega), inR_i64 (by omega) (by omega), inR_i64 (by omega) (by omega), (turfRoot (by omega) (by omega)), inR_i64 (by omega) (by omega), inR_i64 (by omega) (by omega), (by first | assumption | omega | (simp; omega) | (simp_all; done) | (simp_all; omega)), inR_i64 (by omega) (by omega), (by first | assumption | omega | (simp; omega) | (simp_all; done) | (simp_all; omega)), inR_i64 (by omega) (by omega), inR_i64 (by omega) (by omega), (by first | assumption | omega | (simp; omega) | (simp_all; done) | (simp_all; omega)), inR_i64 (by omega) (by omega), trivial⟩
theorem slow_ok (x y l : Int) (h1 : M.momB x y = true) : Ret cfg 24 [.raw (.agg #[.int .i64 x, .int .i64 y]), .raw (.int .i64 l)] (.raw (.tuple #[.agg #[.int .i64 (M.sel (M.SLE x y l) (M.slx x x y l)), .int .i64 (M.sel (M.SLE x y l) (M.slx y x y l))], .int .i64 (M.SLE x y l)])) := by
  obtain ⟨hx, hy⟩ := M.mom_facts h1
  obtain ⟨_, _, hL0, hL1⟩ := M.len_facts hx hy
  have eL : M.lenI x y = M.rootI (64 * (x * x + y * y)) := rfl
  rw [eL] at hL0 hL1
  first | have k1 := (M.slow_mul (L := M.rootI (64 * (x * x + y * y))) (l := l) hx ⟨hL0, hL1⟩ (by omega) (by omega)).1 | skip
  first | have k2 := (M.slow_mul (L := M.rootI (64 * (x * x + y * y))) (l := l) hy ⟨hL0, hL1⟩ (by omega) (by omega)).1 | skip
  first | have k3 := (M.slow_mul (L := M.rootI (64 * (x * x + y * y))) (l := l) hx ⟨hL0, hL1⟩ (by omega) (by omega)).2 | skip
  first | have k4 := (M.slow_mul (L := M.rootI (64 * (x * x + y * y))) (l := l) hy ⟨hL0, hL1⟩ (by omega) (by omega)).2 | skip
  by_cases f0 : l < (0 : Int)
  ·
    have e : (.raw (.tuple #[.agg #[.int .i64 (M.sel (M.SLE x y l) (M.slx x x y l)), .int .i64 (M.sel (M.SLE x y l) (M.slx y x y l))], .int .i64 (M.SLE x y l)]) : V) = V.raw (Value.tuple { toList := [Value.agg { toList := [Value.int IntKind.i64 (0 : Int), Value.int IntKind.i64 (0 : Int)] }, Value.int IntKind.i64 (3 : Int)] }) := by (simp_all [M.SLE, M.slx, M.lenI, M.sel, M.btw]; try omega)
    rw [e]
    exact slow_ok_1 x y l h1 f0
  ·
    by_cases f1 : (33554432 : Int) < l
    ·
      have e : (.raw (.tuple #[.agg #[.int .i64 (M.sel (M.SLE x y l) (M.slx x x y l)), .int .i64 (M.sel (M.SLE x y l) (M.slx y x y l))], .int .i64 (M.SLE x y l)]) : V) = V.raw (Value.tuple { toList := [Value.agg { toList := [Value.int IntKind.i64 (0 : Int), Value.int IntKind.i64 (0 : Int)] }, Value.int IntKind.i64 (3 : Int)] }) := by (simp_all [M.SLE, M.slx, M.lenI, M.sel, M.btw]; try omega)
      rw [e]
      exact slow_ok_2 x y l h1 f0 f1
    ·
      by_cases f2 : M.rootI ((64 : Int) * (x * x + y * y)) - (8 : Int) * l ≤ (0 : Int)
      ·
        have e : (.raw (.tuple #[.agg #[.int .i64 (M.sel (M.SLE x y l) (M.slx x x y l)), .int .i64 (M.sel (M.SLE x y l) (M.slx y x y l))], .int .i64 (M.SLE x y l)]) : V) = V.raw (Value.tuple { toList := [Value.agg { toList := [Value.int IntKind.i64 (0 : Int), Value.int IntKind.i64 (0 : Int)] }, Value.int IntKind.i64 (0 : Int)] }) := by (simp_all [M.SLE, M.slx, M.lenI, M.sel, M.btw]; try omega)
        rw [e]
        exact slow_ok_3 x y l h1 f0 f1 f2
      ·
        have e : (.raw (.tuple #[.agg #[.int .i64 (M.sel (M.SLE x y l) (M.slx x x y l)), .int .i64 (M.sel (M.SLE x y l) (M.slx y x y l))], .int .i64 (M.SLE x y l)]) : V) = V.raw (Value.tuple { toList := [Value.agg { toList := [Value.int IntKind.i64 ((x * (M.rootI ((64 : Int) * (x * x + y * y)) - (8 : Int) * l)).tdiv (M.rootI ((64 : Int) * (x * x + y * y)))), Value.int IntKind.i64 ((y * (M.rootI ((64 : Int) * (x * x + y * y)) - (8 : Int) * l)).tdiv (M.rootI ((64 : Int) * (x * x + y * y))))] }, Value.int IntKind.i64 (0 : Int)] }) := by (simp_all [M.SLE, M.slx, M.lenI, M.sel, M.btw]; try omega)
        rw [e]
        exact slow_ok_4 x y l h1 f0 f1 f2
set_option maxRecDepth 100000 in
theorem slow_bad (x y l : Int) (h1 : M.momB x y = false)  : Ret cfg 24 [.raw (.agg #[.int .i64 x, .int .i64 y]), .raw (.int .i64 l)] (V.raw (Value.tuple { toList := [Value.agg { toList := [Value.int IntKind.i64 (0 : Int), Value.int IntKind.i64 (0 : Int)] }, Value.int IntKind.i64 (2 : Int)] })) := by
  exact fn_of cfg_mixed cfg_call cfg_base.1 cfg_base.2.1 cfg_base.2.2 (n := 40) (ans := [Ans.go, Ans.ret (V.raw (Value.bool (M.momB x y))), Ans.br true]) (cons := [(Ret cfg (49 : Nat) [V.raw (Value.agg { toList := [Value.int IntKind.i64 x, Value.int IntKind.i64 y] })] (V.raw (Value.bool (M.momB x y)))), ((!M.momB x y) = true)]) (by kernel_rfl) rfl rfl
    ⟨(isMomentum _ _), (by first | assumption | omega | (simp; omega) | (simp_all; done) | (simp_all; omega)), trivial⟩
set_option maxRecDepth 100000 in
theorem rSlow_ok_1 (x y l : Int) (h1 : M.momB x y = true) (hl1 : 0 ≤ l) (hl2 : l ≤ 33554432) (hl : M.btw l 0 33554432 = true) (f0 : M.rootI ((64 : Int) * (x * x + y * y)) ≤ (8 : Int) * l) : Ret cfg 25 [.raw (.agg #[.int .i64 x, .int .i64 y]), .raw (.int .i64 l)] (V.raw (Value.tuple { toList := [Value.agg { toList := [Value.int IntKind.i64 (0 : Int), Value.int IntKind.i64 (0 : Int)] }, Value.int IntKind.i64 (0 : Int)] })) := by
  obtain ⟨hx, hy⟩ := M.mom_facts h1
  obtain ⟨_, _, hL0, hL1⟩ := M.len_facts hx hy
  have eL : M.lenI x y = M.rootI (64 * (x * x + y * y)) := rfl
  rw [eL] at hL0 hL1
  first | have k1 := (M.slow_mul (L := M.rootI (64 * (x * x + y * y))) (l := l) hx ⟨hL0, hL1⟩ (by omega) (by omega)).1 | skip
  first | have k2 := (M.slow_mul (L := M.rootI (64 * (x * x + y * y))) (l := l) hy ⟨hL0, hL1⟩ (by omega) (by omega)).1 | skip
  first | have k3 := (M.slow_mul (L := M.rootI (64 * (x * x + y * y))) (l := l) hx ⟨hL0, hL1⟩ (by omega) (by omega)).2 | skip
  first | have k4 := (M.slow_mul (L := M.rootI (64 * (x * x + y * y))) (l := l) hy ⟨hL0, hL1⟩ (by omega) (by omega)).2 | skip
  exact fn_of cfg_mixed cfg_call cfg_base.1 cfg_base.2.1 cfg_base.2.2 (n := 40) (ans := [Ans.go, Ans.ret (V.raw (Value.bool (M.momB x y))), Ans.br false, Ans.ret (V.raw (Value.bool (M.btw l (0 : Int) (33554432 : Int)))), Ans.br false, Ans.go, Ans.ret (V.raw (Value.int IntKind.i64 (M.rootI ((64 : Int) * (x * x + y * y))))), Ans.br true]) (cons := [(Ret cfg (51 : Nat) [V.raw (Value.agg { toList := [Value.int IntKind.i64 x, Value.int IntKind.i64 y] })] (V.raw (Value.bool (M.momB x y)))), ((!M.momB x y) = false), (Ret cfg (47 : Nat) [V.raw (Value.int IntKind.i64 l), V.raw (Value.int IntKind.i64 (0 : Int)), V.raw (Value.int IntKind.i64 (33554432 : Int))] (V.raw (Value.bool (M.btw l (0 : Int) (33554432 : Int))))), ((!M.btw l (0 : Int) (33554432 : Int)) = false), (inR IntKind.i64 (x * x)), (inR IntKind.i64 (y * y)), (inR IntKind.i64 (x * x + y * y)), (inR IntKind.i64 ((64 : Int) * (x * x + y * y))), (Ret cfg (87 : Nat) [V.raw (Value.int IntKind.i64 ((64 : Int) * (x * x + y * y)))] (V.raw (Value.int IntKind.i64 (M.rootI ((64 : Int) * (x * x + y * y)))))), (inR IntKind.i64 ((8 : Int) * l)), (decide (M.rootI ((64 : Int) * (x * x + y * y)) ≤ (8 : Int) * l) = true)]) (by kernel_rfl) rfl rfl
    ⟨(rStrong _ _), (by first | assumption | omega | (simp; omega) | (simp_all; done) | (simp_all; omega)), (within _ _ _), (by first | assumption | omega | (simp; omega) | (simp_all; done) | (simp_all; omega)), inR_i64 (by omega) (by omega), inR_i64 (by omega) (by omega), inR_i64 (by omega) (by omega), inR_i64 (by omega) (by omega), (rSqrt (by omega) (by omega)), inR_i64 (by omega) (by omega), (by first | assumption | omega | (simp; omega) | (simp_all; done) | (simp_all; omega)), trivial⟩
set_option maxRecDepth 100000 in
theorem rSlow_ok_2 (x y l : Int) (h1 : M.momB x y = true) (hl1 : 0 ≤ l) (hl2 : l ≤ 33554432) (hl : M.btw l 0 33554432 = true) (f0 : ¬M.rootI ((64 : Int) * (x * x + y * y)) ≤ (8 : Int) * l) : Ret cfg 25 [.raw (.agg #[.int .i64 x, .int .i64 y]), .raw (.int .i64 l)] (V.raw (Value.tuple { toList := [Value.agg { toList := [Value.int IntKind.i64 ((x * (M.rootI ((64 : Int) * (x * x + y * y)) - (8 : Int) * l)).tdiv (M.rootI ((64 : Int) * (x * x + y * y)))), Value.int IntKind.i64 ((y * (M.rootI ((64 : Int) * (x * x + y * y)) - (8 : Int) * l)).tdiv (M.rootI ((64 : Int) * (x * x + y * y))))] }, Value.int IntKind.i64 (0 : Int)] })) := by
  obtain ⟨hx, hy⟩ := M.mom_facts h1
  obtain ⟨_, _, hL0, hL1⟩ := M.len_facts hx hy
  have eL : M.lenI x y = M.rootI (64 * (x * x + y * y)) := rfl
  rw [eL] at hL0 hL1
  first | have k1 := (M.slow_mul (L := M.rootI (64 * (x * x + y * y))) (l := l) hx ⟨hL0, hL1⟩ (by omega) (by omega)).1 | skip
  first | have k2 := (M.slow_mul (L := M.rootI (64 * (x * x + y * y))) (l := l) hy ⟨hL0, hL1⟩ (by omega) (by omega)).1 | skip
  first | have k3 := (M.slow_mul (L := M.rootI (64 * (x * x + y * y))) (l := l) hx ⟨hL0, hL1⟩ (by omega) (by omega)).2 | skip
  first | have k4 := (M.slow_mul (L := M.rootI (64 * (x * x + y * y))) (l := l) hy ⟨hL0, hL1⟩ (by omega) (by omega)).2 | skip
  exact fn_of cfg_mixed cfg_call cfg_base.1 cfg_base.2.1 cfg_base.2.2 (n := 40) (ans := [Ans.go, Ans.ret (V.raw (Value.bool (M.momB x y))), Ans.br false, Ans.ret (V.raw (Value.bool (M.btw l (0 : Int) (33554432 : Int)))), Ans.br false, Ans.go, Ans.ret (V.raw (Value.int IntKind.i64 (M.rootI ((64 : Int) * (x * x + y * y))))), Ans.br false, Ans.olds [((19 : Nat), (3 : Nat))]]) (cons := [(Ret cfg (51 : Nat) [V.raw (Value.agg { toList := [Value.int IntKind.i64 x, Value.int IntKind.i64 y] })] (V.raw (Value.bool (M.momB x y)))), ((!M.momB x y) = false), (Ret cfg (47 : Nat) [V.raw (Value.int IntKind.i64 l), V.raw (Value.int IntKind.i64 (0 : Int)), V.raw (Value.int IntKind.i64 (33554432 : Int))] (V.raw (Value.bool (M.btw l (0 : Int) (33554432 : Int))))), ((!M.btw l (0 : Int) (33554432 : Int)) = false), (inR IntKind.i64 (x * x)), (inR IntKind.i64 (y * y)), (inR IntKind.i64 (x * x + y * y)), (inR IntKind.i64 ((64 : Int) * (x * x + y * y))), (Ret cfg (87 : Nat) [V.raw (Value.int IntKind.i64 ((64 : Int) * (x * x + y * y)))] (V.raw (Value.int IntKind.i64 (M.rootI ((64 : Int) * (x * x + y * y)))))), (inR IntKind.i64 ((8 : Int) * l)), (decide (M.rootI ((64 : Int) * (x * x + y * y)) ≤ (8 : Int) * l) = false), (inR IntKind.i64 ((8 : Int) * l)), (inR IntKind.i64 (M.rootI ((64 : Int) * (x * x + y * y)) - (8 : Int) * l)), (inR IntKind.i64 (x * (M.rootI ((64 : Int) * (x * x + y * y)) - (8 : Int) * l))), (M.rootI ((64 : Int) * (x * x + y * y)) ≠ (0 : Int)), (inR IntKind.i64 ((x * (M.rootI ((64 : Int) * (x * x + y * y)) - (8 : Int) * l)).tdiv (M.rootI ((64 : Int) * (x * x + y * y))))), (inR IntKind.i64 ((8 : Int) * l)), (inR IntKind.i64 (M.rootI ((64 : Int) * (x * x + y * y)) - (8 : Int) * l)), (inR IntKind.i64 (y * (M.rootI ((64 : Int) * (x * x + y * y)) - (8 : Int) * l))), (M.rootI ((64 : Int) * (x * x + y * y)) ≠ (0 : Int)), (inR IntKind.i64 ((y * (M.rootI ((64 : Int) * (x * x + y * y)) - (8 : Int) * l)).tdiv (M.rootI ((64 : Int) * (x * x + y * y)))))]) (by kernel_rfl) rfl rfl
    ⟨(rStrong _ _), (by first | assumption | omega | (simp; omega) | (simp_all; done) | (simp_all; omega)), (within _ _ _), (by first | assumption | omega | (simp; omega) | (simp_all; done) | (simp_all; omega)), inR_i64 (by omega) (by omega), inR_i64 (by omega) (by omega), inR_i64 (by omega) (by omega), inR_i64 (by omega) (by omega), (rSqrt (by omega) (by omega)), inR_i64 (by omega) (by omega), (by first | assumption | omega | (simp; omega) | (simp_all; done) | (simp_all; omega)), inR_i64 (by omega) (by omega), inR_i64 (by omega) (by omega), inR_i64 (by omega) (by omega), (by first | assumption | omega | (simp; omega) | (simp_all; done) | (simp_all; omega)), inR_i64 (by omega) (by omega), inR_i64 (by omega) (by omega), inR_i64 (by omega) (by omega), inR_i64 (by omega) (by omega), (by first | assumption | omega | (simp; omega) | (simp_all; done) | (simp_all; omega)), inR_i64 (by omega) (by omega), trivial⟩
theorem rSlow_ok (x y l : Int) (h1 : M.momB x y = true) (hl1 : 0 ≤ l) (hl2 : l ≤ 33554432) (hl : M.btw l 0 33554432 = true) : Ret cfg 25 [.raw (.agg #[.int .i64 x, .int .i64 y]), .raw (.int .i64 l)] (.raw (.tuple #[.agg #[.int .i64 (M.sel (M.SLE x y l) (M.slx x x y l)), .int .i64 (M.sel (M.SLE x y l) (M.slx y x y l))], .int .i64 (M.SLE x y l)])) := by
  obtain ⟨hx, hy⟩ := M.mom_facts h1
  obtain ⟨_, _, hL0, hL1⟩ := M.len_facts hx hy
  have eL : M.lenI x y = M.rootI (64 * (x * x + y * y)) := rfl
  rw [eL] at hL0 hL1
  first | have k1 := (M.slow_mul (L := M.rootI (64 * (x * x + y * y))) (l := l) hx ⟨hL0, hL1⟩ (by omega) (by omega)).1 | skip
  first | have k2 := (M.slow_mul (L := M.rootI (64 * (x * x + y * y))) (l := l) hy ⟨hL0, hL1⟩ (by omega) (by omega)).1 | skip
  first | have k3 := (M.slow_mul (L := M.rootI (64 * (x * x + y * y))) (l := l) hx ⟨hL0, hL1⟩ (by omega) (by omega)).2 | skip
  first | have k4 := (M.slow_mul (L := M.rootI (64 * (x * x + y * y))) (l := l) hy ⟨hL0, hL1⟩ (by omega) (by omega)).2 | skip
  by_cases f0 : M.rootI ((64 : Int) * (x * x + y * y)) ≤ (8 : Int) * l
  ·
    have e : (.raw (.tuple #[.agg #[.int .i64 (M.sel (M.SLE x y l) (M.slx x x y l)), .int .i64 (M.sel (M.SLE x y l) (M.slx y x y l))], .int .i64 (M.SLE x y l)]) : V) = V.raw (Value.tuple { toList := [Value.agg { toList := [Value.int IntKind.i64 (0 : Int), Value.int IntKind.i64 (0 : Int)] }, Value.int IntKind.i64 (0 : Int)] }) := by (simp_all [M.SLE, M.slx, M.lenI, M.sel, M.btw]; try omega)
    rw [e]
    exact rSlow_ok_1 x y l h1 hl1 hl2 hl f0
  ·
    have e : (.raw (.tuple #[.agg #[.int .i64 (M.sel (M.SLE x y l) (M.slx x x y l)), .int .i64 (M.sel (M.SLE x y l) (M.slx y x y l))], .int .i64 (M.SLE x y l)]) : V) = V.raw (Value.tuple { toList := [Value.agg { toList := [Value.int IntKind.i64 ((x * (M.rootI ((64 : Int) * (x * x + y * y)) - (8 : Int) * l)).tdiv (M.rootI ((64 : Int) * (x * x + y * y)))), Value.int IntKind.i64 ((y * (M.rootI ((64 : Int) * (x * x + y * y)) - (8 : Int) * l)).tdiv (M.rootI ((64 : Int) * (x * x + y * y))))] }, Value.int IntKind.i64 (0 : Int)] }) := by (simp_all [M.SLE, M.slx, M.lenI, M.sel, M.btw]; try omega)
    rw [e]
    exact rSlow_ok_2 x y l h1 hl1 hl2 hl f0
set_option maxRecDepth 100000 in
theorem rSlow_bad (x y l : Int) (h1 : M.momB x y = false)  : Ret cfg 25 [.raw (.agg #[.int .i64 x, .int .i64 y]), .raw (.int .i64 l)] (V.raw (Value.tuple { toList := [Value.agg { toList := [Value.int IntKind.i64 (0 : Int), Value.int IntKind.i64 (0 : Int)] }, Value.int IntKind.i64 (2 : Int)] })) := by
  exact fn_of cfg_mixed cfg_call cfg_base.1 cfg_base.2.1 cfg_base.2.2 (n := 40) (ans := [Ans.go, Ans.ret (V.raw (Value.bool (M.momB x y))), Ans.br true]) (cons := [(Ret cfg (51 : Nat) [V.raw (Value.agg { toList := [Value.int IntKind.i64 x, Value.int IntKind.i64 y] })] (V.raw (Value.bool (M.momB x y)))), ((!M.momB x y) = true)]) (by kernel_rfl) rfl rfl
    ⟨(rStrong _ _), (by first | assumption | omega | (simp; omega) | (simp_all; done) | (simp_all; omega)), trivial⟩
set_option maxRecDepth 100000 in
theorem rSlow_range (x y l : Int) (h1 : M.momB x y = true) (hl : M.btw l 0 33554432 = false)  : Ret cfg 25 [.raw (.agg #[.int .i64 x, .int .i64 y]), .raw (.int .i64 l)] (V.raw (Value.tuple { toList := [Value.agg { toList := [Value.int IntKind.i64 (0 : Int), Value.int IntKind.i64 (0 : Int)] }, Value.int IntKind.i64 (3 : Int)] })) := by
  exact fn_of cfg_mixed cfg_call cfg_base.1 cfg_base.2.1 cfg_base.2.2 (n := 40) (ans := [Ans.go, Ans.ret (V.raw (Value.bool (M.momB x y))), Ans.br false, Ans.ret (V.raw (Value.bool (M.btw l (0 : Int) (33554432 : Int)))), Ans.br true]) (cons := [(Ret cfg (51 : Nat) [V.raw (Value.agg { toList := [Value.int IntKind.i64 x, Value.int IntKind.i64 y] })] (V.raw (Value.bool (M.momB x y)))), ((!M.momB x y) = false), (Ret cfg (47 : Nat) [V.raw (Value.int IntKind.i64 l), V.raw (Value.int IntKind.i64 (0 : Int)), V.raw (Value.int IntKind.i64 (33554432 : Int))] (V.raw (Value.bool (M.btw l (0 : Int) (33554432 : Int))))), ((!M.btw l (0 : Int) (33554432 : Int)) = true)]) (by kernel_rfl) rfl rfl
    ⟨(rStrong _ _), (by first | assumption | omega | (simp; omega) | (simp_all; done) | (simp_all; omega)), (within _ _ _), (by first | assumption | omega | (simp; omega) | (simp_all; done) | (simp_all; omega)), trivial⟩
theorem M.SLE_bad {x y l : Int} (h : M.momB x y = false) : M.SLE x y l = 2 := by unfold M.SLE; rw [h]; rfl
theorem M.SLE_range {x y l : Int} (h : M.momB x y = true) (hl : M.btw l 0 33554432 = false) : M.SLE x y l = 3 := by unfold M.SLE; rw [h, hl]; rfl
theorem slowAny (x y l : Int) : Ret cfg 24 [.raw (.agg #[.int .i64 x, .int .i64 y]), .raw (.int .i64 l)] (.raw (.tuple #[.agg #[.int .i64 (M.sel (M.SLE x y l) (M.slx x x y l)), .int .i64 (M.sel (M.SLE x y l) (M.slx y x y l))], .int .i64 (M.SLE x y l)])) := by
  cases k : M.momB x y with
  | false => rw [M.SLE_bad k]; exact slow_bad x y l k
  | true => exact slow_ok x y l k
theorem rSlow (x y l : Int) : Ret cfg 25 [.raw (.agg #[.int .i64 x, .int .i64 y]), .raw (.int .i64 l)] (.raw (.tuple #[.agg #[.int .i64 (M.sel (M.SLE x y l) (M.slx x x y l)), .int .i64 (M.sel (M.SLE x y l) (M.slx y x y l))], .int .i64 (M.SLE x y l)])) := by
  cases k : M.momB x y with
  | false => rw [M.SLE_bad k]; exact rSlow_bad x y l k
  | true =>
    cases kl : M.btw l 0 33554432 with
    | false => rw [M.SLE_range k kl]; exact rSlow_range x y l k kl
    | true => exact rSlow_ok x y l k (M.btw_iff.1 kl).1 (M.btw_iff.1 kl).2 kl

end Go.Proofs.Ytlgabdamgalngaa
