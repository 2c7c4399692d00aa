/-
  Layer 3: the checks, both sides.
-/
import Derived.Test.YtlgabdamgalngaaCtA
set_option linter.unusedVariables false
set_option linter.unusedSimpArgs false
namespace Go.Proofs.Ytlgabdamgalngaa
open Go Go.RowKit Go.Proofs.Ytlgabdamgalngaa.E
set_option maxRecDepth 100000 in
theorem checkBall_1 (m r : Int) (f0 : M.btw m (400 : Int) (500 : Int) = false) : Ret cfg 16 [.raw (.agg #[.int .i64 m, .int .i64 r])] (V.raw (Value.int IntKind.i64 (2 : Int))) := by
  exact fn_of cfg_mixed cfg_call cfg_base.1 cfg_base.2.1 cfg_base.2.2 (n := 40) (ans := [Ans.go, Ans.ret (V.raw (Value.bool (M.btw m (400 : Int) (500 : Int)))), Ans.br true, Ans.br true, Ans.br true]) (cons := [(Ret cfg (46 : Nat) [V.raw (Value.int IntKind.i64 m), V.raw (Value.int IntKind.i64 (400 : Int)), V.raw (Value.int IntKind.i64 (500 : Int))] (V.raw (Value.bool (M.btw m (400 : Int) (500 : Int))))), ((!M.btw m (400 : Int) (500 : Int)) = true), (true = true), (true = true)]) (by kernel_rfl) rfl rfl
    ⟨(between _ _ _), (by first | assumption | omega | (simp; omega) | (simp_all; done) | (simp_all; omega)), rfl, rfl, trivial⟩
set_option maxRecDepth 100000 in
theorem checkBall_2 (m r : Int) (f0 : M.btw m (400 : Int) (500 : Int) = true) (f1 : M.btw r (1000 : Int) (4096 : Int) = false) : Ret cfg 16 [.raw (.agg #[.int .i64 m, .int .i64 r])] (V.raw (Value.int IntKind.i64 (2 : Int))) := by
  exact fn_of cfg_mixed cfg_call cfg_base.1 cfg_base.2.1 cfg_base.2.2 (n := 40) (ans := [Ans.go, Ans.ret (V.raw (Value.bool (M.btw m (400 : Int) (500 : Int)))), Ans.br false, Ans.ret (V.raw (Value.bool (M.btw r (1000 : Int) (4096 : Int)))), Ans.br false, Ans.br true]) (cons := [(Ret cfg (46 : Nat) [V.raw (Value.int IntKind.i64 m), V.raw (Value.int IntKind.i64 (400 : Int)), V.raw (Value.int IntKind.i64 (500 : Int))] (V.raw (Value.bool (M.btw m (400 : Int) (500 : Int))))), ((!M.btw m (400 : Int) (500 : Int)) = false), (Ret cfg (46 : Nat) [V.raw (Value.int IntKind.i64 r), V.raw (Value.int IntKind.i64 (1000 : Int)), V.raw (Value.int IntKind.i64 (4096 : Int))] (V.raw (Value.bool (M.btw r (1000 : Int) (4096 : Int))))), (false = false), ((!M.btw r (1000 : Int) (4096 : Int)) = true)]) (by kernel_rfl) rfl rfl
    ⟨(between _ _ _), (by first | assumption | omega | (simp; omega) | (simp_all; done) | (simp_all; omega)), (between _ _ _), rfl, (by first | assumption | omega | (simp; omega) | (simp_all; done) | (simp_all; omega)), trivial⟩
set_option maxRecDepth 100000 in
theorem checkBall_3 (m r : Int) (f0 : M.btw m (400 : Int) (500 : Int) = true) (f1 : M.btw r (1000 : Int) (4096 : Int) = true) : Ret cfg 16 [.raw (.agg #[.int .i64 m, .int .i64 r])] (V.raw (Value.int IntKind.i64 (0 : Int))) := by
  exact fn_of cfg_mixed cfg_call cfg_base.1 cfg_base.2.1 cfg_base.2.2 (n := 40) (ans := [Ans.go, Ans.ret (V.raw (Value.bool (M.btw m (400 : Int) (500 : Int)))), Ans.br false, Ans.ret (V.raw (Value.bool (M.btw r (1000 : Int) (4096 : Int)))), Ans.br false, Ans.br false]) (cons := [(Ret cfg (46 : Nat) [V.raw (Value.int IntKind.i64 m), V.raw (Value.int IntKind.i64 (400 : Int)), V.raw (Value.int IntKind.i64 (500 : Int))] (V.raw (Value.bool (M.btw m (400 : Int) (500 : Int))))), ((!M.btw m (400 : Int) (500 : Int)) = false), (Ret cfg (46 : Nat) [V.raw (Value.int IntKind.i64 r), V.raw (Value.int IntKind.i64 (1000 : Int)), V.raw (Value.int IntKind.i64 (4096 : Int))] (V.raw (Value.bool (M.btw r (1000 : Int) (4096 : Int))))), (false = false), ((!M.btw r (1000 : Int) (4096 : Int)) = false)]) (by kernel_rfl) rfl rfl
    ⟨(between _ _ _), (by first | assumption | omega | (simp; omega) | (simp_all; done) | (simp_all; omega)), (between _ _ _), rfl, (by first | assumption | omega | (simp; omega) | (simp_all; done) | (simp_all; omega)), trivial⟩
theorem checkBall (m r : Int) : Ret cfg 16 [.raw (.agg #[.int .i64 m, .int .i64 r])] (.raw (.int .i64 (M.err (M.ballB m r)))) := by
  by_cases f0 : M.btw m (400 : Int) (500 : Int) = false
  ·
    have e : (.raw (.int .i64 (M.err (M.ballB m r))) : V) = V.raw (Value.int IntKind.i64 (2 : Int)) := by (simp_all [M.ballB])
    rw [e]
    exact checkBall_1 m r f0
  ·
    replace f0 : M.btw m (400 : Int) (500 : Int) = true := by simpa using f0
    by_cases f1 : M.btw r (1000 : Int) (4096 : Int) = false
    ·
      have e : (.raw (.int .i64 (M.err (M.ballB m r))) : V) = V.raw (Value.int IntKind.i64 (2 : Int)) := by (simp_all [M.ballB])
      rw [e]
      exact checkBall_2 m r f0 f1
    ·
      replace f1 : M.btw r (1000 : Int) (4096 : Int) = true := by simpa using f1
      have e : (.raw (.int .i64 (M.err (M.ballB m r))) : V) = V.raw (Value.int IntKind.i64 (0 : Int)) := by (simp_all [M.ballB])
      rw [e]
      exact checkBall_3 m r f0 f1
set_option maxRecDepth 100000 in
theorem rCheckBall_1 (m r : Int) (f0 : M.btw m (400 : Int) (500 : Int) = false) : Ret cfg 17 [.raw (.agg #[.int .i64 m, .int .i64 r])] (V.raw (Value.int IntKind.i64 (2 : Int))) := by
  exact fn_of cfg_mixed cfg_call cfg_base.1 cfg_base.2.1 cfg_base.2.2 (n := 40) (ans := [Ans.go, Ans.ret (V.raw (Value.bool (M.btw m (400 : Int) (500 : Int)))), Ans.br true, Ans.br true, Ans.br true]) (cons := [(Ret cfg (47 : Nat) [V.raw (Value.int IntKind.i64 m), V.raw (Value.int IntKind.i64 (400 : Int)), V.raw (Value.int IntKind.i64 (500 : Int))] (V.raw (Value.bool (M.btw m (400 : Int) (500 : Int))))), ((!M.btw m (400 : Int) (500 : Int)) = true), (true = true), (true = true)]) (by kernel_rfl) rfl rfl
    ⟨(within _ _ _), (by first | assumption | omega | (simp; omega) | (simp_all; done) | (simp_all; omega)), rfl, rfl, trivial⟩
set_option maxRecDepth 100000 in
theorem rCheckBall_2 (m r : Int) (f0 : M.btw m (400 : Int) (500 : Int) = true) (f1 : M.btw r (1000 : Int) (4096 : Int) = false) : Ret cfg 17 [.raw (.agg #[.int .i64 m, .int .i64 r])] (V.raw (Value.int IntKind.i64 (2 : Int))) := by
  exact fn_of cfg_mixed cfg_call cfg_base.1 cfg_base.2.1 cfg_base.2.2 (n := 40) (ans := [Ans.go, Ans.ret (V.raw (Value.bool (M.btw m (400 : Int) (500 : Int)))), Ans.br false, Ans.ret (V.raw (Value.bool (M.btw r (1000 : Int) (4096 : Int)))), Ans.br false, Ans.br true]) (cons := [(Ret cfg (47 : Nat) [V.raw (Value.int IntKind.i64 m), V.raw (Value.int IntKind.i64 (400 : Int)), V.raw (Value.int IntKind.i64 (500 : Int))] (V.raw (Value.bool (M.btw m (400 : Int) (500 : Int))))), ((!M.btw m (400 : Int) (500 : Int)) = false), (Ret cfg (47 : Nat) [V.raw (Value.int IntKind.i64 r), V.raw (Value.int IntKind.i64 (1000 : Int)), V.raw (Value.int IntKind.i64 (4096 : Int))] (V.raw (Value.bool (M.btw r (1000 : Int) (4096 : Int))))), (false = false), ((!M.btw r (1000 : Int) (4096 : Int)) = true)]) (by kernel_rfl) rfl rfl
    ⟨(within _ _ _), (by first | assumption | omega | (simp; omega) | (simp_all; done) | (simp_all; omega)), (within _ _ _), rfl, (by first | assumption | omega | (simp; omega) | (simp_all; done) | (simp_all; omega)), trivial⟩
set_option maxRecDepth 100000 in
theorem rCheckBall_3 (m r : Int) (f0 : M.btw m (400 : Int) (500 : Int) = true) (f1 : M.btw r (1000 : Int) (4096 : Int) = true) : Ret cfg 17 [.raw (.agg #[.int .i64 m, .int .i64 r])] (V.raw (Value.int IntKind.i64 (0 : Int))) := by
  exact fn_of cfg_mixed cfg_call cfg_base.1 cfg_base.2.1 cfg_base.2.2 (n := 40) (ans := [Ans.go, Ans.ret (V.raw (Value.bool (M.btw m (400 : Int) (500 : Int)))), Ans.br false, Ans.ret (V.raw (Value.bool (M.btw r (1000 : Int) (4096 : Int)))), Ans.br false, Ans.br false]) (cons := [(Ret cfg (47 : Nat) [V.raw (Value.int IntKind.i64 m), V.raw (Value.int IntKind.i64 (400 : Int)), V.raw (Value.int IntKind.i64 (500 : Int))] (V.raw (Value.bool (M.btw m (400 : Int) (500 : Int))))), ((!M.btw m (400 : Int) (500 : Int)) = false), (Ret cfg (47 : Nat) [V.raw (Value.int IntKind.i64 r), V.raw (Value.int IntKind.i64 (1000 : Int)), V.raw (Value.int IntKind.i64 (4096 : Int))] (V.raw (Value.bool (M.btw r (1000 : Int) (4096 : Int))))), (false = false), ((!M.btw r (1000 : Int) (4096 : Int)) = false)]) (by kernel_rfl) rfl rfl
    ⟨(within _ _ _), (by first | assumption | omega | (simp; omega) | (simp_all; done) | (simp_all; omega)), (within _ _ _), rfl, (by first | assumption | omega | (simp; omega) | (simp_all; done) | (simp_all; omega)), trivial⟩
theorem rCheckBall (m r : Int) : Ret cfg 17 [.raw (.agg #[.int .i64 m, .int .i64 r])] (.raw (.int .i64 (M.err (M.ballB m r)))) := by
  by_cases f0 : M.btw m (400 : Int) (500 : Int) = false
  ·
    have e : (.raw (.int .i64 (M.err (M.ballB m r))) : V) = V.raw (Value.int IntKind.i64 (2 : Int)) := by (simp_all [M.ballB])
    rw [e]
    exact rCheckBall_1 m r f0
  ·
    replace f0 : M.btw m (400 : Int) (500 : Int) = true := by simpa using f0
    by_cases f1 : M.btw r (1000 : Int) (4096 : Int) = false
    ·
      have e : (.raw (.int .i64 (M.err (M.ballB m r))) : V) = V.raw (Value.int IntKind.i64 (2 : Int)) := by (simp_all [M.ballB])
      rw [e]
      exact rCheckBall_2 m r f0 f1
    ·
      replace f1 : M.btw r (1000 : Int) (4096 : Int) = true := by simpa using f1
      have e : (.raw (.int .i64 (M.err (M.ballB m r))) : V) = V.raw (Value.int IntKind.i64 (0 : Int)) := by (simp_all [M.ballB])
      rw [e]
      exact rCheckBall_3 m r f0 f1
set_option maxRecDepth 100000 in
theorem rValid_1 (m r : Int) (f0 : M.btw m (-4194304 : Int) (4194304 : Int) = true) : Ret cfg 45 [.raw (.agg #[.int .i64 m, .int .i64 r])] (V.raw (Value.bool (M.btw r (-4194304 : Int) (4194304 : Int)))) := by
  exact fn_of cfg_mixed cfg_call cfg_base.1 cfg_base.2.1 cfg_base.2.2 (n := 40) (ans := [Ans.go, Ans.ret (V.raw (Value.bool (M.btw m (-4194304 : Int) (4194304 : Int)))), Ans.br true, Ans.ret (V.raw (Value.bool (M.btw r (-4194304 : Int) (4194304 : Int)))), Ans.br true]) (cons := [(Ret cfg (82 : Nat) [V.raw (Value.int IntKind.i64 m), V.raw (Value.int IntKind.i64 (-4194304 : Int)), V.raw (Value.int IntKind.i64 (4194304 : Int))] (V.raw (Value.bool (M.btw m (-4194304 : Int) (4194304 : Int))))), (M.btw m (-4194304 : Int) (4194304 : Int) = true), (Ret cfg (82 : Nat) [V.raw (Value.int IntKind.i64 r), V.raw (Value.int IntKind.i64 (-4194304 : Int)), V.raw (Value.int IntKind.i64 (4194304 : Int))] (V.raw (Value.bool (M.btw r (-4194304 : Int) (4194304 : Int))))), (true = true)]) (by kernel_rfl) rfl rfl
    ⟨(among _ _ _), (by first | assumption | omega | (simp; omega) | (simp_all; done) | (simp_all; omega)), (among _ _ _), rfl, trivial⟩
set_option maxRecDepth 100000 in
theorem rValid_2 (m r : Int) (f0 : M.btw m (-4194304 : Int) (4194304 : Int) = false) : Ret cfg 45 [.raw (.agg #[.int .i64 m, .int .i64 r])] (V.raw (Value.bool false)) := by
  exact fn_of cfg_mixed cfg_call cfg_base.1 cfg_base.2.1 cfg_base.2.2 (n := 40) (ans := [Ans.go, Ans.ret (V.raw (Value.bool (M.btw m (-4194304 : Int) (4194304 : Int)))), Ans.br false, Ans.br false]) (cons := [(Ret cfg (82 : Nat) [V.raw (Value.int IntKind.i64 m), V.raw (Value.int IntKind.i64 (-4194304 : Int)), V.raw (Value.int IntKind.i64 (4194304 : Int))] (V.raw (Value.bool (M.btw m (-4194304 : Int) (4194304 : Int))))), (M.btw m (-4194304 : Int) (4194304 : Int) = false), (false = false)]) (by kernel_rfl) rfl rfl
    ⟨(among _ _ _), (by first | assumption | omega | (simp; omega) | (simp_all; done) | (simp_all; omega)), rfl, trivial⟩
theorem rValid (m r : Int) : Ret cfg 45 [.raw (.agg #[.int .i64 m, .int .i64 r])] (.raw (.bool (M.placeB m r))) := by
  by_cases f0 : M.btw m (-4194304 : Int) (4194304 : Int) = true
  ·
    have e : (.raw (.bool (M.placeB m r)) : V) = V.raw (Value.bool (M.btw r (-4194304 : Int) (4194304 : Int))) := by (simp_all [M.placeB])
    rw [e]
    exact rValid_1 m r f0
  ·
    replace f0 : M.btw m (-4194304 : Int) (4194304 : Int) = false := by simpa using f0
    have e : (.raw (.bool (M.placeB m r)) : V) = V.raw (Value.bool false) := by (simp_all [M.placeB])
    rw [e]
    exact rValid_2 m r f0
set_option maxRecDepth 100000 in
theorem rCheckDisc_1 (x y r : Int) (f0 : M.placeB x y = false) : Ret cfg 69 [.raw (.agg #[.int .i64 x, .int .i64 y, .int .i64 r])] (V.raw (Value.int IntKind.i64 (2 : Int))) := by
  exact fn_of cfg_mixed cfg_call cfg_base.1 cfg_base.2.1 cfg_base.2.2 (n := 40) (ans := [Ans.go, Ans.ret (V.raw (Value.bool (M.placeB x y))), Ans.br true, Ans.br true, Ans.br true]) (cons := [(Ret cfg (45 : Nat) [V.raw (Value.agg { toList := [Value.int IntKind.i64 x, Value.int IntKind.i64 y] })] (V.raw (Value.bool (M.placeB x y)))), ((!M.placeB x y) = true), (true = true), (true = true)]) (by kernel_rfl) rfl rfl
    ⟨(rValid _ _), (by first | assumption | omega | (simp; omega) | (simp_all; done) | (simp_all; omega)), rfl, rfl, trivial⟩
set_option maxRecDepth 100000 in
theorem rCheckDisc_2 (x y r : Int) (f0 : M.placeB x y = true) (f1 : M.btw r (1 : Int) (65536 : Int) = false) : Ret cfg 69 [.raw (.agg #[.int .i64 x, .int .i64 y, .int .i64 r])] (V.raw (Value.int IntKind.i64 (2 : Int))) := by
  exact fn_of cfg_mixed cfg_call cfg_base.1 cfg_base.2.1 cfg_base.2.2 (n := 40) (ans := [Ans.go, Ans.ret (V.raw (Value.bool (M.placeB x y))), Ans.br false, Ans.ret (V.raw (Value.bool (M.btw r (1 : Int) (65536 : Int)))), Ans.br false, Ans.br true]) (cons := [(Ret cfg (45 : Nat) [V.raw (Value.agg { toList := [Value.int IntKind.i64 x, Value.int IntKind.i64 y] })] (V.raw (Value.bool (M.placeB x y)))), ((!M.placeB x y) = false), (Ret cfg (82 : Nat) [V.raw (Value.int IntKind.i64 r), V.raw (Value.int IntKind.i64 (1 : Int)), V.raw (Value.int IntKind.i64 (65536 : Int))] (V.raw (Value.bool (M.btw r (1 : Int) (65536 : Int))))), (false = false), ((!M.btw r (1 : Int) (65536 : Int)) = true)]) (by kernel_rfl) rfl rfl
    ⟨(rValid _ _), (by first | assumption | omega | (simp; omega) | (simp_all; done) | (simp_all; omega)), (among _ _ _), rfl, (by first | assumption | omega | (simp; omega) | (simp_all; done) | (simp_all; omega)), trivial⟩
set_option maxRecDepth 100000 in
theorem rCheckDisc_3 (x y r : Int) (f0 : M.placeB x y = true) (f1 : M.btw r (1 : Int) (65536 : Int) = true) : Ret cfg 69 [.raw (.agg #[.int .i64 x, .int .i64 y, .int .i64 r])] (V.raw (Value.int IntKind.i64 (0 : Int))) := by
  exact fn_of cfg_mixed cfg_call cfg_base.1 cfg_base.2.1 cfg_base.2.2 (n := 40) (ans := [Ans.go, Ans.ret (V.raw (Value.bool (M.placeB x y))), Ans.br false, Ans.ret (V.raw (Value.bool (M.btw r (1 : Int) (65536 : Int)))), Ans.br false, Ans.br false]) (cons := [(Ret cfg (45 : Nat) [V.raw (Value.agg { toList := [Value.int IntKind.i64 x, Value.int IntKind.i64 y] })] (V.raw (Value.bool (M.placeB x y)))), ((!M.placeB x y) = false), (Ret cfg (82 : Nat) [V.raw (Value.int IntKind.i64 r), V.raw (Value.int IntKind.i64 (1 : Int)), V.raw (Value.int IntKind.i64 (65536 : Int))] (V.raw (Value.bool (M.btw r (1 : Int) (65536 : Int))))), (false = false), ((!M.btw r (1 : Int) (65536 : Int)) = false)]) (by kernel_rfl) rfl rfl
    ⟨(rValid _ _), (by first | assumption | omega | (simp; omega) | (simp_all; done) | (simp_all; omega)), (among _ _ _), rfl, (by first | assumption | omega | (simp; omega) | (simp_all; done) | (simp_all; omega)), trivial⟩
theorem rCheckDisc (x y r : Int) : Ret cfg 69 [.raw (.agg #[.int .i64 x, .int .i64 y, .int .i64 r])] (.raw (.int .i64 (M.err (M.discB x y r)))) := by
  by_cases f0 : M.placeB x y = false
  ·
    have e : (.raw (.int .i64 (M.err (M.discB x y r))) : V) = V.raw (Value.int IntKind.i64 (2 : Int)) := by (simp_all [M.discB])
    rw [e]
    exact rCheckDisc_1 x y r f0
  ·
    replace f0 : M.placeB x y = true := by simpa using f0
    by_cases f1 : M.btw r (1 : Int) (65536 : Int) = false
    ·
      have e : (.raw (.int .i64 (M.err (M.discB x y r))) : V) = V.raw (Value.int IntKind.i64 (2 : Int)) := by (simp_all [M.discB])
      rw [e]
      exact rCheckDisc_2 x y r f0 f1
    ·
      replace f1 : M.btw r (1 : Int) (65536 : Int) = true := by simpa using f1
      have e : (.raw (.int .i64 (M.err (M.discB x y r))) : V) = V.raw (Value.int IntKind.i64 (0 : Int)) := by (simp_all [M.discB])
      rw [e]
      exact rCheckDisc_3 x y r f0 f1
set_option maxRecDepth 100000 in
theorem isMomentum_1 (m r : Int) (f0 : M.btw m (-16777216 : Int) (16777216 : Int) = true) : Ret cfg 49 [.raw (.agg #[.int .i64 m, .int .i64 r])] (V.raw (Value.bool (M.btw r (-16777216 : Int) (16777216 : Int)))) := by
  exact fn_of cfg_mixed cfg_call cfg_base.1 cfg_base.2.1 cfg_base.2.2 (n := 40) (ans := [Ans.go, Ans.ret (V.raw (Value.bool (M.btw m (-16777216 : Int) (16777216 : Int)))), Ans.br true, Ans.ret (V.raw (Value.bool (M.btw r (-16777216 : Int) (16777216 : Int)))), Ans.br true]) (cons := [(Ret cfg (46 : Nat) [V.raw (Value.int IntKind.i64 m), V.raw (Value.int IntKind.i64 (-16777216 : Int)), V.raw (Value.int IntKind.i64 (16777216 : Int))] (V.raw (Value.bool (M.btw m (-16777216 : Int) (16777216 : Int))))), (M.btw m (-16777216 : Int) (16777216 : Int) = true), (Ret cfg (46 : Nat) [V.raw (Value.int IntKind.i64 r), V.raw (Value.int IntKind.i64 (-16777216 : Int)), V.raw (Value.int IntKind.i64 (16777216 : Int))] (V.raw (Value.bool (M.btw r (-16777216 : Int) (16777216 : Int))))), (true = true)]) (by kernel_rfl) rfl rfl
    ⟨(between _ _ _), (by first | assumption | omega | (simp; omega) | (simp_all; done) | (simp_all; omega)), (between _ _ _), rfl, trivial⟩
set_option maxRecDepth 100000 in
theorem isMomentum_2 (m r : Int) (f0 : M.btw m (-16777216 : Int) (16777216 : Int) = false) : Ret cfg 49 [.raw (.agg #[.int .i64 m, .int .i64 r])] (V.raw (Value.bool false)) := by
  exact fn_of cfg_mixed cfg_call cfg_base.1 cfg_base.2.1 cfg_base.2.2 (n := 40) (ans := [Ans.go, Ans.ret (V.raw (Value.bool (M.btw m (-16777216 : Int) (16777216 : Int)))), Ans.br false, Ans.br false]) (cons := [(Ret cfg (46 : Nat) [V.raw (Value.int IntKind.i64 m), V.raw (Value.int IntKind.i64 (-16777216 : Int)), V.raw (Value.int IntKind.i64 (16777216 : Int))] (V.raw (Value.bool (M.btw m (-16777216 : Int) (16777216 : Int))))), (M.btw m (-16777216 : Int) (16777216 : Int) = false), (false = false)]) (by kernel_rfl) rfl rfl
    ⟨(between _ _ _), (by first | assumption | omega | (simp; omega) | (simp_all; done) | (simp_all; omega)), rfl, trivial⟩
theorem isMomentum (m r : Int) : Ret cfg 49 [.raw (.agg #[.int .i64 m, .int .i64 r])] (.raw (.bool (M.momB m r))) := by
  by_cases f0 : M.btw m (-16777216 : Int) (16777216 : Int) = true
  ·
    have e : (.raw (.bool (M.momB m r)) : V) = V.raw (Value.bool (M.btw r (-16777216 : Int) (16777216 : Int))) := by (simp_all [M.momB])
    rw [e]
    exact isMomentum_1 m r f0
  ·
    replace f0 : M.btw m (-16777216 : Int) (16777216 : Int) = false := by simpa using f0
    have e : (.raw (.bool (M.momB m r)) : V) = V.raw (Value.bool false) := by (simp_all [M.momB])
    rw [e]
    exact isMomentum_2 m r f0
set_option maxRecDepth 100000 in
theorem rStrong_1 (m r : Int) (f0 : M.btw m (-16777216 : Int) (16777216 : Int) = true) : Ret cfg 51 [.raw (.agg #[.int .i64 m, .int .i64 r])] (V.raw (Value.bool (M.btw r (-16777216 : Int) (16777216 : Int)))) := by
  exact fn_of cfg_mixed cfg_call cfg_base.1 cfg_base.2.1 cfg_base.2.2 (n := 40) (ans := [Ans.go, Ans.ret (V.raw (Value.bool (M.btw m (-16777216 : Int) (16777216 : Int)))), Ans.br true, Ans.ret (V.raw (Value.bool (M.btw r (-16777216 : Int) (16777216 : Int)))), Ans.br true]) (cons := [(Ret cfg (47 : Nat) [V.raw (Value.int IntKind.i64 m), V.raw (Value.int IntKind.i64 (-16777216 : Int)), V.raw (Value.int IntKind.i64 (16777216 : Int))] (V.raw (Value.bool (M.btw m (-16777216 : Int) (16777216 : Int))))), (M.btw m (-16777216 : Int) (16777216 : Int) = true), (Ret cfg (47 : Nat) [V.raw (Value.int IntKind.i64 r), V.raw (Value.int IntKind.i64 (-16777216 : Int)), V.raw (Value.int IntKind.i64 (16777216 : Int))] (V.raw (Value.bool (M.btw r (-16777216 : Int) (16777216 : Int))))), (true = true)]) (by kernel_rfl) rfl rfl
    ⟨(within _ _ _), (by first | assumption | omega | (simp; omega) | (simp_all; done) | (simp_all; omega)), (within _ _ _), rfl, trivial⟩
set_option maxRecDepth 100000 in
theorem rStrong_2 (m r : Int) (f0 : M.btw m (-16777216 : Int) (16777216 : Int) = false) : Ret cfg 51 [.raw (.agg #[.int .i64 m, .int .i64 r])] (V.raw (Value.bool false)) := by
  exact fn_of cfg_mixed cfg_call cfg_base.1 cfg_base.2.1 cfg_base.2.2 (n := 40) (ans := [Ans.go, Ans.ret (V.raw (Value.bool (M.btw m (-16777216 : Int) (16777216 : Int)))), Ans.br false, Ans.br false]) (cons := [(Ret cfg (47 : Nat) [V.raw (Value.int IntKind.i64 m), V.raw (Value.int IntKind.i64 (-16777216 : Int)), V.raw (Value.int IntKind.i64 (16777216 : Int))] (V.raw (Value.bool (M.btw m (-16777216 : Int) (16777216 : Int))))), (M.btw m (-16777216 : Int) (16777216 : Int) = false), (false = false)]) (by kernel_rfl) rfl rfl
    ⟨(within _ _ _), (by first | assumption | omega | (simp; omega) | (simp_all; done) | (simp_all; omega)), rfl, trivial⟩
theorem rStrong (m r : Int) : Ret cfg 51 [.raw (.agg #[.int .i64 m, .int .i64 r])] (.raw (.bool (M.momB m r))) := by
  by_cases f0 : M.btw m (-16777216 : Int) (16777216 : Int) = true
  ·
    have e : (.raw (.bool (M.momB m r)) : V) = V.raw (Value.bool (M.btw r (-16777216 : Int) (16777216 : Int))) := by (simp_all [M.momB])
    rw [e]
    exact rStrong_1 m r f0
  ·
    replace f0 : M.btw m (-16777216 : Int) (16777216 : Int) = false := by simpa using f0
    have e : (.raw (.bool (M.momB m r)) : V) = V.raw (Value.bool false) := by (simp_all [M.momB])
    rw [e]
    exact rStrong_2 m r f0
set_option maxRecDepth 100000 in
theorem isRest_1 (x y m : Int) (h1 : 400 ≤ m) (h2 : m ≤ 500) (f0 : M.btw x (-((64 : Int) * m).tdiv (2 : Int)) (((64 : Int) * m).tdiv (2 : Int) - (1 : Int)) = true) : Ret cfg 50 [.raw (.agg #[.int .i64 x, .int .i64 y]), .raw (.int .i64 m)] (V.raw (Value.bool (M.btw y (-((64 : Int) * m).tdiv (2 : Int)) (((64 : Int) * m).tdiv (2 : Int) - (1 : Int))))) := by
  have e : (64 * m).tdiv 2 = 32 * m := by rw [Int.tdiv_eq_ediv_of_nonneg (by omega)]; omega
  exact fn_of cfg_mixed cfg_call cfg_base.1 cfg_base.2.1 cfg_base.2.2 (n := 40) (ans := [Ans.go, Ans.go, Ans.ret (V.raw (Value.bool (M.btw x (-((64 : Int) * m).tdiv (2 : Int)) (((64 : Int) * m).tdiv (2 : Int) - (1 : Int))))), Ans.br true, Ans.ret (V.raw (Value.bool (M.btw y (-((64 : Int) * m).tdiv (2 : Int)) (((64 : Int) * m).tdiv (2 : Int) - (1 : Int))))), Ans.br true]) (cons := [(inR IntKind.i64 ((64 : Int) * m)), ((2 : Int) ≠ (0 : Int)), (inR IntKind.i64 (((64 : Int) * m).tdiv (2 : Int))), (inR IntKind.i64 (-((64 : Int) * m).tdiv (2 : Int))), (inR IntKind.i64 (((64 : Int) * m).tdiv (2 : Int) - (1 : Int))), (Ret cfg (46 : Nat) [V.raw (Value.int IntKind.i64 x), V.raw (Value.int IntKind.i64 (-((64 : Int) * m).tdiv (2 : Int))), V.raw (Value.int IntKind.i64 (((64 : Int) * m).tdiv (2 : Int) - (1 : Int)))] (V.raw (Value.bool (M.btw x (-((64 : Int) * m).tdiv (2 : Int)) (((64 : Int) * m).tdiv (2 : Int) - (1 : Int)))))), (M.btw x (-((64 : Int) * m).tdiv (2 : Int)) (((64 : Int) * m).tdiv (2 : Int) - (1 : Int)) = true), (inR IntKind.i64 (-((64 : Int) * m).tdiv (2 : Int))), (inR IntKind.i64 (((64 : Int) * m).tdiv (2 : Int) - (1 : Int))), (Ret cfg (46 : Nat) [V.raw (Value.int IntKind.i64 y), V.raw (Value.int IntKind.i64 (-((64 : Int) * m).tdiv (2 : Int))), V.raw (Value.int IntKind.i64 (((64 : Int) * m).tdiv (2 : Int) - (1 : Int)))] (V.raw (Value.bool (M.btw y (-((64 : Int) * m).tdiv (2 : Int)) (((64 : Int) * m).tdiv (2 : Int) - (1 : Int)))))), (true = true)]) (by kernel_rfl) rfl rfl
    ⟨inR_i64 (by omega) (by omega), (by first | assumption | omega | (simp; omega) | (simp_all; done) | (simp_all; omega)), inR_i64 (by omega) (by omega), inR_i64 (by omega) (by omega), inR_i64 (by omega) (by omega), (between _ _ _), (by first | assumption | omega | (simp; omega) | (simp_all; done) | (simp_all; omega)), inR_i64 (by omega) (by omega), inR_i64 (by omega) (by omega), (between _ _ _), rfl, trivial⟩
set_option maxRecDepth 100000 in
theorem isRest_2 (x y m : Int) (h1 : 400 ≤ m) (h2 : m ≤ 500) (f0 : M.btw x (-((64 : Int) * m).tdiv (2 : Int)) (((64 : Int) * m).tdiv (2 : Int) - (1 : Int)) = false) : Ret cfg 50 [.raw (.agg #[.int .i64 x, .int .i64 y]), .raw (.int .i64 m)] (V.raw (Value.bool false)) := by
  have e : (64 * m).tdiv 2 = 32 * m := by rw [Int.tdiv_eq_ediv_of_nonneg (by omega)]; omega
  exact fn_of cfg_mixed cfg_call cfg_base.1 cfg_base.2.1 cfg_base.2.2 (n := 40) (ans := [Ans.go, Ans.go, Ans.ret (V.raw (Value.bool (M.btw x (-((64 : Int) * m).tdiv (2 : Int)) (((64 : Int) * m).tdiv (2 : Int) - (1 : Int))))), Ans.br false, Ans.br false]) (cons := [(inR IntKind.i64 ((64 : Int) * m)), ((2 : Int) ≠ (0 : Int)), (inR IntKind.i64 (((64 : Int) * m).tdiv (2 : Int))), (inR IntKind.i64 (-((64 : Int) * m).tdiv (2 : Int))), (inR IntKind.i64 (((64 : Int) * m).tdiv (2 : Int) - (1 : Int))), (Ret cfg (46 : Nat) [V.raw (Value.int IntKind.i64 x), V.raw (Value.int IntKind.i64 (-((64 : Int) * m).tdiv (2 : Int))), V.raw (Value.int IntKind.i64 (((64 : Int) * m).tdiv (2 : Int) - (1 : Int)))] (V.raw (Value.bool (M.btw x (-((64 : Int) * m).tdiv (2 : Int)) (((64 : Int) * m).tdiv (2 : Int) - (1 : Int)))))), (M.btw x (-((64 : Int) * m).tdiv (2 : Int)) (((64 : Int) * m).tdiv (2 : Int) - (1 : Int)) = false), (false = false)]) (by kernel_rfl) rfl rfl
    ⟨inR_i64 (by omega) (by omega), (by first | assumption | omega | (simp; omega) | (simp_all; done) | (simp_all; omega)), inR_i64 (by omega) (by omega), inR_i64 (by omega) (by omega), inR_i64 (by omega) (by omega), (between _ _ _), (by first | assumption | omega | (simp; omega) | (simp_all; done) | (simp_all; omega)), rfl, trivial⟩
theorem isRest (x y m : Int) (h1 : 400 ≤ m) (h2 : m ≤ 500) : Ret cfg 50 [.raw (.agg #[.int .i64 x, .int .i64 y]), .raw (.int .i64 m)] (.raw (.bool (M.restB x y m))) := by
  have e : (64 * m).tdiv 2 = 32 * m := by rw [Int.tdiv_eq_ediv_of_nonneg (by omega)]; omega
  by_cases f0 : M.btw x (-((64 : Int) * m).tdiv (2 : Int)) (((64 : Int) * m).tdiv (2 : Int) - (1 : Int)) = true
  ·
    have e : (.raw (.bool (M.restB x y m)) : V) = V.raw (Value.bool (M.btw y (-((64 : Int) * m).tdiv (2 : Int)) (((64 : Int) * m).tdiv (2 : Int) - (1 : Int)))) := by (simp_all [M.restB])
    rw [e]
    exact isRest_1 x y m h1 h2 f0
  ·
    replace f0 : M.btw x (-((64 : Int) * m).tdiv (2 : Int)) (((64 : Int) * m).tdiv (2 : Int) - (1 : Int)) = false := by simpa using f0
    have e : (.raw (.bool (M.restB x y m)) : V) = V.raw (Value.bool false) := by (simp_all [M.restB])
    rw [e]
    exact isRest_2 x y m h1 h2 f0
set_option maxRecDepth 100000 in
theorem checkMotion_1 (m r a b u v p q : Int) (f0 : ¬M.err (M.ballB m r) = (0 : Int)) : Ret cfg 18 [.raw (.agg #[.int .i64 m, .int .i64 r]), .raw (.agg #[.int .i64 a, .int .i64 b, .int .i64 u, .int .i64 v, .int .i64 p, .int .i64 q])] (V.raw (Value.int IntKind.i64 (2 : Int))) := by
  exact fn_of cfg_mixed cfg_call cfg_base.1 cfg_base.2.1 cfg_base.2.2 (n := 40) (ans := [Ans.go, Ans.ret (V.raw (Value.int IntKind.i64 (M.err (M.ballB m r)))), Ans.br true, Ans.br true, Ans.br true, Ans.br true, Ans.br true, Ans.br true, Ans.br true]) (cons := [(Ret cfg (16 : Nat) [V.raw (Value.agg { toList := [Value.int IntKind.i64 m, Value.int IntKind.i64 r] })] (V.raw (Value.int IntKind.i64 (M.err (M.ballB m r))))), ((!decide (M.err (M.ballB m r) = (0 : Int))) = true), (true = true), (true = true), (true = true), (true = true), (true = true), (true = true)]) (by kernel_rfl) rfl rfl
    ⟨(checkBall _ _), (by first | assumption | omega | (simp; omega) | (simp_all; done) | (simp_all; omega)), rfl, rfl, rfl, rfl, rfl, rfl, trivial⟩
set_option maxRecDepth 100000 in
theorem checkMotion_2 (m r a b u v p q : Int) (f0 : M.err (M.ballB m r) = (0 : Int)) (f1 : ¬M.err (M.placeB a b) = (0 : Int)) : Ret cfg 18 [.raw (.agg #[.int .i64 m, .int .i64 r]), .raw (.agg #[.int .i64 a, .int .i64 b, .int .i64 u, .int .i64 v, .int .i64 p, .int .i64 q])] (V.raw (Value.int IntKind.i64 (2 : Int))) := by
  exact fn_of cfg_mixed cfg_call cfg_base.1 cfg_base.2.1 cfg_base.2.2 (n := 40) (ans := [Ans.go, Ans.ret (V.raw (Value.int IntKind.i64 (M.err (M.ballB m r)))), Ans.br false, Ans.ret (V.raw (Value.int IntKind.i64 (M.err (M.placeB a b)))), Ans.br false, Ans.br true, Ans.br true, Ans.br true, Ans.br true, Ans.br true]) (cons := [(Ret cfg (16 : Nat) [V.raw (Value.agg { toList := [Value.int IntKind.i64 m, Value.int IntKind.i64 r] })] (V.raw (Value.int IntKind.i64 (M.err (M.ballB m r))))), ((!decide (M.err (M.ballB m r) = (0 : Int))) = false), (Ret cfg (48 : Nat) [V.raw (Value.agg { toList := [Value.int IntKind.i64 a, Value.int IntKind.i64 b] })] (V.raw (Value.int IntKind.i64 (M.err (M.placeB a b))))), (false = false), ((!decide (M.err (M.placeB a b) = (0 : Int))) = true), (true = true), (true = true), (true = true), (true = true)]) (by kernel_rfl) rfl rfl
    ⟨(checkBall _ _), (by first | assumption | omega | (simp; omega) | (simp_all; done) | (simp_all; omega)), (turfCheck _ _), rfl, (by first | assumption | omega | (simp; omega) | (simp_all; done) | (simp_all; omega)), rfl, rfl, rfl, rfl, trivial⟩
set_option maxRecDepth 100000 in
theorem checkMotion_3 (m r a b u v p q : Int) (f0 : M.err (M.ballB m r) = (0 : Int)) (f1 : M.err (M.placeB a b) = (0 : Int)) (f2 : M.momB u v = false) : Ret cfg 18 [.raw (.agg #[.int .i64 m, .int .i64 r]), .raw (.agg #[.int .i64 a, .int .i64 b, .int .i64 u, .int .i64 v, .int .i64 p, .int .i64 q])] (V.raw (Value.int IntKind.i64 (2 : Int))) := by
  exact fn_of cfg_mixed cfg_call cfg_base.1 cfg_base.2.1 cfg_base.2.2 (n := 40) (ans := [Ans.go, Ans.ret (V.raw (Value.int IntKind.i64 (M.err (M.ballB m r)))), Ans.br false, Ans.ret (V.raw (Value.int IntKind.i64 (M.err (M.placeB a b)))), Ans.br false, Ans.br false, Ans.ret (V.raw (Value.bool (M.momB u v))), Ans.br false, Ans.br true, Ans.br true, Ans.br true]) (cons := [(Ret cfg (16 : Nat) [V.raw (Value.agg { toList := [Value.int IntKind.i64 m, Value.int IntKind.i64 r] })] (V.raw (Value.int IntKind.i64 (M.err (M.ballB m r))))), ((!decide (M.err (M.ballB m r) = (0 : Int))) = false), (Ret cfg (48 : Nat) [V.raw (Value.agg { toList := [Value.int IntKind.i64 a, Value.int IntKind.i64 b] })] (V.raw (Value.int IntKind.i64 (M.err (M.placeB a b))))), (false = false), ((!decide (M.err (M.placeB a b) = (0 : Int))) = false), (Ret cfg (49 : Nat) [V.raw (Value.agg { toList := [Value.int IntKind.i64 u, Value.int IntKind.i64 v] })] (V.raw (Value.bool (M.momB u v)))), (false = false), ((!M.momB u v) = true), (true = true), (true = true)]) (by kernel_rfl) rfl rfl
    ⟨(checkBall _ _), (by first | assumption | omega | (simp; omega) | (simp_all; done) | (simp_all; omega)), (turfCheck _ _), rfl, (by first | assumption | omega | (simp; omega) | (simp_all; done) | (simp_all; omega)), (isMomentum _ _), rfl, (by first | assumption | omega | (simp; omega) | (simp_all; done) | (simp_all; omega)), rfl, rfl, trivial⟩
set_option maxRecDepth 100000 in
theorem checkMotion_4 (m r a b u v p q : Int) (f0 : M.err (M.ballB m r) = (0 : Int)) (f1 : M.err (M.placeB a b) = (0 : Int)) (f2 : M.momB u v = true) (f3 : M.restB p q m = false) : Ret cfg 18 [.raw (.agg #[.int .i64 m, .int .i64 r]), .raw (.agg #[.int .i64 a, .int .i64 b, .int .i64 u, .int .i64 v, .int .i64 p, .int .i64 q])] (V.raw (Value.int IntKind.i64 (2 : Int))) := by
  exact fn_of cfg_mixed cfg_call cfg_base.1 cfg_base.2.1 cfg_base.2.2 (n := 40) (ans := [Ans.go, Ans.ret (V.raw (Value.int IntKind.i64 (M.err (M.ballB m r)))), Ans.br false, Ans.ret (V.raw (Value.int IntKind.i64 (M.err (M.placeB a b)))), Ans.br false, Ans.br false, Ans.ret (V.raw (Value.bool (M.momB u v))), Ans.br false, Ans.br false, Ans.ret (V.raw (Value.bool (M.restB p q m))), Ans.br false, Ans.br true]) (cons := [(Ret cfg (16 : Nat) [V.raw (Value.agg { toList := [Value.int IntKind.i64 m, Value.int IntKind.i64 r] })] (V.raw (Value.int IntKind.i64 (M.err (M.ballB m r))))), ((!decide (M.err (M.ballB m r) = (0 : Int))) = false), (Ret cfg (48 : Nat) [V.raw (Value.agg { toList := [Value.int IntKind.i64 a, Value.int IntKind.i64 b] })] (V.raw (Value.int IntKind.i64 (M.err (M.placeB a b))))), (false = false), ((!decide (M.err (M.placeB a b) = (0 : Int))) = false), (Ret cfg (49 : Nat) [V.raw (Value.agg { toList := [Value.int IntKind.i64 u, Value.int IntKind.i64 v] })] (V.raw (Value.bool (M.momB u v)))), (false = false), ((!M.momB u v) = false), (Ret cfg (50 : Nat) [V.raw (Value.agg { toList := [Value.int IntKind.i64 p, Value.int IntKind.i64 q] }), V.raw (Value.int IntKind.i64 m)] (V.raw (Value.bool (M.restB p q m)))), (false = false), ((!M.restB p q m) = true)]) (by kernel_rfl) rfl rfl
    ⟨(checkBall _ _), (by first | assumption | omega | (simp; omega) | (simp_all; done) | (simp_all; omega)), (turfCheck _ _), rfl, (by first | assumption | omega | (simp; omega) | (simp_all; done) | (simp_all; omega)), (isMomentum _ _), rfl, (by first | assumption | omega | (simp; omega) | (simp_all; done) | (simp_all; omega)), (isRest _ _ _ (M.ballB_lo f0) (M.ballB_hi f0)), rfl, (by first | assumption | omega | (simp; omega) | (simp_all; done) | (simp_all; omega)), trivial⟩
set_option maxRecDepth 100000 in
theorem checkMotion_5 (m r a b u v p q : Int) (f0 : M.err (M.ballB m r) = (0 : Int)) (f1 : M.err (M.placeB a b) = (0 : Int)) (f2 : M.momB u v = true) (f3 : M.restB p q m = true) : Ret cfg 18 [.raw (.agg #[.int .i64 m, .int .i64 r]), .raw (.agg #[.int .i64 a, .int .i64 b, .int .i64 u, .int .i64 v, .int .i64 p, .int .i64 q])] (V.raw (Value.int IntKind.i64 (0 : Int))) := by
  exact fn_of cfg_mixed cfg_call cfg_base.1 cfg_base.2.1 cfg_base.2.2 (n := 40) (ans := [Ans.go, Ans.ret (V.raw (Value.int IntKind.i64 (M.err (M.ballB m r)))), Ans.br false, Ans.ret (V.raw (Value.int IntKind.i64 (M.err (M.placeB a b)))), Ans.br false, Ans.br false, Ans.ret (V.raw (Value.bool (M.momB u v))), Ans.br false, Ans.br false, Ans.ret (V.raw (Value.bool (M.restB p q m))), Ans.br false, Ans.br false]) (cons := [(Ret cfg (16 : Nat) [V.raw (Value.agg { toList := [Value.int IntKind.i64 m, Value.int IntKind.i64 r] })] (V.raw (Value.int IntKind.i64 (M.err (M.ballB m r))))), ((!decide (M.err (M.ballB m r) = (0 : Int))) = false), (Ret cfg (48 : Nat) [V.raw (Value.agg { toList := [Value.int IntKind.i64 a, Value.int IntKind.i64 b] })] (V.raw (Value.int IntKind.i64 (M.err (M.placeB a b))))), (false = false), ((!decide (M.err (M.placeB a b) = (0 : Int))) = false), (Ret cfg (49 : Nat) [V.raw (Value.agg { toList := [Value.int IntKind.i64 u, Value.int IntKind.i64 v] })] (V.raw (Value.bool (M.momB u v)))), (false = false), ((!M.momB u v) = false), (Ret cfg (50 : Nat) [V.raw (Value.agg { toList := [Value.int IntKind.i64 p, Value.int IntKind.i64 q] }), V.raw (Value.int IntKind.i64 m)] (V.raw (Value.bool (M.restB p q m)))), (false = false), ((!M.restB p q m) = false)]) (by kernel_rfl) rfl rfl
    ⟨(checkBall _ _), (by first | assumption | omega | (simp; omega) | (simp_all; done) | (simp_all; omega)), (turfCheck _ _), rfl, (by first | assumption | omega | (simp; omega) | (simp_all; done) | (simp_all; omega)), (isMomentum _ _), rfl, (by first | assumption | omega | (simp; omega) | (simp_all; done) | (simp_all; omega)), (isRest _ _ _ (M.ballB_lo f0) (M.ballB_hi f0)), rfl, (by first | assumption | omega | (simp; omega) | (simp_all; done) | (simp_all; omega)), trivial⟩
theorem checkMotion (m r a b u v p q : Int) : Ret cfg 18 [.raw (.agg #[.int .i64 m, .int .i64 r]), .raw (.agg #[.int .i64 a, .int .i64 b, .int .i64 u, .int .i64 v, .int .i64 p, .int .i64 q])] (.raw (.int .i64 (M.err (M.motB m r a b u v p q)))) := by
  by_cases f0 : ¬M.err (M.ballB m r) = (0 : Int)
  ·
    have e : (.raw (.int .i64 (M.err (M.motB m r a b u v p q))) : V) = V.raw (Value.int IntKind.i64 (2 : Int)) := by (simp_all [M.motB, M.err_eq])
    rw [e]
    exact checkMotion_1 m r a b u v p q f0
  ·
    replace f0 : M.err (M.ballB m r) = (0 : Int) := by simpa using f0
    by_cases f1 : ¬M.err (M.placeB a b) = (0 : Int)
    ·
      have e : (.raw (.int .i64 (M.err (M.motB m r a b u v p q))) : V) = V.raw (Value.int IntKind.i64 (2 : Int)) := by (simp_all [M.motB, M.err_eq])
      rw [e]
      exact checkMotion_2 m r a b u v p q f0 f1
    ·
      replace f1 : M.err (M.placeB a b) = (0 : Int) := by simpa using f1
      by_cases f2 : M.momB u v = false
      ·
        have e : (.raw (.int .i64 (M.err (M.motB m r a b u v p q))) : V) = V.raw (Value.int IntKind.i64 (2 : Int)) := by (simp_all [M.motB, M.err_eq])
        rw [e]
        exact checkMotion_3 m r a b u v p q f0 f1 f2
      ·
        replace f2 : M.momB u v = true := by simpa using f2
        by_cases f3 : M.restB p q m = false
        ·
          have e : (.raw (.int .i64 (M.err (M.motB m r a b u v p q))) : V) = V.raw (Value.int IntKind.i64 (2 : Int)) := by (simp_all [M.motB, M.err_eq])
          rw [e]
          exact checkMotion_4 m r a b u v p q f0 f1 f2 f3
        ·
          replace f3 : M.restB p q m = true := by simpa using f3
          have e : (.raw (.int .i64 (M.err (M.motB m r a b u v p q))) : V) = V.raw (Value.int IntKind.i64 (0 : Int)) := by (simp_all [M.motB, M.err_eq])
          rw [e]
          exact checkMotion_5 m r a b u v p q f0 f1 f2 f3
set_option maxRecDepth 100000 in
theorem rCheckMotion_ok_1 (m r a b u v p q : Int) (hb : M.ballB m r = true) (h1 : 400 ≤ m) (h2 : m ≤ 500) (f0 : ¬M.err (M.ballB m r) = (0 : Int)) : Ret cfg 19 [.raw (.agg #[.int .i64 m, .int .i64 r]), .raw (.agg #[.int .i64 a, .int .i64 b, .int .i64 u, .int .i64 v, .int .i64 p, .int .i64 q])] (V.raw (Value.int IntKind.i64 (2 : Int))) := by
  have he : M.err (M.ballB m r) = 0 := M.err_eq.2 hb
  exact fn_of cfg_mixed cfg_call cfg_base.1 cfg_base.2.1 cfg_base.2.2 (n := 40) (ans := [Ans.go, Ans.ret (V.raw (Value.int IntKind.i64 (M.err (M.ballB m r)))), Ans.br true, Ans.br true, Ans.br true, Ans.br true, Ans.br true, Ans.br true, Ans.br true, Ans.br true, Ans.br true]) (cons := [(inR IntKind.i64 ((32 : Int) * m)), (Ret cfg (17 : Nat) [V.raw (Value.agg { toList := [Value.int IntKind.i64 m, Value.int IntKind.i64 r] })] (V.raw (Value.int IntKind.i64 (M.err (M.ballB m r))))), ((!decide (M.err (M.ballB m r) = (0 : Int))) = true), (true = true), (true = true), (true = true), (true = true), (true = true), (true = true), (true = true), (true = true)]) (by kernel_rfl) rfl rfl
    ⟨inR_i64 (by omega) (by omega), (rCheckBall _ _), (by first | assumption | omega | (simp; omega) | (simp_all; done) | (simp_all; omega)), rfl, rfl, rfl, rfl, rfl, rfl, rfl, rfl, trivial⟩
set_option maxRecDepth 100000 in
theorem rCheckMotion_ok_2 (m r a b u v p q : Int) (hb : M.ballB m r = true) (h1 : 400 ≤ m) (h2 : m ≤ 500) (f0 : M.err (M.ballB m r) = (0 : Int)) (f1 : M.placeB a b = false) : Ret cfg 19 [.raw (.agg #[.int .i64 m, .int .i64 r]), .raw (.agg #[.int .i64 a, .int .i64 b, .int .i64 u, .int .i64 v, .int .i64 p, .int .i64 q])] (V.raw (Value.int IntKind.i64 (2 : Int))) := by
  have he : M.err (M.ballB m r) = 0 := M.err_eq.2 hb
  exact fn_of cfg_mixed cfg_call cfg_base.1 cfg_base.2.1 cfg_base.2.2 (n := 40) (ans := [Ans.go, Ans.ret (V.raw (Value.int IntKind.i64 (M.err (M.ballB m r)))), Ans.br false, Ans.ret (V.raw (Value.bool (M.placeB a b))), Ans.br false, Ans.br true, Ans.br true, Ans.br true, Ans.br true, Ans.br true, Ans.br true, Ans.br true]) (cons := [(inR IntKind.i64 ((32 : Int) * m)), (Ret cfg (17 : Nat) [V.raw (Value.agg { toList := [Value.int IntKind.i64 m, Value.int IntKind.i64 r] })] (V.raw (Value.int IntKind.i64 (M.err (M.ballB m r))))), ((!decide (M.err (M.ballB m r) = (0 : Int))) = false), (Ret cfg (45 : Nat) [V.raw (Value.agg { toList := [Value.int IntKind.i64 a, Value.int IntKind.i64 b] })] (V.raw (Value.bool (M.placeB a b)))), (false = false), ((!M.placeB a b) = true), (true = true), (true = true), (true = true), (true = true), (true = true), (true = true)]) (by kernel_rfl) rfl rfl
    ⟨inR_i64 (by omega) (by omega), (rCheckBall _ _), (by first | assumption | omega | (simp; omega) | (simp_all; done) | (simp_all; omega)), (rValid _ _), rfl, (by first | assumption | omega | (simp; omega) | (simp_all; done) | (simp_all; omega)), rfl, rfl, rfl, rfl, rfl, rfl, trivial⟩
set_option maxRecDepth 100000 in
theorem rCheckMotion_ok_3 (m r a b u v p q : Int) (hb : M.ballB m r = true) (h1 : 400 ≤ m) (h2 : m ≤ 500) (f0 : M.err (M.ballB m r) = (0 : Int)) (f1 : M.placeB a b = true) (f2 : M.momB u v = false) : Ret cfg 19 [.raw (.agg #[.int .i64 m, .int .i64 r]), .raw (.agg #[.int .i64 a, .int .i64 b, .int .i64 u, .int .i64 v, .int .i64 p, .int .i64 q])] (V.raw (Value.int IntKind.i64 (2 : Int))) := by
  have he : M.err (M.ballB m r) = 0 := M.err_eq.2 hb
  exact fn_of cfg_mixed cfg_call cfg_base.1 cfg_base.2.1 cfg_base.2.2 (n := 40) (ans := [Ans.go, Ans.ret (V.raw (Value.int IntKind.i64 (M.err (M.ballB m r)))), Ans.br false, Ans.ret (V.raw (Value.bool (M.placeB a b))), Ans.br false, Ans.br false, Ans.ret (V.raw (Value.bool (M.momB u v))), Ans.br false, Ans.br true, Ans.br true, Ans.br true, Ans.br true, Ans.br true]) (cons := [(inR IntKind.i64 ((32 : Int) * m)), (Ret cfg (17 : Nat) [V.raw (Value.agg { toList := [Value.int IntKind.i64 m, Value.int IntKind.i64 r] })] (V.raw (Value.int IntKind.i64 (M.err (M.ballB m r))))), ((!decide (M.err (M.ballB m r) = (0 : Int))) = false), (Ret cfg (45 : Nat) [V.raw (Value.agg { toList := [Value.int IntKind.i64 a, Value.int IntKind.i64 b] })] (V.raw (Value.bool (M.placeB a b)))), (false = false), ((!M.placeB a b) = false), (Ret cfg (51 : Nat) [V.raw (Value.agg { toList := [Value.int IntKind.i64 u, Value.int IntKind.i64 v] })] (V.raw (Value.bool (M.momB u v)))), (false = false), ((!M.momB u v) = true), (true = true), (true = true), (true = true), (true = true)]) (by kernel_rfl) rfl rfl
    ⟨inR_i64 (by omega) (by omega), (rCheckBall _ _), (by first | assumption | omega | (simp; omega) | (simp_all; done) | (simp_all; omega)), (rValid _ _), rfl, (by first | assumption | omega | (simp; omega) | (simp_all; done) | (simp_all; omega)), (rStrong _ _), rfl, (by first | assumption | omega | (simp; omega) | (simp_all; done) | (simp_all; omega)), rfl, rfl, rfl, rfl, trivial⟩
set_option maxRecDepth 100000 in
theorem rCheckMotion_ok_4 (m r a b u v p q : Int) (hb : M.ballB m r = true) (h1 : 400 ≤ m) (h2 : m ≤ 500) (f0 : M.err (M.ballB m r) = (0 : Int)) (f1 : M.placeB a b = true) (f2 : M.momB u v = true) (f3 : M.btw p (-((32 : Int) * m)) ((32 : Int) * m - (1 : Int)) = false) : Ret cfg 19 [.raw (.agg #[.int .i64 m, .int .i64 r]), .raw (.agg #[.int .i64 a, .int .i64 b, .int .i64 u, .int .i64 v, .int .i64 p, .int .i64 q])] (V.raw (Value.int IntKind.i64 (2 : Int))) := by
  have he : M.err (M.ballB m r) = 0 := M.err_eq.2 hb
  exact fn_of cfg_mixed cfg_call cfg_base.1 cfg_base.2.1 cfg_base.2.2 (n := 40) (ans := [Ans.go, Ans.ret (V.raw (Value.int IntKind.i64 (M.err (M.ballB m r)))), Ans.br false, Ans.ret (V.raw (Value.bool (M.placeB a b))), Ans.br false, Ans.br false, Ans.ret (V.raw (Value.bool (M.momB u v))), Ans.br false, Ans.br false, Ans.ret (V.raw (Value.bool (M.btw p (-((32 : Int) * m)) ((32 : Int) * m - (1 : Int))))), Ans.br false, Ans.br true, Ans.br true, Ans.br true]) (cons := [(inR IntKind.i64 ((32 : Int) * m)), (Ret cfg (17 : Nat) [V.raw (Value.agg { toList := [Value.int IntKind.i64 m, Value.int IntKind.i64 r] })] (V.raw (Value.int IntKind.i64 (M.err (M.ballB m r))))), ((!decide (M.err (M.ballB m r) = (0 : Int))) = false), (Ret cfg (45 : Nat) [V.raw (Value.agg { toList := [Value.int IntKind.i64 a, Value.int IntKind.i64 b] })] (V.raw (Value.bool (M.placeB a b)))), (false = false), ((!M.placeB a b) = false), (Ret cfg (51 : Nat) [V.raw (Value.agg { toList := [Value.int IntKind.i64 u, Value.int IntKind.i64 v] })] (V.raw (Value.bool (M.momB u v)))), (false = false), ((!M.momB u v) = false), (inR IntKind.i64 (-((32 : Int) * m))), (inR IntKind.i64 ((32 : Int) * m - (1 : Int))), (Ret cfg (47 : Nat) [V.raw (Value.int IntKind.i64 p), V.raw (Value.int IntKind.i64 (-((32 : Int) * m))), V.raw (Value.int IntKind.i64 ((32 : Int) * m - (1 : Int)))] (V.raw (Value.bool (M.btw p (-((32 : Int) * m)) ((32 : Int) * m - (1 : Int)))))), (false = false), ((!M.btw p (-((32 : Int) * m)) ((32 : Int) * m - (1 : Int))) = true), (true = true), (true = true)]) (by kernel_rfl) rfl rfl
    ⟨inR_i64 (by omega) (by omega), (rCheckBall _ _), (by first | assumption | omega | (simp; omega) | (simp_all; done) | (simp_all; omega)), (rValid _ _), rfl, (by first | assumption | omega | (simp; omega) | (simp_all; done) | (simp_all; omega)), (rStrong _ _), rfl, (by first | assumption | omega | (simp; omega) | (simp_all; done) | (simp_all; omega)), inR_i64 (by omega) (by omega), inR_i64 (by omega) (by omega), (within _ _ _), rfl, (by first | assumption | omega | (simp; omega) | (simp_all; done) | (simp_all; omega)), rfl, rfl, trivial⟩
set_option maxRecDepth 100000 in
theorem rCheckMotion_ok_5 (m r a b u v p q : Int) (hb : M.ballB m r = true) (h1 : 400 ≤ m) (h2 : m ≤ 500) (f0 : M.err (M.ballB m r) = (0 : Int)) (f1 : M.placeB a b = true) (f2 : M.momB u v = true) (f3 : M.btw p (-((32 : Int) * m)) ((32 : Int) * m - (1 : Int)) = true) (f4 : M.btw q (-((32 : Int) * m)) ((32 : Int) * m - (1 : Int)) = false) : Ret cfg 19 [.raw (.agg #[.int .i64 m, .int .i64 r]), .raw (.agg #[.int .i64 a, .int .i64 b, .int .i64 u, .int .i64 v, .int .i64 p, .int .i64 q])] (V.raw (Value.int IntKind.i64 (2 : Int))) := by
  have he : M.err (M.ballB m r) = 0 := M.err_eq.2 hb
  exact fn_of cfg_mixed cfg_call cfg_base.1 cfg_base.2.1 cfg_base.2.2 (n := 40) (ans := [Ans.go, Ans.ret (V.raw (Value.int IntKind.i64 (M.err (M.ballB m r)))), Ans.br false, Ans.ret (V.raw (Value.bool (M.placeB a b))), Ans.br false, Ans.br false, Ans.ret (V.raw (Value.bool (M.momB u v))), Ans.br false, Ans.br false, Ans.ret (V.raw (Value.bool (M.btw p (-((32 : Int) * m)) ((32 : Int) * m - (1 : Int))))), Ans.br false, Ans.br false, Ans.ret (V.raw (Value.bool (M.btw q (-((32 : Int) * m)) ((32 : Int) * m - (1 : Int))))), Ans.br false, Ans.br true]) (cons := [(inR IntKind.i64 ((32 : Int) * m)), (Ret cfg (17 : Nat) [V.raw (Value.agg { toList := [Value.int IntKind.i64 m, Value.int IntKind.i64 r] })] (V.raw (Value.int IntKind.i64 (M.err (M.ballB m r))))), ((!decide (M.err (M.ballB m r) = (0 : Int))) = false), (Ret cfg (45 : Nat) [V.raw (Value.agg { toList := [Value.int IntKind.i64 a, Value.int IntKind.i64 b] })] (V.raw (Value.bool (M.placeB a b)))), (false = false), ((!M.placeB a b) = false), (Ret cfg (51 : Nat) [V.raw (Value.agg { toList := [Value.int IntKind.i64 u, Value.int IntKind.i64 v] })] (V.raw (Value.bool (M.momB u v)))), (false = false), ((!M.momB u v) = false), (inR IntKind.i64 (-((32 : Int) * m))), (inR IntKind.i64 ((32 : Int) * m - (1 : Int))), (Ret cfg (47 : Nat) [V.raw (Value.int IntKind.i64 p), V.raw (Value.int IntKind.i64 (-((32 : Int) * m))), V.raw (Value.int IntKind.i64 ((32 : Int) * m - (1 : Int)))] (V.raw (Value.bool (M.btw p (-((32 : Int) * m)) ((32 : Int) * m - (1 : Int)))))), (false = false), ((!M.btw p (-((32 : Int) * m)) ((32 : Int) * m - (1 : Int))) = false), (inR IntKind.i64 (-((32 : Int) * m))), (inR IntKind.i64 ((32 : Int) * m - (1 : Int))), (Ret cfg (47 : Nat) [V.raw (Value.int IntKind.i64 q), V.raw (Value.int IntKind.i64 (-((32 : Int) * m))), V.raw (Value.int IntKind.i64 ((32 : Int) * m - (1 : Int)))] (V.raw (Value.bool (M.btw q (-((32 : Int) * m)) ((32 : Int) * m - (1 : Int)))))), (false = false), ((!M.btw q (-((32 : Int) * m)) ((32 : Int) * m - (1 : Int))) = true)]) (by kernel_rfl) rfl rfl
    ⟨inR_i64 (by omega) (by omega), (rCheckBall _ _), (by first | assumption | omega | (simp; omega) | (simp_all; done) | (simp_all; omega)), (rValid _ _), rfl, (by first | assumption | omega | (simp; omega) | (simp_all; done) | (simp_all; omega)), (rStrong _ _), rfl, (by first | assumption | omega | (simp; omega) | (simp_all; done) | (simp_all; omega)), inR_i64 (by omega) (by omega), inR_i64 (by omega) (by omega), (within _ _ _), rfl, (by first | assumption | omega | (simp; omega) | (simp_all; done) | (simp_all; omega)), inR_i64 (by omega) (by omega), inR_i64 (by omega) (by omega), (within _ _ _), rfl, (by first | assumption | omega | (simp; omega) | (simp_all; done) | (simp_all; omega)), trivial⟩
set_option maxRecDepth 100000 in
theorem rCheckMotion_ok_6 (m r a b u v p q : Int) (hb : M.ballB m r = true) (h1 : 400 ≤ m) (h2 : m ≤ 500) (f0 : M.err (M.ballB m r) = (0 : Int)) (f1 : M.placeB a b = true) (f2 : M.momB u v = true) (f3 : M.btw p (-((32 : Int) * m)) ((32 : Int) * m - (1 : Int)) = true) (f4 : M.btw q (-((32 : Int) * m)) ((32 : Int) * m - (1 : Int)) = true) : Ret cfg 19 [.raw (.agg #[.int .i64 m, .int .i64 r]), .raw (.agg #[.int .i64 a, .int .i64 b, .int .i64 u, .int .i64 v, .int .i64 p, .int .i64 q])] (V.raw (Value.int IntKind.i64 (0 : Int))) := by
  have he : M.err (M.ballB m r) = 0 := M.err_eq.2 hb
  exact fn_of cfg_mixed cfg_call cfg_base.1 cfg_base.2.1 cfg_base.2.2 (n := 40) (ans := [Ans.go, Ans.ret (V.raw (Value.int IntKind.i64 (M.err (M.ballB m r)))), Ans.br false, Ans.ret (V.raw (Value.bool (M.placeB a b))), Ans.br false, Ans.br false, Ans.ret (V.raw (Value.bool (M.momB u v))), Ans.br false, Ans.br false, Ans.ret (V.raw (Value.bool (M.btw p (-((32 : Int) * m)) ((32 : Int) * m - (1 : Int))))), Ans.br false, Ans.br false, Ans.ret (V.raw (Value.bool (M.btw q (-((32 : Int) * m)) ((32 : Int) * m - (1 : Int))))), Ans.br false, Ans.br false]) (cons := [(inR IntKind.i64 ((32 : Int) * m)), (Ret cfg (17 : Nat) [V.raw (Value.agg { toList := [Value.int IntKind.i64 m, Value.int IntKind.i64 r] })] (V.raw (Value.int IntKind.i64 (M.err (M.ballB m r))))), ((!decide (M.err (M.ballB m r) = (0 : Int))) = false), (Ret cfg (45 : Nat) [V.raw (Value.agg { toList := [Value.int IntKind.i64 a, Value.int IntKind.i64 b] })] (V.raw (Value.bool (M.placeB a b)))), (false = false), ((!M.placeB a b) = false), (Ret cfg (51 : Nat) [V.raw (Value.agg { toList := [Value.int IntKind.i64 u, Value.int IntKind.i64 v] })] (V.raw (Value.bool (M.momB u v)))), (false = false), ((!M.momB u v) = false), (inR IntKind.i64 (-((32 : Int) * m))), (inR IntKind.i64 ((32 : Int) * m - (1 : Int))), (Ret cfg (47 : Nat) [V.raw (Value.int IntKind.i64 p), V.raw (Value.int IntKind.i64 (-((32 : Int) * m))), V.raw (Value.int IntKind.i64 ((32 : Int) * m - (1 : Int)))] (V.raw (Value.bool (M.btw p (-((32 : Int) * m)) ((32 : Int) * m - (1 : Int)))))), (false = false), ((!M.btw p (-((32 : Int) * m)) ((32 : Int) * m - (1 : Int))) = false), (inR IntKind.i64 (-((32 : Int) * m))), (inR IntKind.i64 ((32 : Int) * m - (1 : Int))), (Ret cfg (47 : Nat) [V.raw (Value.int IntKind.i64 q), V.raw (Value.int IntKind.i64 (-((32 : Int) * m))), V.raw (Value.int IntKind.i64 ((32 : Int) * m - (1 : Int)))] (V.raw (Value.bool (M.btw q (-((32 : Int) * m)) ((32 : Int) * m - (1 : Int)))))), (false = false), ((!M.btw q (-((32 : Int) * m)) ((32 : Int) * m - (1 : Int))) = false)]) (by kernel_rfl) rfl rfl
    ⟨inR_i64 (by omega) (by omega), (rCheckBall _ _), (by first | assumption | omega | (simp; omega) | (simp_all; done) | (simp_all; omega)), (rValid _ _), rfl, (by first | assumption | omega | (simp; omega) | (simp_all; done) | (simp_all; omega)), (rStrong _ _), rfl, (by first | assumption | omega | (simp; omega) | (simp_all; done) | (simp_all; omega)), inR_i64 (by omega) (by omega), inR_i64 (by omega) (by omega), (within _ _ _), rfl, (by first | assumption | omega | (simp; omega) | (simp_all; done) | (simp_all; omega)), inR_i64 (by omega) (by omega), inR_i64 (by omega) (by omega), (within _ _ _), rfl, (by first | assumption | omega | (simp; omega) | (simp_all; done) | (simp_all; omega)), trivial⟩
theorem rCheckMotion_ok (m r a b u v p q : Int) (hb : M.ballB m r = true) (h1 : 400 ≤ m) (h2 : m ≤ 500) : Ret cfg 19 [.raw (.agg #[.int .i64 m, .int .i64 r]), .raw (.agg #[.int .i64 a, .int .i64 b, .int .i64 u, .int .i64 v, .int .i64 p, .int .i64 q])] (.raw (.int .i64 (M.err (M.motB m r a b u v p q)))) := by
  have he : M.err (M.ballB m r) = 0 := M.err_eq.2 hb
  by_cases f0 : ¬M.err (M.ballB m r) = (0 : Int)
  ·
    have e : (.raw (.int .i64 (M.err (M.motB m r a b u v p q))) : V) = V.raw (Value.int IntKind.i64 (2 : Int)) := by (simp_all [M.motB, M.err_eq, M.restB])
    rw [e]
    exact rCheckMotion_ok_1 m r a b u v p q hb h1 h2 f0
  ·
    replace f0 : M.err (M.ballB m r) = (0 : Int) := by simpa using f0
    by_cases f1 : M.placeB a b = false
    ·
      have e : (.raw (.int .i64 (M.err (M.motB m r a b u v p q))) : V) = V.raw (Value.int IntKind.i64 (2 : Int)) := by (simp_all [M.motB, M.err_eq, M.restB])
      rw [e]
      exact rCheckMotion_ok_2 m r a b u v p q hb h1 h2 f0 f1
    ·
      replace f1 : M.placeB a b = true := by simpa using f1
      by_cases f2 : M.momB u v = false
      ·
        have e : (.raw (.int .i64 (M.err (M.motB m r a b u v p q))) : V) = V.raw (Value.int IntKind.i64 (2 : Int)) := by (simp_all [M.motB, M.err_eq, M.restB])
        rw [e]
        exact rCheckMotion_ok_3 m r a b u v p q hb h1 h2 f0 f1 f2
      ·
        replace f2 : M.momB u v = true := by simpa using f2
        by_cases f3 : M.btw p (-((32 : Int) * m)) ((32 : Int) * m - (1 : Int)) = false
        ·
          have e : (.raw (.int .i64 (M.err (M.motB m r a b u v p q))) : V) = V.raw (Value.int IntKind.i64 (2 : Int)) := by (simp_all [M.motB, M.err_eq, M.restB])
          rw [e]
          exact rCheckMotion_ok_4 m r a b u v p q hb h1 h2 f0 f1 f2 f3
        ·
          replace f3 : M.btw p (-((32 : Int) * m)) ((32 : Int) * m - (1 : Int)) = true := by simpa using f3
          by_cases f4 : M.btw q (-((32 : Int) * m)) ((32 : Int) * m - (1 : Int)) = false
          ·
            have e : (.raw (.int .i64 (M.err (M.motB m r a b u v p q))) : V) = V.raw (Value.int IntKind.i64 (2 : Int)) := by (simp_all [M.motB, M.err_eq, M.restB])
            rw [e]
            exact rCheckMotion_ok_5 m r a b u v p q hb h1 h2 f0 f1 f2 f3 f4
          ·
            replace f4 : M.btw q (-((32 : Int) * m)) ((32 : Int) * m - (1 : Int)) = true := by simpa using f4
            have e : (.raw (.int .i64 (M.err (M.motB m r a b u v p q))) : V) = V.raw (Value.int IntKind.i64 (0 : Int)) := by (simp_all [M.motB, M.err_eq, M.restB])
            rw [e]
            exact rCheckMotion_ok_6 m r a b u v p q hb h1 h2 f0 f1 f2 f3 f4
set_option maxRecDepth 100000 in
theorem rCheckMotion_bad (m r a b u v p q : Int) (hb : M.err (M.ballB m r) = 2)  : Ret cfgW 19 [.raw (.agg #[.int .i64 m, .int .i64 r]), .raw (.agg #[.int .i64 a, .int .i64 b, .int .i64 u, .int .i64 v, .int .i64 p, .int .i64 q])] (V.raw (Value.int IntKind.i64 (2 : Int))) := by
  exact fn_of cfgW_mixed cfgW_call cfgW_base.1 cfgW_base.2.1 cfgW_base.2.2 (n := 40) (ans := [Ans.go, Ans.ret (V.raw (Value.int IntKind.i64 (M.err (M.ballB m r)))), Ans.br true, Ans.br true, Ans.br true, Ans.br true, Ans.br true, Ans.br true, Ans.br true, Ans.br true, Ans.br true]) (cons := [(Ret cfgW (17 : Nat) [V.raw (Value.agg { toList := [Value.int IntKind.i64 m, Value.int IntKind.i64 r] })] (V.raw (Value.int IntKind.i64 (M.err (M.ballB m r))))), ((!decide (M.err (M.ballB m r) = (0 : Int))) = true), (true = true), (true = true), (true = true), (true = true), (true = true), (true = true), (true = true), (true = true)]) (by kernel_rfl) rfl rfl
    ⟨(ret_bare (rCheckBall _ _)), (by first | assumption | omega | (simp; omega) | (simp_all; done) | (simp_all; omega)), rfl, rfl, rfl, rfl, rfl, rfl, rfl, rfl, trivial⟩
theorem rCheckMotion (m r a b u v p q : Int) : Ret cfg 19 [.raw (.agg #[.int .i64 m, .int .i64 r]), .raw (.agg #[.int .i64 a, .int .i64 b, .int .i64 u, .int .i64 v, .int .i64 p, .int .i64 q])] (.raw (.int .i64 (M.err (M.motB m r a b u v p q)))) := by
  cases hb : M.ballB m r
  · have e : M.motB m r a b u v p q = false := by simp [M.motB, hb]
    rw [e]
    exact ret_round (rCheckMotion_bad m r a b u v p q (by rw [hb]; rfl))
  · exact rCheckMotion_ok m r a b u v p q hb (M.ballB_lo (M.err_eq.2 hb)) (M.ballB_hi (M.err_eq.2 hb))
set_option maxRecDepth 100000 in
theorem checkBounce_1 (m r : Int) (f0 : M.btw m (0 : Int) (950 : Int) = false) : Ret cfg 20 [.raw (.agg #[.int .i64 m, .int .i64 r])] (V.raw (Value.int IntKind.i64 (2 : Int))) := by
  exact fn_of cfg_mixed cfg_call cfg_base.1 cfg_base.2.1 cfg_base.2.2 (n := 40) (ans := [Ans.go, Ans.ret (V.raw (Value.bool (M.btw m (0 : Int) (950 : Int)))), Ans.br true, Ans.br true, Ans.br true]) (cons := [(Ret cfg (46 : Nat) [V.raw (Value.int IntKind.i64 m), V.raw (Value.int IntKind.i64 (0 : Int)), V.raw (Value.int IntKind.i64 (950 : Int))] (V.raw (Value.bool (M.btw m (0 : Int) (950 : Int))))), ((!M.btw m (0 : Int) (950 : Int)) = true), (true = true), (true = true)]) (by kernel_rfl) rfl rfl
    ⟨(between _ _ _), (by first | assumption | omega | (simp; omega) | (simp_all; done) | (simp_all; omega)), rfl, rfl, trivial⟩
set_option maxRecDepth 100000 in
theorem checkBounce_2 (m r : Int) (f0 : M.btw m (0 : Int) (950 : Int) = true) (f1 : M.btw r (0 : Int) (300 : Int) = false) : Ret cfg 20 [.raw (.agg #[.int .i64 m, .int .i64 r])] (V.raw (Value.int IntKind.i64 (2 : Int))) := by
  exact fn_of cfg_mixed cfg_call cfg_base.1 cfg_base.2.1 cfg_base.2.2 (n := 40) (ans := [Ans.go, Ans.ret (V.raw (Value.bool (M.btw m (0 : Int) (950 : Int)))), Ans.br false, Ans.ret (V.raw (Value.bool (M.btw r (0 : Int) (300 : Int)))), Ans.br false, Ans.br true]) (cons := [(Ret cfg (46 : Nat) [V.raw (Value.int IntKind.i64 m), V.raw (Value.int IntKind.i64 (0 : Int)), V.raw (Value.int IntKind.i64 (950 : Int))] (V.raw (Value.bool (M.btw m (0 : Int) (950 : Int))))), ((!M.btw m (0 : Int) (950 : Int)) = false), (Ret cfg (46 : Nat) [V.raw (Value.int IntKind.i64 r), V.raw (Value.int IntKind.i64 (0 : Int)), V.raw (Value.int IntKind.i64 (300 : Int))] (V.raw (Value.bool (M.btw r (0 : Int) (300 : Int))))), (false = false), ((!M.btw r (0 : Int) (300 : Int)) = true)]) (by kernel_rfl) rfl rfl
    ⟨(between _ _ _), (by first | assumption | omega | (simp; omega) | (simp_all; done) | (simp_all; omega)), (between _ _ _), rfl, (by first | assumption | omega | (simp; omega) | (simp_all; done) | (simp_all; omega)), trivial⟩
set_option maxRecDepth 100000 in
theorem checkBounce_3 (m r : Int) (f0 : M.btw m (0 : Int) (950 : Int) = true) (f1 : M.btw r (0 : Int) (300 : Int) = true) : Ret cfg 20 [.raw (.agg #[.int .i64 m, .int .i64 r])] (V.raw (Value.int IntKind.i64 (0 : Int))) := by
  exact fn_of cfg_mixed cfg_call cfg_base.1 cfg_base.2.1 cfg_base.2.2 (n := 40) (ans := [Ans.go, Ans.ret (V.raw (Value.bool (M.btw m (0 : Int) (950 : Int)))), Ans.br false, Ans.ret (V.raw (Value.bool (M.btw r (0 : Int) (300 : Int)))), Ans.br false, Ans.br false]) (cons := [(Ret cfg (46 : Nat) [V.raw (Value.int IntKind.i64 m), V.raw (Value.int IntKind.i64 (0 : Int)), V.raw (Value.int IntKind.i64 (950 : Int))] (V.raw (Value.bool (M.btw m (0 : Int) (950 : Int))))), ((!M.btw m (0 : Int) (950 : Int)) = false), (Ret cfg (46 : Nat) [V.raw (Value.int IntKind.i64 r), V.raw (Value.int IntKind.i64 (0 : Int)), V.raw (Value.int IntKind.i64 (300 : Int))] (V.raw (Value.bool (M.btw r (0 : Int) (300 : Int))))), (false = false), ((!M.btw r (0 : Int) (300 : Int)) = false)]) (by kernel_rfl) rfl rfl
    ⟨(between _ _ _), (by first | assumption | omega | (simp; omega) | (simp_all; done) | (simp_all; omega)), (between _ _ _), rfl, (by first | assumption | omega | (simp; omega) | (simp_all; done) | (simp_all; omega)), trivial⟩
theorem checkBounce (m r : Int) : Ret cfg 20 [.raw (.agg #[.int .i64 m, .int .i64 r])] (.raw (.int .i64 (M.err (M.bncB m r)))) := by
  by_cases f0 : M.btw m (0 : Int) (950 : Int) = false
  ·
    have e : (.raw (.int .i64 (M.err (M.bncB m r))) : V) = V.raw (Value.int IntKind.i64 (2 : Int)) := by (simp_all [M.bncB])
    rw [e]
    exact checkBounce_1 m r f0
  ·
    replace f0 : M.btw m (0 : Int) (950 : Int) = true := by simpa using f0
    by_cases f1 : M.btw r (0 : Int) (300 : Int) = false
    ·
      have e : (.raw (.int .i64 (M.err (M.bncB m r))) : V) = V.raw (Value.int IntKind.i64 (2 : Int)) := by (simp_all [M.bncB])
      rw [e]
      exact checkBounce_2 m r f0 f1
    ·
      replace f1 : M.btw r (0 : Int) (300 : Int) = true := by simpa using f1
      have e : (.raw (.int .i64 (M.err (M.bncB m r))) : V) = V.raw (Value.int IntKind.i64 (0 : Int)) := by (simp_all [M.bncB])
      rw [e]
      exact checkBounce_3 m r f0 f1
set_option maxRecDepth 100000 in
theorem rCheckBounce_1 (m r : Int) (f0 : M.btw m (0 : Int) (950 : Int) = false) : Ret cfg 21 [.raw (.agg #[.int .i64 m, .int .i64 r])] (V.raw (Value.int IntKind.i64 (2 : Int))) := by
  exact fn_of cfg_mixed cfg_call cfg_base.1 cfg_base.2.1 cfg_base.2.2 (n := 40) (ans := [Ans.go, Ans.ret (V.raw (Value.bool (M.btw m (0 : Int) (950 : Int)))), Ans.br true, Ans.br true, Ans.br true]) (cons := [(Ret cfg (47 : Nat) [V.raw (Value.int IntKind.i64 m), V.raw (Value.int IntKind.i64 (0 : Int)), V.raw (Value.int IntKind.i64 (950 : Int))] (V.raw (Value.bool (M.btw m (0 : Int) (950 : Int))))), ((!M.btw m (0 : Int) (950 : Int)) = true), (true = true), (true = true)]) (by kernel_rfl) rfl rfl
    ⟨(within _ _ _), (by first | assumption | omega | (simp; omega) | (simp_all; done) | (simp_all; omega)), rfl, rfl, trivial⟩
set_option maxRecDepth 100000 in
theorem rCheckBounce_2 (m r : Int) (f0 : M.btw m (0 : Int) (950 : Int) = true) (f1 : M.btw r (0 : Int) (300 : Int) = false) : Ret cfg 21 [.raw (.agg #[.int .i64 m, .int .i64 r])] (V.raw (Value.int IntKind.i64 (2 : Int))) := by
  exact fn_of cfg_mixed cfg_call cfg_base.1 cfg_base.2.1 cfg_base.2.2 (n := 40) (ans := [Ans.go, Ans.ret (V.raw (Value.bool (M.btw m (0 : Int) (950 : Int)))), Ans.br false, Ans.ret (V.raw (Value.bool (M.btw r (0 : Int) (300 : Int)))), Ans.br false, Ans.br true]) (cons := [(Ret cfg (47 : Nat) [V.raw (Value.int IntKind.i64 m), V.raw (Value.int IntKind.i64 (0 : Int)), V.raw (Value.int IntKind.i64 (950 : Int))] (V.raw (Value.bool (M.btw m (0 : Int) (950 : Int))))), ((!M.btw m (0 : Int) (950 : Int)) = false), (Ret cfg (47 : Nat) [V.raw (Value.int IntKind.i64 r), V.raw (Value.int IntKind.i64 (0 : Int)), V.raw (Value.int IntKind.i64 (300 : Int))] (V.raw (Value.bool (M.btw r (0 : Int) (300 : Int))))), (false = false), ((!M.btw r (0 : Int) (300 : Int)) = true)]) (by kernel_rfl) rfl rfl
    ⟨(within _ _ _), (by first | assumption | omega | (simp; omega) | (simp_all; done) | (simp_all; omega)), (within _ _ _), rfl, (by first | assumption | omega | (simp; omega) | (simp_all; done) | (simp_all; omega)), trivial⟩
set_option maxRecDepth 100000 in
theorem rCheckBounce_3 (m r : Int) (f0 : M.btw m (0 : Int) (950 : Int) = true) (f1 : M.btw r (0 : Int) (300 : Int) = true) : Ret cfg 21 [.raw (.agg #[.int .i64 m, .int .i64 r])] (V.raw (Value.int IntKind.i64 (0 : Int))) := by
  exact fn_of cfg_mixed cfg_call cfg_base.1 cfg_base.2.1 cfg_base.2.2 (n := 40) (ans := [Ans.go, Ans.ret (V.raw (Value.bool (M.btw m (0 : Int) (950 : Int)))), Ans.br false, Ans.ret (V.raw (Value.bool (M.btw r (0 : Int) (300 : Int)))), Ans.br false, Ans.br false]) (cons := [(Ret cfg (47 : Nat) [V.raw (Value.int IntKind.i64 m), V.raw (Value.int IntKind.i64 (0 : Int)), V.raw (Value.int IntKind.i64 (950 : Int))] (V.raw (Value.bool (M.btw m (0 : Int) (950 : Int))))), ((!M.btw m (0 : Int) (950 : Int)) = false), (Ret cfg (47 : Nat) [V.raw (Value.int IntKind.i64 r), V.raw (Value.int IntKind.i64 (0 : Int)), V.raw (Value.int IntKind.i64 (300 : Int))] (V.raw (Value.bool (M.btw r (0 : Int) (300 : Int))))), (false = false), ((!M.btw r (0 : Int) (300 : Int)) = false)]) (by kernel_rfl) rfl rfl
    ⟨(within _ _ _), (by first | assumption | omega | (simp; omega) | (simp_all; done) | (simp_all; omega)), (within _ _ _), rfl, (by first | assumption | omega | (simp; omega) | (simp_all; done) | (simp_all; omega)), trivial⟩
theorem rCheckBounce (m r : Int) : Ret cfg 21 [.raw (.agg #[.int .i64 m, .int .i64 r])] (.raw (.int .i64 (M.err (M.bncB m r)))) := by
  by_cases f0 : M.btw m (0 : Int) (950 : Int) = false
  ·
    have e : (.raw (.int .i64 (M.err (M.bncB m r))) : V) = V.raw (Value.int IntKind.i64 (2 : Int)) := by (simp_all [M.bncB])
    rw [e]
    exact rCheckBounce_1 m r f0
  ·
    replace f0 : M.btw m (0 : Int) (950 : Int) = true := by simpa using f0
    by_cases f1 : M.btw r (0 : Int) (300 : Int) = false
    ·
      have e : (.raw (.int .i64 (M.err (M.bncB m r))) : V) = V.raw (Value.int IntKind.i64 (2 : Int)) := by (simp_all [M.bncB])
      rw [e]
      exact rCheckBounce_2 m r f0 f1
    ·
      replace f1 : M.btw r (0 : Int) (300 : Int) = true := by simpa using f1
      have e : (.raw (.int .i64 (M.err (M.bncB m r))) : V) = V.raw (Value.int IntKind.i64 (0 : Int)) := by (simp_all [M.bncB])
      rw [e]
      exact rCheckBounce_3 m r f0 f1
end Go.Proofs.Ytlgabdamgalngaa
