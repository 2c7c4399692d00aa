/-
  Layer 3: the examples that every statement holds.
-/
import Derived.Test.YtlgabdamgalngaaCtSb
import Derived.Test.YtlgabdamgalngaaCtU
set_option linter.unusedVariables false
set_option linter.unusedSimpArgs false
namespace Go.Proofs.Ytlgabdamgalngaa
open Go Go.RowKit Go.Proofs.Ytlgabdamgalngaa.E
theorem step_fine : Ret cfg 14 [.raw (.agg #[.int .i64 450, .int .i64 2944]), .raw (.agg #[.int .i64 0, .int .i64 0, .int .i64 28800, .int .i64 100, .int .i64 0, .int .i64 0])] (.raw (.tuple #[.agg #[.int .i64 1, .int .i64 0, .int .i64 28800, .int .i64 100, .int .i64 0, .int .i64 100], .int .i64 0])) := by
  have h := stepAny 450 2944 0 0 28800 100 0 0
  refine Eq.mp (congrArg (Ret cfg 14 _) ?_) h
  kernel_rfl
theorem kick_fine : Ret cfg 26 [.raw (.agg #[.int .i64 450, .int .i64 2944]), .raw (.agg #[.int .i64 0, .int .i64 0, .int .i64 1000000, .int .i64 0, .int .i64 0, .int .i64 0]), .raw (.agg #[.int .i64 450, .int .i64 2944]), .raw (.agg #[.int .i64 5888, .int .i64 0, .int .i64 0, .int .i64 0, .int .i64 0, .int .i64 0]), .raw (.agg #[.int .i64 800, .int .i64 0])] (.raw (.tuple #[.agg #[.int .i64 899992, .int .i64 0], .int .i64 0])) := by
  have h := kickAny 450 2944 0 0 1000000 0 0 0 450 2944 5888 0 0 0 0 0 800 0
  refine Eq.mp (congrArg (Ret cfg 26 _) ?_) h
  kernel_rfl
set_option maxRecDepth 100000 in
theorem fine   : Ret cfg 13 [] (V.raw (Value.bool true)) := by
  exact fn_of cfg_mixed cfg_call cfg_base.1 cfg_base.2.1 cfg_base.2.2 (n := 40) (ans := [Ans.go, Ans.ret (V.raw (Value.tuple { toList := [Value.agg { toList := [Value.int IntKind.i64 (1 : Int), Value.int IntKind.i64 (0 : Int), Value.int IntKind.i64 (28800 : Int), Value.int IntKind.i64 (100 : Int), Value.int IntKind.i64 (0 : Int), Value.int IntKind.i64 (100 : Int)] }, Value.int IntKind.i64 (0 : Int)] })), Ans.ret (V.raw (Value.tuple { toList := [Value.agg { toList := [Value.int IntKind.i64 (899992 : Int), Value.int IntKind.i64 (0 : Int)] }, Value.int IntKind.i64 (0 : Int)] })), Ans.br true, Ans.br true, Ans.br true, Ans.br true, Ans.br true, Ans.br true]) (cons := [(Ret cfg (14 : Nat) [V.raw (Value.agg { toList := [Value.int IntKind.i64 (450 : Int), Value.int IntKind.i64 (2944 : Int)] }), V.raw (Value.agg { toList := [Value.int IntKind.i64 (0 : Int), Value.int IntKind.i64 (0 : Int), Value.int IntKind.i64 (28800 : Int), Value.int IntKind.i64 (100 : Int), Value.int IntKind.i64 (0 : Int), Value.int IntKind.i64 (0 : Int)] })] (V.raw (Value.tuple { toList := [Value.agg { toList := [Value.int IntKind.i64 (1 : Int), Value.int IntKind.i64 (0 : Int), Value.int IntKind.i64 (28800 : Int), Value.int IntKind.i64 (100 : Int), Value.int IntKind.i64 (0 : Int), Value.int IntKind.i64 (100 : Int)] }, Value.int IntKind.i64 (0 : Int)] }))), (Ret cfg (26 : Nat) [V.raw (Value.agg { toList := [Value.int IntKind.i64 (450 : Int), Value.int IntKind.i64 (2944 : Int)] }), V.raw (Value.agg { toList := [Value.int IntKind.i64 (0 : Int), Value.int IntKind.i64 (0 : Int), Value.int IntKind.i64 (1000000 : Int), Value.int IntKind.i64 (0 : Int), Value.int IntKind.i64 (0 : Int), Value.int IntKind.i64 (0 : Int)] }), V.raw (Value.agg { toList := [Value.int IntKind.i64 (450 : Int), Value.int IntKind.i64 (2944 : Int)] }), V.raw (Value.agg { toList := [Value.int IntKind.i64 (5888 : Int), Value.int IntKind.i64 (0 : Int), Value.int IntKind.i64 (0 : Int), Value.int IntKind.i64 (0 : Int), Value.int IntKind.i64 (0 : Int), Value.int IntKind.i64 (0 : Int)] }), V.raw (Value.agg { toList := [Value.int IntKind.i64 (800 : Int), Value.int IntKind.i64 (0 : Int)] })] (V.raw (Value.tuple { toList := [Value.agg { toList := [Value.int IntKind.i64 (899992 : Int), Value.int IntKind.i64 (0 : Int)] }, Value.int IntKind.i64 (0 : Int)] }))), (inR IntKind.i64 (0 : Int)), (true = true), (true = true), (true = true), (true = true), (true = true), (true = true)]) (by kernel_rfl) rfl rfl
    ⟨(step_fine), (kick_fine), inR_i64 (by omega) (by omega), rfl, rfl, rfl, rfl, rfl, rfl, trivial⟩
end Go.Proofs.Ytlgabdamgalngaa
