/-
  Contracts of the reference of layer 1: wide products, roots, quotients.
-/
import Derived.Test.YtlgabdamgalngaaRefA
import Derived.Test.YtlgabdamgalngaaE
import Derived.BigQuiet
import Derived.Deep.QuietTactic
set_option linter.unusedVariables false
set_option linter.unusedSimpArgs false
namespace Go.Proofs.Ytlgabdamgalngaa
open Go.ChangeShapes Go.WideShapes Go.ChangeAt Go.RowKit

theorem dig_lt0 {x y : Int} (h : M.g0 x < M.g0 y) : x < y := by
  have a := M.gsum x; have b := M.gsum y; have c := M.g_bd x; have d := M.g_bd y; omega
theorem dig_lt1 {x y : Int} (e0 : M.g0 x = M.g0 y) (h : M.g1 x < M.g1 y) : x < y := by
  have a := M.gsum x; have b := M.gsum y; have c := M.g_bd x; have d := M.g_bd y; omega
theorem dig_lt2 {x y : Int} (e0 : M.g0 x = M.g0 y) (e1 : M.g1 x = M.g1 y) (h : M.g2 x < M.g2 y) : x < y := by
  have a := M.gsum x; have b := M.gsum y; have c := M.g_bd x; have d := M.g_bd y; omega
theorem dig_lt3 {x y : Int} (e0 : M.g0 x = M.g0 y) (e1 : M.g1 x = M.g1 y) (e2 : M.g2 x = M.g2 y) (h : M.g3 x < M.g3 y) : x < y := by
  have a := M.gsum x; have b := M.gsum y; have c := M.g_bd x; have d := M.g_bd y; omega
theorem dig_eq {x y : Int} (e0 : M.g0 x = M.g0 y) (e1 : M.g1 x = M.g1 y) (e2 : M.g2 x = M.g2 y) (e3 : M.g3 x = M.g3 y) : x = y := by
  have a := M.gsum x; have b := M.gsum y; omega

end Go.Proofs.Ytlgabdamgalngaa
