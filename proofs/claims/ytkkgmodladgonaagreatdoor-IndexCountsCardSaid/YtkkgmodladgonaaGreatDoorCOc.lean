/-
  Part of a claim: the reckoner and contracts.
-/
import Derived.Test.YtkkgmodladgonaaGreatDoorCOb
set_option linter.unusedVariables false
set_option linter.unusedSimpArgs false
set_option maxRecDepth 100000
section
set_option maxRecDepth 100000
namespace Go.Proofs.YtkkgmodladgonaaGreatDoor
open Go Go.RowKit Go.Proofs.YtkkgmodladgonaaGreatDoor.E2
theorem tdBetween_int64_1 (n lo hi : Int) (f0 : lo ≤ n) : Ret cfx 35 [.raw (.int .i64 n), .raw (.int .i64 lo), .raw (.int .i64 hi)] (V.raw (.bool (decide (n ≤ hi)))) := by
  exact fn_of cfx_mixed cfx_call cfx_base.1 cfx_base.2.1 cfx_base.2.2 (n := 40) (ans := [Ans.go, Ans.br true, Ans.br true]) (cons := [(decide (lo ≤ n) = true), (true = true)]) (by kernel_rfl) rfl rfl
    ⟨(by first | assumption | (simp only [decide_eq_true_eq, decide_eq_false_iff_not, Bool.not_eq_true', Bool.not_eq_false']; first | assumption | omega) | (simp only [decide_eq_true_eq, decide_eq_false_iff_not, Bool.not_eq_true', Bool.not_eq_false']; done) | omega | (simp_all; done) | (simp_all; omega)), rfl, trivial⟩
theorem tdBetween_int64_2 (n lo hi : Int) (f0 : ¬lo ≤ n) : Ret cfx 35 [.raw (.int .i64 n), .raw (.int .i64 lo), .raw (.int .i64 hi)] (V.raw (.bool false)) := by
  exact fn_of cfx_mixed cfx_call cfx_base.1 cfx_base.2.1 cfx_base.2.2 (n := 40) (ans := [Ans.go, Ans.br false, Ans.br false]) (cons := [(decide (lo ≤ n) = false), (false = false)]) (by kernel_rfl) rfl rfl
    ⟨(by first | assumption | (simp only [decide_eq_true_eq, decide_eq_false_iff_not, Bool.not_eq_true', Bool.not_eq_false']; first | assumption | omega) | (simp only [decide_eq_true_eq, decide_eq_false_iff_not, Bool.not_eq_true', Bool.not_eq_false']; done) | omega | (simp_all; done) | (simp_all; omega)), rfl, trivial⟩
theorem tdBetween_int64 (n lo hi : Int) : Ret cfx 35 [.raw (.int .i64 n), .raw (.int .i64 lo), .raw (.int .i64 hi)] (.raw (.bool (decide (lo ≤ n ∧ n ≤ hi)))) := by
  by_cases f0 : lo ≤ n
  ·
    have e : (.raw (.bool (decide (lo ≤ n ∧ n ≤ hi))) : V) = V.raw (.bool (decide (n ≤ hi))) := by (congr 2; rw [Bool.eq_iff_iff]; simp; omega)
    rw [e]
    exact tdBetween_int64_1 n lo hi f0
  ·
    have e : (.raw (.bool (decide (lo ≤ n ∧ n ≤ hi))) : V) = V.raw (.bool false) := by (congr 2; rw [Bool.eq_iff_iff]; simp; omega)
    rw [e]
    exact tdBetween_int64_2 n lo hi f0
theorem tdBetween_int_1 (n lo hi : Int) (f0 : lo ≤ n) : Ret cfx 41 [.raw (.int .i64 n), .raw (.int .i64 lo), .raw (.int .i64 hi)] (V.raw (.bool (decide (n ≤ hi)))) := by
  exact fn_of cfx_mixed cfx_call cfx_base.1 cfx_base.2.1 cfx_base.2.2 (n := 40) (ans := [Ans.go, Ans.br true, Ans.br true]) (cons := [(decide (lo ≤ n) = true), (true = true)]) (by kernel_rfl) rfl rfl
    ⟨(by first | assumption | (simp only [decide_eq_true_eq, decide_eq_false_iff_not, Bool.not_eq_true', Bool.not_eq_false']; first | assumption | omega) | (simp only [decide_eq_true_eq, decide_eq_false_iff_not, Bool.not_eq_true', Bool.not_eq_false']; done) | omega | (simp_all; done) | (simp_all; omega)), rfl, trivial⟩
theorem tdBetween_int_2 (n lo hi : Int) (f0 : ¬lo ≤ n) : Ret cfx 41 [.raw (.int .i64 n), .raw (.int .i64 lo), .raw (.int .i64 hi)] (V.raw (.bool false)) := by
  exact fn_of cfx_mixed cfx_call cfx_base.1 cfx_base.2.1 cfx_base.2.2 (n := 40) (ans := [Ans.go, Ans.br false, Ans.br false]) (cons := [(decide (lo ≤ n) = false), (false = false)]) (by kernel_rfl) rfl rfl
    ⟨(by first | assumption | (simp only [decide_eq_true_eq, decide_eq_false_iff_not, Bool.not_eq_true', Bool.not_eq_false']; first | assumption | omega) | (simp only [decide_eq_true_eq, decide_eq_false_iff_not, Bool.not_eq_true', Bool.not_eq_false']; done) | omega | (simp_all; done) | (simp_all; omega)), rfl, trivial⟩
theorem tdBetween_int (n lo hi : Int) : Ret cfx 41 [.raw (.int .i64 n), .raw (.int .i64 lo), .raw (.int .i64 hi)] (.raw (.bool (decide (lo ≤ n ∧ n ≤ hi)))) := by
  by_cases f0 : lo ≤ n
  ·
    have e : (.raw (.bool (decide (lo ≤ n ∧ n ≤ hi))) : V) = V.raw (.bool (decide (n ≤ hi))) := by (congr 2; rw [Bool.eq_iff_iff]; simp; omega)
    rw [e]
    exact tdBetween_int_1 n lo hi f0
  ·
    have e : (.raw (.bool (decide (lo ≤ n ∧ n ≤ hi))) : V) = V.raw (.bool false) := by (congr 2; rw [Bool.eq_iff_iff]; simp; omega)
    rw [e]
    exact tdBetween_int_2 n lo hi f0
theorem tdBetween_byte_1 (n lo hi : Int) (f0 : lo ≤ n) : Ret cfx 57 [.raw (.int .u8 n), .raw (.int .u8 lo), .raw (.int .u8 hi)] (V.raw (.bool (decide (n ≤ hi)))) := by
  exact fn_of cfx_mixed cfx_call cfx_base.1 cfx_base.2.1 cfx_base.2.2 (n := 40) (ans := [Ans.go, Ans.br true, Ans.br true]) (cons := [(decide (lo ≤ n) = true), (true = true)]) (by kernel_rfl) rfl rfl
    ⟨(by first | assumption | (simp only [decide_eq_true_eq, decide_eq_false_iff_not, Bool.not_eq_true', Bool.not_eq_false']; first | assumption | omega) | (simp only [decide_eq_true_eq, decide_eq_false_iff_not, Bool.not_eq_true', Bool.not_eq_false']; done) | omega | (simp_all; done) | (simp_all; omega)), rfl, trivial⟩
theorem tdBetween_byte_2 (n lo hi : Int) (f0 : ¬lo ≤ n) : Ret cfx 57 [.raw (.int .u8 n), .raw (.int .u8 lo), .raw (.int .u8 hi)] (V.raw (.bool false)) := by
  exact fn_of cfx_mixed cfx_call cfx_base.1 cfx_base.2.1 cfx_base.2.2 (n := 40) (ans := [Ans.go, Ans.br false, Ans.br false]) (cons := [(decide (lo ≤ n) = false), (false = false)]) (by kernel_rfl) rfl rfl
    ⟨(by first | assumption | (simp only [decide_eq_true_eq, decide_eq_false_iff_not, Bool.not_eq_true', Bool.not_eq_false']; first | assumption | omega) | (simp only [decide_eq_true_eq, decide_eq_false_iff_not, Bool.not_eq_true', Bool.not_eq_false']; done) | omega | (simp_all; done) | (simp_all; omega)), rfl, trivial⟩
theorem tdBetween_byte (n lo hi : Int) : Ret cfx 57 [.raw (.int .u8 n), .raw (.int .u8 lo), .raw (.int .u8 hi)] (.raw (.bool (decide (lo ≤ n ∧ n ≤ hi)))) := by
  by_cases f0 : lo ≤ n
  ·
    have e : (.raw (.bool (decide (lo ≤ n ∧ n ≤ hi))) : V) = V.raw (.bool (decide (n ≤ hi))) := by (congr 2; rw [Bool.eq_iff_iff]; simp; omega)
    rw [e]
    exact tdBetween_byte_1 n lo hi f0
  ·
    have e : (.raw (.bool (decide (lo ≤ n ∧ n ≤ hi))) : V) = V.raw (.bool false) := by (congr 2; rw [Bool.eq_iff_iff]; simp; omega)
    rw [e]
    exact tdBetween_byte_2 n lo hi f0
theorem tdIsIndex_1 (n : Int)  : Ret cfx 18 [.raw (.int .i64 n)] (V.raw (.bool (decide ((-10000 : Int) ≤ n ∧ n ≤ (10000 : Int))))) := by
  exact fn_of cfx_mixed cfx_call cfx_base.1 cfx_base.2.1 cfx_base.2.2 (n := 40) (ans := [Ans.go, Ans.ret (V.raw (.bool (decide ((-10000 : Int) ≤ n ∧ n ≤ (10000 : Int)))))]) (cons := [(Ret cfx (35 : Nat) [iV n, iV (-10000 : Int), iV (10000 : Int)] (V.raw (.bool (decide ((-10000 : Int) ≤ n ∧ n ≤ (10000 : Int))))))]) (by kernel_rfl) rfl rfl
    ⟨(tdBetween_int64 _ _ _), trivial⟩
theorem tdIsIndex (n : Int) : Ret cfx 18 [.raw (.int .i64 n)] (.raw (.bool (decide (-10000 ≤ n ∧ n ≤ 10000)))) := by
  have e : (.raw (.bool (decide (-10000 ≤ n ∧ n ≤ 10000))) : V) = V.raw (.bool (decide ((-10000 : Int) ≤ n ∧ n ≤ (10000 : Int)))) := by (first | rfl | (congr 2; done) | (congr 2; rw [Bool.eq_iff_iff]; simp))
  rw [e]
  exact tdIsIndex_1 n
theorem tdIsGrade_1 (n : Int)  : Ret cfx 22 [.raw (.int .i64 n)] (V.raw (.bool (decide ((-12 : Int) ≤ n ∧ n ≤ (48 : Int))))) := by
  exact fn_of cfx_mixed cfx_call cfx_base.1 cfx_base.2.1 cfx_base.2.2 (n := 40) (ans := [Ans.go, Ans.ret (V.raw (.bool (decide ((-12 : Int) ≤ n ∧ n ≤ (48 : Int)))))]) (cons := [(Ret cfx (41 : Nat) [iV n, iV (-12 : Int), iV (48 : Int)] (V.raw (.bool (decide ((-12 : Int) ≤ n ∧ n ≤ (48 : Int))))))]) (by kernel_rfl) rfl rfl
    ⟨(tdBetween_int _ _ _), trivial⟩
theorem tdIsGrade (n : Int) : Ret cfx 22 [.raw (.int .i64 n)] (.raw (.bool (decide (-12 ≤ n ∧ n ≤ 48)))) := by
  have e : (.raw (.bool (decide (-12 ≤ n ∧ n ≤ 48))) : V) = V.raw (.bool (decide ((-12 : Int) ≤ n ∧ n ≤ (48 : Int)))) := by (first | rfl | (congr 2; done) | (congr 2; rw [Bool.eq_iff_iff]; simp))
  rw [e]
  exact tdIsGrade_1 n
theorem tdTrig_1 (g : Int) (h1 : -13 ≤ g) (h2 : g ≤ 49) (f0 : g ≤ (0 : Int)) : Ret cfx 23 [.raw (.int .i64 g)] (iV ((2000 : Int) - (40 : Int) * g)) := by
  exact fn_of cfx_mixed cfx_call cfx_base.1 cfx_base.2.1 cfx_base.2.2 (n := 40) (ans := [Ans.go, Ans.br true]) (cons := [(decide (g ≤ (0 : Int)) = true), (inR IntKind.i64 ((40 : Int) * g)), (inR IntKind.i64 ((2000 : Int) - (40 : Int) * g))]) (by kernel_rfl) rfl rfl
    ⟨(by first | omega | (simp; omega) | (simp_all; omega)), inR_i64 (by omega) (by omega), inR_i64 (by omega) (by omega), trivial⟩
theorem tdTrig_2 (g : Int) (h1 : -13 ≤ g) (h2 : g ≤ 49) (f0 : ¬g ≤ (0 : Int)) : Ret cfx 23 [.raw (.int .i64 g)] (iV ((2000 : Int) - (50 : Int) * g)) := by
  exact fn_of cfx_mixed cfx_call cfx_base.1 cfx_base.2.1 cfx_base.2.2 (n := 40) (ans := [Ans.go, Ans.br false]) (cons := [(decide (g ≤ (0 : Int)) = false), (inR IntKind.i64 ((50 : Int) * g)), (inR IntKind.i64 ((2000 : Int) - (50 : Int) * g))]) (by kernel_rfl) rfl rfl
    ⟨(by first | omega | (simp; omega) | (simp_all; omega)), inR_i64 (by omega) (by omega), inR_i64 (by omega) (by omega), trivial⟩
theorem tdTrig (g : Int) (h1 : -13 ≤ g) (h2 : g ≤ 49) : Ret cfx 23 [.raw (.int .i64 g)] (.raw (.int .i64 (M.trig g))) := by
  by_cases f0 : g ≤ (0 : Int)
  ·
    have e : (.raw (.int .i64 (M.trig g)) : V) = (iV ((2000 : Int) - (40 : Int) * g)) := by (unfold M.trig; first | rw [if_pos (by omega)] | rw [if_neg (by omega)])
    rw [e]
    exact tdTrig_1 g h1 h2 f0
  ·
    have e : (.raw (.int .i64 (M.trig g)) : V) = (iV ((2000 : Int) - (50 : Int) * g)) := by (unfold M.trig; first | rw [if_pos (by omega)] | rw [if_neg (by omega)])
    rw [e]
    exact tdTrig_2 g h1 h2 f0
theorem tdBet_1 (s : ByteArray) (i g : Int) (h1 : -12 ≤ g) (h2 : g ≤ 48) (f0 : (-12 : Int) < g) (f1 : M.trig (g - (1 : Int)) ≤ i) : Ret cfx 59 [.raw (.agg #[.string s, .int .i64 i, .int .i64 g])] (V.raw (.agg { toList := [Value.string s, .int .i64 i, .int .i64 (g - (1 : Int))] })) := by
  exact fn_of cfx_mixed cfx_call cfx_base.1 cfx_base.2.1 cfx_base.2.2 (n := 40) (ans := [Ans.go, Ans.olds [], Ans.br true, Ans.br true, Ans.br true, Ans.br true, Ans.br true, Ans.br true, Ans.ret (iV (M.trig (g - (1 : Int)))), Ans.br true, Ans.br true, Ans.br true]) (cons := [(decide ((-12 : Int) < g) = true), (decide ((-12 : Int) < g) = true), (decide ((-12 : Int) < g) = true), (decide ((-12 : Int) < g) = true), (decide ((-12 : Int) < g) = true), (inR IntKind.i64 (g - (1 : Int))), (decide ((-12 : Int) < g) = true), (Ret cfx (23 : Nat) [iV (g - (1 : Int))] (iV (M.trig (g - (1 : Int))))), (decide ((-12 : Int) < g) = true), (decide ((-12 : Int) < g) = true), (decide (M.trig (g - (1 : Int)) ≤ i) = true), (inR IntKind.i64 (g - (1 : Int)))]) (by kernel_rfl) rfl rfl
    ⟨(by first | omega | (simp; omega) | (simp_all; omega)), (by first | omega | (simp; omega) | (simp_all; omega)), (by first | omega | (simp; omega) | (simp_all; omega)), (by first | omega | (simp; omega) | (simp_all; omega)), (by first | omega | (simp; omega) | (simp_all; omega)), inR_i64 (by omega) (by omega), (by first | omega | (simp; omega) | (simp_all; omega)), (tdTrig _ (by omega) (by omega)), (by first | omega | (simp; omega) | (simp_all; omega)), (by first | omega | (simp; omega) | (simp_all; omega)), (by first | omega | (simp; omega) | (simp_all; omega)), inR_i64 (by omega) (by omega), trivial⟩
theorem tdBet_2 (s : ByteArray) (i g : Int) (h1 : -12 ≤ g) (h2 : g ≤ 48) (f0 : (-12 : Int) < g) (f1 : ¬M.trig (g - (1 : Int)) ≤ i) : Ret cfx 59 [.raw (.agg #[.string s, .int .i64 i, .int .i64 g])] (V.raw (.agg { toList := [Value.string s, .int .i64 i, .int .i64 g] })) := by
  exact fn_of cfx_mixed cfx_call cfx_base.1 cfx_base.2.1 cfx_base.2.2 (n := 40) (ans := [Ans.go, Ans.olds [], Ans.br true, Ans.br true, Ans.br true, Ans.br true, Ans.br true, Ans.br true, Ans.ret (iV (M.trig (g - (1 : Int)))), Ans.br true, Ans.br true, Ans.br false]) (cons := [(decide ((-12 : Int) < g) = true), (decide ((-12 : Int) < g) = true), (decide ((-12 : Int) < g) = true), (decide ((-12 : Int) < g) = true), (decide ((-12 : Int) < g) = true), (inR IntKind.i64 (g - (1 : Int))), (decide ((-12 : Int) < g) = true), (Ret cfx (23 : Nat) [iV (g - (1 : Int))] (iV (M.trig (g - (1 : Int))))), (decide ((-12 : Int) < g) = true), (decide ((-12 : Int) < g) = true), (decide (M.trig (g - (1 : Int)) ≤ i) = false)]) (by kernel_rfl) rfl rfl
    ⟨(by first | omega | (simp; omega) | (simp_all; omega)), (by first | omega | (simp; omega) | (simp_all; omega)), (by first | omega | (simp; omega) | (simp_all; omega)), (by first | omega | (simp; omega) | (simp_all; omega)), (by first | omega | (simp; omega) | (simp_all; omega)), inR_i64 (by omega) (by omega), (by first | omega | (simp; omega) | (simp_all; omega)), (tdTrig _ (by omega) (by omega)), (by first | omega | (simp; omega) | (simp_all; omega)), (by first | omega | (simp; omega) | (simp_all; omega)), (by first | omega | (simp; omega) | (simp_all; omega)), trivial⟩
theorem tdBet_3 (s : ByteArray) (i g : Int) (h1 : -12 ≤ g) (h2 : g ≤ 48) (f0 : ¬(-12 : Int) < g) : Ret cfx 59 [.raw (.agg #[.string s, .int .i64 i, .int .i64 g])] (V.raw (.agg { toList := [Value.string s, .int .i64 i, .int .i64 g] })) := by
  exact fn_of cfx_mixed cfx_call cfx_base.1 cfx_base.2.1 cfx_base.2.2 (n := 40) (ans := [Ans.go, Ans.olds [], Ans.br false, Ans.br false, Ans.br false, Ans.br false, Ans.br false, Ans.br false, Ans.br false, Ans.br false, Ans.br false]) (cons := [(decide ((-12 : Int) < g) = false), (decide ((-12 : Int) < g) = false), (decide ((-12 : Int) < g) = false), (decide ((-12 : Int) < g) = false), (decide ((-12 : Int) < g) = false), (decide ((-12 : Int) < g) = false), (decide ((-12 : Int) < g) = false), (decide ((-12 : Int) < g) = false), (false = false)]) (by kernel_rfl) rfl rfl
    ⟨(by first | omega | (simp; omega) | (simp_all; omega)), (by first | omega | (simp; omega) | (simp_all; omega)), (by first | omega | (simp; omega) | (simp_all; omega)), (by first | omega | (simp; omega) | (simp_all; omega)), (by first | omega | (simp; omega) | (simp_all; omega)), (by first | omega | (simp; omega) | (simp_all; omega)), (by first | omega | (simp; omega) | (simp_all; omega)), (by first | omega | (simp; omega) | (simp_all; omega)), rfl, trivial⟩
theorem tdBet (s : ByteArray) (i g : Int) (h1 : -12 ≤ g) (h2 : g ≤ 48) : Ret cfx 59 [.raw (.agg #[.string s, .int .i64 i, .int .i64 g])] (.raw (.agg #[.string s, .int .i64 i, .int .i64 (M.betG i g)])) := by
  by_cases f0 : (-12 : Int) < g
  ·
    by_cases f1 : M.trig (g - (1 : Int)) ≤ i
    ·
      have e : (.raw (.agg #[.string s, .int .i64 i, .int .i64 (M.betG i g)]) : V) = V.raw (.agg { toList := [Value.string s, .int .i64 i, .int .i64 (g - (1 : Int))] }) := by (unfold M.betG; first | rw [if_pos (by omega)] | rw [if_neg (by omega)])
      rw [e]
      exact tdBet_1 s i g h1 h2 f0 f1
    ·
      have e : (.raw (.agg #[.string s, .int .i64 i, .int .i64 (M.betG i g)]) : V) = V.raw (.agg { toList := [Value.string s, .int .i64 i, .int .i64 g] }) := by (unfold M.betG; first | rw [if_pos (by omega)] | rw [if_neg (by omega)])
      rw [e]
      exact tdBet_2 s i g h1 h2 f0 f1
  ·
    have e : (.raw (.agg #[.string s, .int .i64 i, .int .i64 (M.betG i g)]) : V) = V.raw (.agg { toList := [Value.string s, .int .i64 i, .int .i64 g] }) := by (unfold M.betG; first | rw [if_pos (by omega)] | rw [if_neg (by omega)])
    rw [e]
    exact tdBet_3 s i g h1 h2 f0
theorem tdWor_1 (s : ByteArray) (i g : Int) (h1 : -12 ≤ g) (h2 : g ≤ 48) (f0 : g < (48 : Int)) (f1 : i ≤ M.trig (g + (1 : Int))) : Ret cfx 60 [.raw (.agg #[.string s, .int .i64 i, .int .i64 g])] (V.raw (.agg { toList := [Value.string s, .int .i64 i, .int .i64 (g + (1 : Int))] })) := by
  exact fn_of cfx_mixed cfx_call cfx_base.1 cfx_base.2.1 cfx_base.2.2 (n := 40) (ans := [Ans.go, Ans.olds [], Ans.br true, Ans.br true, Ans.br true, Ans.br true, Ans.br true, Ans.br true, Ans.ret (iV (M.trig (g + (1 : Int)))), Ans.br true, Ans.br true, Ans.br true]) (cons := [(decide (g < (48 : Int)) = true), (decide (g < (48 : Int)) = true), (decide (g < (48 : Int)) = true), (decide (g < (48 : Int)) = true), (decide (g < (48 : Int)) = true), (inR IntKind.i64 (g + (1 : Int))), (decide (g < (48 : Int)) = true), (Ret cfx (23 : Nat) [iV (g + (1 : Int))] (iV (M.trig (g + (1 : Int))))), (decide (g < (48 : Int)) = true), (decide (g < (48 : Int)) = true), (decide (i ≤ M.trig (g + (1 : Int))) = true), (inR IntKind.i64 (g + (1 : Int)))]) (by kernel_rfl) rfl rfl
    ⟨(by first | omega | (simp; omega) | (simp_all; omega)), (by first | omega | (simp; omega) | (simp_all; omega)), (by first | omega | (simp; omega) | (simp_all; omega)), (by first | omega | (simp; omega) | (simp_all; omega)), (by first | omega | (simp; omega) | (simp_all; omega)), inR_i64 (by omega) (by omega), (by first | omega | (simp; omega) | (simp_all; omega)), (tdTrig _ (by omega) (by omega)), (by first | omega | (simp; omega) | (simp_all; omega)), (by first | omega | (simp; omega) | (simp_all; omega)), (by first | omega | (simp; omega) | (simp_all; omega)), inR_i64 (by omega) (by omega), trivial⟩
theorem tdWor_2 (s : ByteArray) (i g : Int) (h1 : -12 ≤ g) (h2 : g ≤ 48) (f0 : g < (48 : Int)) (f1 : ¬i ≤ M.trig (g + (1 : Int))) : Ret cfx 60 [.raw (.agg #[.string s, .int .i64 i, .int .i64 g])] (V.raw (.agg { toList := [Value.string s, .int .i64 i, .int .i64 g] })) := by
  exact fn_of cfx_mixed cfx_call cfx_base.1 cfx_base.2.1 cfx_base.2.2 (n := 40) (ans := [Ans.go, Ans.olds [], Ans.br true, Ans.br true, Ans.br true, Ans.br true, Ans.br true, Ans.br true, Ans.ret (iV (M.trig (g + (1 : Int)))), Ans.br true, Ans.br true, Ans.br false]) (cons := [(decide (g < (48 : Int)) = true), (decide (g < (48 : Int)) = true), (decide (g < (48 : Int)) = true), (decide (g < (48 : Int)) = true), (decide (g < (48 : Int)) = true), (inR IntKind.i64 (g + (1 : Int))), (decide (g < (48 : Int)) = true), (Ret cfx (23 : Nat) [iV (g + (1 : Int))] (iV (M.trig (g + (1 : Int))))), (decide (g < (48 : Int)) = true), (decide (g < (48 : Int)) = true), (decide (i ≤ M.trig (g + (1 : Int))) = false)]) (by kernel_rfl) rfl rfl
    ⟨(by first | omega | (simp; omega) | (simp_all; omega)), (by first | omega | (simp; omega) | (simp_all; omega)), (by first | omega | (simp; omega) | (simp_all; omega)), (by first | omega | (simp; omega) | (simp_all; omega)), (by first | omega | (simp; omega) | (simp_all; omega)), inR_i64 (by omega) (by omega), (by first | omega | (simp; omega) | (simp_all; omega)), (tdTrig _ (by omega) (by omega)), (by first | omega | (simp; omega) | (simp_all; omega)), (by first | omega | (simp; omega) | (simp_all; omega)), (by first | omega | (simp; omega) | (simp_all; omega)), trivial⟩
theorem tdWor_3 (s : ByteArray) (i g : Int) (h1 : -12 ≤ g) (h2 : g ≤ 48) (f0 : ¬g < (48 : Int)) : Ret cfx 60 [.raw (.agg #[.string s, .int .i64 i, .int .i64 g])] (V.raw (.agg { toList := [Value.string s, .int .i64 i, .int .i64 g] })) := by
  exact fn_of cfx_mixed cfx_call cfx_base.1 cfx_base.2.1 cfx_base.2.2 (n := 40) (ans := [Ans.go, Ans.olds [], Ans.br false, Ans.br false, Ans.br false, Ans.br false, Ans.br false, Ans.br false, Ans.br false, Ans.br false, Ans.br false]) (cons := [(decide (g < (48 : Int)) = false), (decide (g < (48 : Int)) = false), (decide (g < (48 : Int)) = false), (decide (g < (48 : Int)) = false), (decide (g < (48 : Int)) = false), (decide (g < (48 : Int)) = false), (decide (g < (48 : Int)) = false), (decide (g < (48 : Int)) = false), (false = false)]) (by kernel_rfl) rfl rfl
    ⟨(by first | omega | (simp; omega) | (simp_all; omega)), (by first | omega | (simp; omega) | (simp_all; omega)), (by first | omega | (simp; omega) | (simp_all; omega)), (by first | omega | (simp; omega) | (simp_all; omega)), (by first | omega | (simp; omega) | (simp_all; omega)), (by first | omega | (simp; omega) | (simp_all; omega)), (by first | omega | (simp; omega) | (simp_all; omega)), (by first | omega | (simp; omega) | (simp_all; omega)), rfl, trivial⟩
theorem tdWor (s : ByteArray) (i g : Int) (h1 : -12 ≤ g) (h2 : g ≤ 48) : Ret cfx 60 [.raw (.agg #[.string s, .int .i64 i, .int .i64 g])] (.raw (.agg #[.string s, .int .i64 i, .int .i64 (M.worG i g)])) := by
  by_cases f0 : g < (48 : Int)
  ·
    by_cases f1 : i ≤ M.trig (g + (1 : Int))
    ·
      have e : (.raw (.agg #[.string s, .int .i64 i, .int .i64 (M.worG i g)]) : V) = V.raw (.agg { toList := [Value.string s, .int .i64 i, .int .i64 (g + (1 : Int))] }) := by (unfold M.worG; first | rw [if_pos (by omega)] | rw [if_neg (by omega)])
      rw [e]
      exact tdWor_1 s i g h1 h2 f0 f1
    ·
      have e : (.raw (.agg #[.string s, .int .i64 i, .int .i64 (M.worG i g)]) : V) = V.raw (.agg { toList := [Value.string s, .int .i64 i, .int .i64 g] }) := by (unfold M.worG; first | rw [if_pos (by omega)] | rw [if_neg (by omega)])
      rw [e]
      exact tdWor_2 s i g h1 h2 f0 f1
  ·
    have e : (.raw (.agg #[.string s, .int .i64 i, .int .i64 (M.worG i g)]) : V) = V.raw (.agg { toList := [Value.string s, .int .i64 i, .int .i64 g] }) := by (unfold M.worG; first | rw [if_pos (by omega)] | rw [if_neg (by omega)])
    rw [e]
    exact tdWor_3 s i g h1 h2 f0
theorem tdTrigger_1 (g : Int) (f0 : ¬((-12 : Int) ≤ g ∧ g ≤ (48 : Int))) : Ret cfx 7 [.raw (.int .i64 g)] (V.raw (.tuple { toList := [.int .i64 (0 : Int), .int .i64 (3 : Int)] })) := by
  exact fn_of cfx_mixed cfx_call cfx_base.1 cfx_base.2.1 cfx_base.2.2 (n := 40) (ans := [Ans.go, Ans.ret (V.raw (.bool (decide ((-12 : Int) ≤ g ∧ g ≤ (48 : Int))))), Ans.br true]) (cons := [(Ret cfx (22 : Nat) [iV g] (V.raw (.bool (decide ((-12 : Int) ≤ g ∧ g ≤ (48 : Int)))))), ((!decide ((-12 : Int) ≤ g ∧ g ≤ (48 : Int))) = true)]) (by kernel_rfl) rfl rfl
    ⟨(tdIsGrade _), (by first | assumption | (simp only [decide_eq_true_eq, decide_eq_false_iff_not, Bool.not_eq_true', Bool.not_eq_false']; first | assumption | omega) | (simp only [decide_eq_true_eq, decide_eq_false_iff_not, Bool.not_eq_true', Bool.not_eq_false']; done) | omega | (simp_all; done) | (simp_all; omega)), trivial⟩
theorem tdTrigger_2 (g : Int) (f0 : (-12 : Int) ≤ g ∧ g ≤ (48 : Int)) : Ret cfx 7 [.raw (.int .i64 g)] (V.raw (.tuple { toList := [.int .i64 (M.trig g), .int .i64 (0 : Int)] })) := by
  exact fn_of cfx_mixed cfx_call cfx_base.1 cfx_base.2.1 cfx_base.2.2 (n := 40) (ans := [Ans.go, Ans.ret (V.raw (.bool (decide ((-12 : Int) ≤ g ∧ g ≤ (48 : Int))))), Ans.br false, Ans.ret (iV (M.trig g))]) (cons := [(Ret cfx (22 : Nat) [iV g] (V.raw (.bool (decide ((-12 : Int) ≤ g ∧ g ≤ (48 : Int)))))), ((!decide ((-12 : Int) ≤ g ∧ g ≤ (48 : Int))) = false), (Ret cfx (23 : Nat) [iV g] (iV (M.trig g)))]) (by kernel_rfl) rfl rfl
    ⟨(tdIsGrade _), (by first | assumption | (simp only [decide_eq_true_eq, decide_eq_false_iff_not, Bool.not_eq_true', Bool.not_eq_false']; first | assumption | omega) | (simp only [decide_eq_true_eq, decide_eq_false_iff_not, Bool.not_eq_true', Bool.not_eq_false']; done) | omega | (simp_all; done) | (simp_all; omega)), (tdTrig _ (by omega) (by omega)), trivial⟩
end Go.Proofs.YtkkgmodladgonaaGreatDoor
end
section
set_option maxRecDepth 100000
namespace Go.Proofs.YtkkgmodladgonaaGreatDoor
open Go Go.RowKit Go.Proofs.YtkkgmodladgonaaGreatDoor.E2
def agb_T (s : ByteArray) (i g : Int) (p q : Int) : List V := [V.raw (.agg { toList := [Value.string s, .int .i64 i, .int .i64 g] }), V.fn (Fn.func (59 : Nat)) [] [], .ptr 0 0, uV, .ptr 1 0, .ptr 3 0, .any 6, .any 7, .any 8, .any 9, .any 10, .any 11, .any 12, .any 13, .any 14, .any 15, .any 16, .any 17]
def agb_H (s : ByteArray) (i g : Int) (p q : Int) : Heap := [some (.cells [V.raw (Value.string s), iV i, iV p] 23 .rw), some (.cells [V.raw (Value.string { data := #[] }), iV (0 : Int), iV (0 : Int)] 23 .rw), none, some (.cells [V.raw (Value.string s), iV i, iV q] 23 .rw)]
theorem agb_1 (s : ByteArray) (i g : Int) (h1 : -12 ≤ g) (h2 : g ≤ 48) (h3 : -12 ≤ M.betG i g) (h4 : M.betG i g ≤ 48) (p q : Int) (hp1 : -12 ≤ p) (hp2 : p ≤ 48) (hq1 : -12 ≤ q) (hq2 : q ≤ 48) (f0 : (s == s && (decide (i = i) && (decide (q = p) && true))) = false) : Runs cfx 0 3 none (loopOf cfx.P 58 0) (agb_T s i g p q) (agb_H s i g p q) (Ex.normal) (agb_T s i g q (M.betG i q)) (agb_H s i g q (M.betG i q)) := by
  refine Runs.post (t1 := [V.raw (.agg { toList := [Value.string s, .int .i64 i, .int .i64 g] }), V.fn (Fn.func (59 : Nat)) [] [], .ptr 0 0, uV, .ptr 1 0, .ptr 4 0, .any 6, .any 7, .any 8, V.raw (.agg { toList := [Value.string s, .int .i64 i, .int .i64 q] }), V.raw (.agg { toList := [Value.string s, .int .i64 i, .int .i64 p] }), V.raw (.bool !(s == s && (decide (i = i) && (decide (q = p) && true)))), V.fn (Fn.func (59 : Nat)) [] [], V.raw (.agg { toList := [Value.string s, .int .i64 i, .int .i64 q] }), V.raw (.agg { toList := [Value.string s, .int .i64 i, .int .i64 (M.betG i q)] }), V.raw (.agg { toList := [Value.string s, .int .i64 i, .int .i64 q] }), V.raw (.agg { toList := [Value.string s, .int .i64 i, .int .i64 q] }), .any 17]) (h1 := [some (.cells [V.raw (Value.string s), iV i, iV q] 23 .rw), some (.cells [V.raw (Value.string { data := #[] }), iV (0 : Int), iV (0 : Int)] 23 .rw), none, some (.cells [V.raw (Value.string s), iV i, iV q] 23 .rw), some (.cells [V.raw (Value.string s), iV i, iV (M.betG i q)] 23 .rw)]) (body_of cfx_mixed cfx_call (Nat.zero_le _) (rnd := none) (fi := 0) (k := 0) (n := 40) (n0 := 3) (ans := [Ans.br true, Ans.ret (V.raw (.agg { toList := [Value.string s, .int .i64 i, .int .i64 (M.betG i q)] }))]) (cons := [((!(s == s && (decide (i = i) && (decide (q = p) && true)))) = true), (Ret cfx (59 : Nat) [V.raw (.agg { toList := [Value.string s, .int .i64 i, .int .i64 q] })] (V.raw (.agg { toList := [Value.string s, .int .i64 i, .int .i64 (M.betG i q)] })))]) (by kernel_rfl)
    ⟨(by rw [f0]; rfl), (tdBet _ _ _ (by omega) (by omega)), trivial⟩ (Nat.le_of_ble_eq_true rfl) (Nat.le_of_ble_eq_true rfl) noRnd (noRanges (by kernel_rfl))) (fun RT RH => reshape2 (lim := 0) 3 cfx_G rfl [some 4] (by kernel_rfl) (by kernel_rfl) (by exact (ents_say rfl rfl rfl rfl (ents_say rfl rfl rfl rfl (ents_none (ents_say rfl rfl rfl rfl (ents_nil)))))) RT RH)
def agb_T2 (s : ByteArray) (i g : Int) (p q : Int) : List V := [V.raw (.agg { toList := [Value.string s, .int .i64 i, .int .i64 g] }), V.fn (Fn.func (59 : Nat)) [] [], .ptr 0 0, uV, .ptr 1 0, .ptr 3 0, .any 6, .any 7, .any 8, .any 9, .any 10, .any 11, .any 12, .any 13, .any 14, .any 15, .any 16, .any 17]
def agb_H2 (s : ByteArray) (i g : Int) (p q : Int) : Heap := [some (.cells [V.raw (Value.string s), iV i, iV p] 23 .rw), some (.cells [V.raw (Value.string { data := #[] }), iV (0 : Int), iV (0 : Int)] 23 .rw), none, some (.cells [V.raw (Value.string s), iV i, iV q] 23 .rw)]
theorem agb_2 (s : ByteArray) (i g : Int) (h1 : -12 ≤ g) (h2 : g ≤ 48) (h3 : -12 ≤ M.betG i g) (h4 : M.betG i g ≤ 48) (p q : Int) (hp1 : -12 ≤ p) (hp2 : p ≤ 48) (hq1 : -12 ≤ q) (hq2 : q ≤ 48) (f0 : (s == s && (decide (i = i) && (decide (q = p) && true))) = true) : Runs cfx 0 3 none (loopOf cfx.P 58 0) (agb_T s i g p q) (agb_H s i g p q) (Ex.exit (0 : Nat)) (agb_T2 s i g p q) (agb_H2 s i g p q) := by
  refine Runs.post (t1 := [V.raw (.agg { toList := [Value.string s, .int .i64 i, .int .i64 g] }), V.fn (Fn.func (59 : Nat)) [] [], .ptr 0 0, uV, .ptr 1 0, .ptr 3 0, .any 6, .any 7, .any 8, V.raw (.agg { toList := [Value.string s, .int .i64 i, .int .i64 q] }), V.raw (.agg { toList := [Value.string s, .int .i64 i, .int .i64 p] }), V.raw (.bool !(s == s && (decide (i = i) && (decide (q = p) && true)))), .any 12, .any 13, .any 14, .any 15, .any 16, .any 17]) (h1 := [some (.cells [V.raw (Value.string s), iV i, iV p] 23 .rw), some (.cells [V.raw (Value.string { data := #[] }), iV (0 : Int), iV (0 : Int)] 23 .rw), none, some (.cells [V.raw (Value.string s), iV i, iV q] 23 .rw)]) (body_of cfx_mixed cfx_call (Nat.zero_le _) (rnd := none) (fi := 0) (k := 0) (n := 40) (n0 := 3) (ans := [Ans.br false]) (cons := [((!(s == s && (decide (i = i) && (decide (q = p) && true)))) = false)]) (by kernel_rfl)
    ⟨(by rw [f0]; rfl), trivial⟩ (Nat.le_of_ble_eq_true rfl) (Nat.le_of_ble_eq_true rfl) noRnd (noRanges (by kernel_rfl))) (fun RT RH => reshape2 (lim := 0) 3 cfx_G rfl [some 3] (by kernel_rfl) (by kernel_rfl) (by exact (ents_say rfl rfl rfl rfl (ents_say rfl rfl rfl rfl (ents_none (ents_say rfl rfl rfl rfl (ents_nil)))))) RT RH)
def agw_T (s : ByteArray) (i g : Int) (p q : Int) : List V := [V.raw (.agg { toList := [Value.string s, .int .i64 i, .int .i64 g] }), V.fn (Fn.func (60 : Nat)) [] [], .ptr 0 0, uV, .ptr 1 0, .ptr 3 0, .any 6, .any 7, .any 8, .any 9, .any 10, .any 11, .any 12, .any 13, .any 14, .any 15, .any 16, .any 17]
def agw_H (s : ByteArray) (i g : Int) (p q : Int) : Heap := [some (.cells [V.raw (Value.string s), iV i, iV p] 23 .rw), some (.cells [V.raw (Value.string { data := #[] }), iV (0 : Int), iV (0 : Int)] 23 .rw), none, some (.cells [V.raw (Value.string s), iV i, iV q] 23 .rw)]
theorem agw_1 (s : ByteArray) (i g : Int) (h1 : -12 ≤ g) (h2 : g ≤ 48) (h3 : -12 ≤ M.worG i g) (h4 : M.worG i g ≤ 48) (p q : Int) (hp1 : -12 ≤ p) (hp2 : p ≤ 48) (hq1 : -12 ≤ q) (hq2 : q ≤ 48) (f0 : (s == s && (decide (i = i) && (decide (q = p) && true))) = false) : Runs cfx 0 3 none (loopOf cfx.P 58 0) (agw_T s i g p q) (agw_H s i g p q) (Ex.normal) (agw_T s i g q (M.worG i q)) (agw_H s i g q (M.worG i q)) := by
  refine Runs.post (t1 := [V.raw (.agg { toList := [Value.string s, .int .i64 i, .int .i64 g] }), V.fn (Fn.func (60 : Nat)) [] [], .ptr 0 0, uV, .ptr 1 0, .ptr 4 0, .any 6, .any 7, .any 8, V.raw (.agg { toList := [Value.string s, .int .i64 i, .int .i64 q] }), V.raw (.agg { toList := [Value.string s, .int .i64 i, .int .i64 p] }), V.raw (.bool !(s == s && (decide (i = i) && (decide (q = p) && true)))), V.fn (Fn.func (60 : Nat)) [] [], V.raw (.agg { toList := [Value.string s, .int .i64 i, .int .i64 q] }), V.raw (.agg { toList := [Value.string s, .int .i64 i, .int .i64 (M.worG i q)] }), V.raw (.agg { toList := [Value.string s, .int .i64 i, .int .i64 q] }), V.raw (.agg { toList := [Value.string s, .int .i64 i, .int .i64 q] }), .any 17]) (h1 := [some (.cells [V.raw (Value.string s), iV i, iV q] 23 .rw), some (.cells [V.raw (Value.string { data := #[] }), iV (0 : Int), iV (0 : Int)] 23 .rw), none, some (.cells [V.raw (Value.string s), iV i, iV q] 23 .rw), some (.cells [V.raw (Value.string s), iV i, iV (M.worG i q)] 23 .rw)]) (body_of cfx_mixed cfx_call (Nat.zero_le _) (rnd := none) (fi := 0) (k := 0) (n := 40) (n0 := 3) (ans := [Ans.br true, Ans.ret (V.raw (.agg { toList := [Value.string s, .int .i64 i, .int .i64 (M.worG i q)] }))]) (cons := [((!(s == s && (decide (i = i) && (decide (q = p) && true)))) = true), (Ret cfx (60 : Nat) [V.raw (.agg { toList := [Value.string s, .int .i64 i, .int .i64 q] })] (V.raw (.agg { toList := [Value.string s, .int .i64 i, .int .i64 (M.worG i q)] })))]) (by kernel_rfl)
    ⟨(by rw [f0]; rfl), (tdWor _ _ _ (by omega) (by omega)), trivial⟩ (Nat.le_of_ble_eq_true rfl) (Nat.le_of_ble_eq_true rfl) noRnd (noRanges (by kernel_rfl))) (fun RT RH => reshape2 (lim := 0) 3 cfx_G rfl [some 4] (by kernel_rfl) (by kernel_rfl) (by exact (ents_say rfl rfl rfl rfl (ents_say rfl rfl rfl rfl (ents_none (ents_say rfl rfl rfl rfl (ents_nil)))))) RT RH)
def agw_T2 (s : ByteArray) (i g : Int) (p q : Int) : List V := [V.raw (.agg { toList := [Value.string s, .int .i64 i, .int .i64 g] }), V.fn (Fn.func (60 : Nat)) [] [], .ptr 0 0, uV, .ptr 1 0, .ptr 3 0, .any 6, .any 7, .any 8, .any 9, .any 10, .any 11, .any 12, .any 13, .any 14, .any 15, .any 16, .any 17]
def agw_H2 (s : ByteArray) (i g : Int) (p q : Int) : Heap := [some (.cells [V.raw (Value.string s), iV i, iV p] 23 .rw), some (.cells [V.raw (Value.string { data := #[] }), iV (0 : Int), iV (0 : Int)] 23 .rw), none, some (.cells [V.raw (Value.string s), iV i, iV q] 23 .rw)]
theorem agw_2 (s : ByteArray) (i g : Int) (h1 : -12 ≤ g) (h2 : g ≤ 48) (h3 : -12 ≤ M.worG i g) (h4 : M.worG i g ≤ 48) (p q : Int) (hp1 : -12 ≤ p) (hp2 : p ≤ 48) (hq1 : -12 ≤ q) (hq2 : q ≤ 48) (f0 : (s == s && (decide (i = i) && (decide (q = p) && true))) = true) : Runs cfx 0 3 none (loopOf cfx.P 58 0) (agw_T s i g p q) (agw_H s i g p q) (Ex.exit (0 : Nat)) (agw_T2 s i g p q) (agw_H2 s i g p q) := by
  refine Runs.post (t1 := [V.raw (.agg { toList := [Value.string s, .int .i64 i, .int .i64 g] }), V.fn (Fn.func (60 : Nat)) [] [], .ptr 0 0, uV, .ptr 1 0, .ptr 3 0, .any 6, .any 7, .any 8, V.raw (.agg { toList := [Value.string s, .int .i64 i, .int .i64 q] }), V.raw (.agg { toList := [Value.string s, .int .i64 i, .int .i64 p] }), V.raw (.bool !(s == s && (decide (i = i) && (decide (q = p) && true)))), .any 12, .any 13, .any 14, .any 15, .any 16, .any 17]) (h1 := [some (.cells [V.raw (Value.string s), iV i, iV p] 23 .rw), some (.cells [V.raw (Value.string { data := #[] }), iV (0 : Int), iV (0 : Int)] 23 .rw), none, some (.cells [V.raw (Value.string s), iV i, iV q] 23 .rw)]) (body_of cfx_mixed cfx_call (Nat.zero_le _) (rnd := none) (fi := 0) (k := 0) (n := 40) (n0 := 3) (ans := [Ans.br false]) (cons := [((!(s == s && (decide (i = i) && (decide (q = p) && true)))) = false)]) (by kernel_rfl)
    ⟨(by rw [f0]; rfl), trivial⟩ (Nat.le_of_ble_eq_true rfl) (Nat.le_of_ble_eq_true rfl) noRnd (noRanges (by kernel_rfl))) (fun RT RH => reshape2 (lim := 0) 3 cfx_G rfl [some 3] (by kernel_rfl) (by kernel_rfl) (by exact (ents_say rfl rfl rfl rfl (ents_say rfl rfl rfl rfl (ents_none (ents_say rfl rfl rfl rfl (ents_nil)))))) RT RH)
end Go.Proofs.YtkkgmodladgonaaGreatDoor
end
section
set_option maxRecDepth 100000
namespace Go.Proofs.YtkkgmodladgonaaGreatDoor
open Go Go.RowKit Go.Proofs.YtkkgmodladgonaaGreatDoor.E2
theorem M.self (s : ByteArray) : (s == s) = true := by
  first
    | exact beq_self_eq_true s
    | exact decide_eq_true (rfl : s = s)
    | (cases s with | mk d => exact beq_self_eq_true (α := Array UInt8) d)
    | (cases s with | mk d => show (d == d) = true; simp)
    | (cases s with | mk d => simp [BEq.beq])
theorem M.betG_rng (i : Int) {g : Int} (h1 : -12 ≤ g) (h2 : g ≤ 48) : -12 ≤ M.betG i g ∧ M.betG i g ≤ 48 ∧ (M.betG i g = g ∨ M.betG i g = g - 1) := by unfold M.betG; split <;> omega
theorem M.worG_rng (i : Int) {g : Int} (h1 : -12 ≤ g) (h2 : g ≤ 48) : -12 ≤ M.worG i g ∧ M.worG i g ≤ 48 ∧ (M.worG i g = g ∨ M.worG i g = g + 1) := by unfold M.worG; split <;> omega
theorem agb_rounds (s : ByteArray) (i g : Int) (h1 : -12 ≤ g) (h2 : g ≤ 48) : ∀ (n : Nat) (p : Int), -12 ≤ p → p ≤ 48 → p + 13 ≤ n → ∃ m, Rounds cfx 0 3 none (loopOf cfx.P 58 0) m (agb_T s i g p (M.betG i p)) (agb_H s i g p (M.betG i p)) (.exit 0) (agb_T2 s i g (M.downN n i p) (M.downN n i p)) (agb_H2 s i g (M.downN n i p) (M.downN n i p)) := by
  have b := M.betG_rng i h1 h2
  intro n
  induction n with
  | zero => intro p hp1 hp2 hn; omega
  | succ n ih =>
    intro p hp1 hp2 hn
    have c := M.betG_rng i hp1 hp2
    by_cases h : M.betG i p = p
    · have e : M.downN (n + 1) i p = p := by simp only [M.downN, if_pos h]
      rw [e, h]
      exact ⟨1, rounds_done (agb_2 s i g h1 h2 b.1 b.2.1 p p hp1 hp2 hp1 hp2 (by simp [M.self])) (by simp)⟩
    · have e : M.downN (n + 1) i p = M.downN n i (M.betG i p) := by simp only [M.downN, if_neg h]
      rw [e]
      obtain ⟨m, hm⟩ := ih (M.betG i p) c.1 c.2.1 (by omega)
      exact ⟨m + 1, rounds_more noRnd (agb_1 s i g h1 h2 b.1 b.2.1 p (M.betG i p) hp1 hp2 c.1 c.2.1 (by simp [M.self, h])) hm⟩
theorem agb_loop (s : ByteArray) (i g : Int) (h1 : -12 ≤ g) (h2 : g ≤ 48) : Runs cfx 0 3 none (.loop (loopOf cfx.P 58 0)) (agb_T s i g g (M.betG i g)) (agb_H s i g g (M.betG i g)) (.exit 0) (agb_T2 s i g (M.downN 61 i g) (M.downN 61 i g)) (agb_H2 s i g (M.downN 61 i g) (M.downN 61 i g)) := by
  obtain ⟨m, hm⟩ := agb_rounds s i g h1 h2 61 g h1 h2 (by omega)
  exact runs_loop hm
theorem agw_rounds (s : ByteArray) (i g : Int) (h1 : -12 ≤ g) (h2 : g ≤ 48) : ∀ (n : Nat) (p : Int), -12 ≤ p → p ≤ 48 → 49 - p ≤ n → ∃ m, Rounds cfx 0 3 none (loopOf cfx.P 58 0) m (agw_T s i g p (M.worG i p)) (agw_H s i g p (M.worG i p)) (.exit 0) (agw_T2 s i g (M.upN n i p) (M.upN n i p)) (agw_H2 s i g (M.upN n i p) (M.upN n i p)) := by
  have b := M.worG_rng i h1 h2
  intro n
  induction n with
  | zero => intro p hp1 hp2 hn; omega
  | succ n ih =>
    intro p hp1 hp2 hn
    have c := M.worG_rng i hp1 hp2
    by_cases h : M.worG i p = p
    · have e : M.upN (n + 1) i p = p := by simp only [M.upN, if_pos h]
      rw [e, h]
      exact ⟨1, rounds_done (agw_2 s i g h1 h2 b.1 b.2.1 p p hp1 hp2 hp1 hp2 (by simp [M.self])) (by simp)⟩
    · have e : M.upN (n + 1) i p = M.upN n i (M.worG i p) := by simp only [M.upN, if_neg h]
      rw [e]
      obtain ⟨m, hm⟩ := ih (M.worG i p) c.1 c.2.1 (by omega)
      exact ⟨m + 1, rounds_more noRnd (agw_1 s i g h1 h2 b.1 b.2.1 p (M.worG i p) hp1 hp2 c.1 c.2.1 (by simp [M.self, h])) hm⟩
theorem agw_loop (s : ByteArray) (i g : Int) (h1 : -12 ≤ g) (h2 : g ≤ 48) : Runs cfx 0 3 none (.loop (loopOf cfx.P 58 0)) (agw_T s i g g (M.worG i g)) (agw_H s i g g (M.worG i g)) (.exit 0) (agw_T2 s i g (M.upN 61 i g) (M.upN 61 i g)) (agw_H2 s i g (M.upN 61 i g) (M.upN 61 i g)) := by
  obtain ⟨m, hm⟩ := agw_rounds s i g h1 h2 61 g h1 h2 (by omega)
  exact runs_loop hm
theorem agb_ev (s : ByteArray) (i g R : Int) (h1 : -12 ≤ g) (h2 : g ≤ 48) (hR : Runs cfx 0 3 none (.loop (loopOf cfx.P 58 0)) (agb_T s i g g (M.betG i g)) (agb_H s i g g (M.betG i g)) (.exit 0) (agb_T2 s i g R R) (agb_H2 s i g R R))  : Ret cfx 58 [.raw (.agg #[.string s, .int .i64 i, .int .i64 g]), V.fn (Fn.func 59) [] []] (V.raw (.agg { toList := [Value.string s, .int .i64 i, .int .i64 R] })) := by
  exact fn_of cfx_mixed cfx_call cfx_base.1 cfx_base.2.1 cfx_base.2.2 (n := 40) (ans := [Ans.go, Ans.ret (V.raw (.agg { toList := [Value.string s, .int .i64 i, .int .i64 (M.betG i g)] })), Ans.loop (Ex.exit (0 : Nat)) [V.raw (.agg { toList := [Value.string s, .int .i64 i, .int .i64 g] }), V.fn (Fn.func (59 : Nat)) [] [], .ptr 0 0, uV, .ptr 1 0, .ptr 3 0, .any 6, .any 7, .any 8, .any 9, .any 10, .any 11, .any 12, .any 13, .any 14, .any 15, .any 16, .any 17] [some (.cells [V.raw (Value.string s), iV i, iV R] 23 .rw), some (.cells [V.raw (Value.string { data := #[] }), iV (0 : Int), iV (0 : Int)] 23 .rw), none, some (.cells [V.raw (Value.string s), iV i, iV R] 23 .rw)]]) (cons := [(Ret cfx (59 : Nat) [V.raw (.agg { toList := [Value.string s, .int .i64 i, .int .i64 g] })] (V.raw (.agg { toList := [Value.string s, .int .i64 i, .int .i64 (M.betG i g)] }))), (Runs cfx 0 (3 : Nat) none (.loop (loopOf cfx.P 58 0)) [V.raw (.agg { toList := [Value.string s, .int .i64 i, .int .i64 g] }), V.fn (Fn.func (59 : Nat)) [] [], .ptr 0 0, uV, .ptr 1 0, .ptr 2 0, V.fn (Fn.func (59 : Nat)) [] [], V.raw (.agg { toList := [Value.string s, .int .i64 i, .int .i64 g] }), V.raw (.agg { toList := [Value.string s, .int .i64 i, .int .i64 (M.betG i g)] }), uV, uV, uV, uV, uV, uV, uV, uV, uV] [some (.cells [V.raw (Value.string s), iV i, iV g] 23 .rw), some (.cells [V.raw (Value.string { data := #[] }), iV (0 : Int), iV (0 : Int)] 23 .rw), some (.cells [V.raw (Value.string s), iV i, iV (M.betG i g)] 23 .rw)] (Ex.exit (0 : Nat)) [V.raw (.agg { toList := [Value.string s, .int .i64 i, .int .i64 g] }), V.fn (Fn.func (59 : Nat)) [] [], .ptr 0 0, uV, .ptr 1 0, .ptr 3 0, .any 6, .any 7, .any 8, .any 9, .any 10, .any 11, .any 12, .any 13, .any 14, .any 15, .any 16, .any 17] [some (.cells [V.raw (Value.string s), iV i, iV R] 23 .rw), some (.cells [V.raw (Value.string { data := #[] }), iV (0 : Int), iV (0 : Int)] 23 .rw), none, some (.cells [V.raw (Value.string s), iV i, iV R] 23 .rw)])]) (by kernel_rfl) rfl rfl
    ⟨(tdBet _ _ _ (by omega) (by omega)), (by
      refine Runs.pre (fun b e => by cases e) (fun RT RH => ?_) (hR)
      exact reshape2 (lim := 0) 3 (t := [V.raw (.agg { toList := [Value.string s, .int .i64 i, .int .i64 g] }), V.fn (Fn.func (59 : Nat)) [] [], .ptr 0 0, uV, .ptr 1 0, .ptr 2 0, V.fn (Fn.func (59 : Nat)) [] [], V.raw (.agg { toList := [Value.string s, .int .i64 i, .int .i64 g] }), V.raw (.agg { toList := [Value.string s, .int .i64 i, .int .i64 (M.betG i g)] }), uV, uV, uV, uV, uV, uV, uV, uV, uV]) (h := [some (.cells [V.raw (Value.string s), iV i, iV g] 23 .rw), some (.cells [V.raw (Value.string { data := #[] }), iV (0 : Int), iV (0 : Int)] 23 .rw), some (.cells [V.raw (Value.string s), iV i, iV (M.betG i g)] 23 .rw)]) cfx_G rfl [some 2] (by kernel_rfl) (by kernel_rfl) (by repeat first | exact ents_nil | refine ents_none ?_ | refine ents_raw (ints_all _) rfl rfl ?_ | refine ents_raw (bools_all _) rfl rfl ?_ | refine ents_raw (mix_all _ _) rfl rfl ?_ | refine ents_say rfl rfl rfl rfl ?_ | refine ents_nilC rfl rfl ?_) RT RH), trivial⟩
theorem agw_ev (s : ByteArray) (i g R : Int) (h1 : -12 ≤ g) (h2 : g ≤ 48) (hR : Runs cfx 0 3 none (.loop (loopOf cfx.P 58 0)) (agw_T s i g g (M.worG i g)) (agw_H s i g g (M.worG i g)) (.exit 0) (agw_T2 s i g R R) (agw_H2 s i g R R))  : Ret cfx 58 [.raw (.agg #[.string s, .int .i64 i, .int .i64 g]), V.fn (Fn.func 60) [] []] (V.raw (.agg { toList := [Value.string s, .int .i64 i, .int .i64 R] })) := by
  exact fn_of cfx_mixed cfx_call cfx_base.1 cfx_base.2.1 cfx_base.2.2 (n := 40) (ans := [Ans.go, Ans.ret (V.raw (.agg { toList := [Value.string s, .int .i64 i, .int .i64 (M.worG i g)] })), Ans.loop (Ex.exit (0 : Nat)) [V.raw (.agg { toList := [Value.string s, .int .i64 i, .int .i64 g] }), V.fn (Fn.func (60 : Nat)) [] [], .ptr 0 0, uV, .ptr 1 0, .ptr 3 0, .any 6, .any 7, .any 8, .any 9, .any 10, .any 11, .any 12, .any 13, .any 14, .any 15, .any 16, .any 17] [some (.cells [V.raw (Value.string s), iV i, iV R] 23 .rw), some (.cells [V.raw (Value.string { data := #[] }), iV (0 : Int), iV (0 : Int)] 23 .rw), none, some (.cells [V.raw (Value.string s), iV i, iV R] 23 .rw)]]) (cons := [(Ret cfx (60 : Nat) [V.raw (.agg { toList := [Value.string s, .int .i64 i, .int .i64 g] })] (V.raw (.agg { toList := [Value.string s, .int .i64 i, .int .i64 (M.worG i g)] }))), (Runs cfx 0 (3 : Nat) none (.loop (loopOf cfx.P 58 0)) [V.raw (.agg { toList := [Value.string s, .int .i64 i, .int .i64 g] }), V.fn (Fn.func (60 : Nat)) [] [], .ptr 0 0, uV, .ptr 1 0, .ptr 2 0, V.fn (Fn.func (60 : Nat)) [] [], V.raw (.agg { toList := [Value.string s, .int .i64 i, .int .i64 g] }), V.raw (.agg { toList := [Value.string s, .int .i64 i, .int .i64 (M.worG i g)] }), uV, uV, uV, uV, uV, uV, uV, uV, uV] [some (.cells [V.raw (Value.string s), iV i, iV g] 23 .rw), some (.cells [V.raw (Value.string { data := #[] }), iV (0 : Int), iV (0 : Int)] 23 .rw), some (.cells [V.raw (Value.string s), iV i, iV (M.worG i g)] 23 .rw)] (Ex.exit (0 : Nat)) [V.raw (.agg { toList := [Value.string s, .int .i64 i, .int .i64 g] }), V.fn (Fn.func (60 : Nat)) [] [], .ptr 0 0, uV, .ptr 1 0, .ptr 3 0, .any 6, .any 7, .any 8, .any 9, .any 10, .any 11, .any 12, .any 13, .any 14, .any 15, .any 16, .any 17] [some (.cells [V.raw (Value.string s), iV i, iV R] 23 .rw), some (.cells [V.raw (Value.string { data := #[] }), iV (0 : Int), iV (0 : Int)] 23 .rw), none, some (.cells [V.raw (Value.string s), iV i, iV R] 23 .rw)])]) (by kernel_rfl) rfl rfl
    ⟨(tdWor _ _ _ (by omega) (by omega)), (by
      refine Runs.pre (fun b e => by cases e) (fun RT RH => ?_) (hR)
      exact reshape2 (lim := 0) 3 (t := [V.raw (.agg { toList := [Value.string s, .int .i64 i, .int .i64 g] }), V.fn (Fn.func (60 : Nat)) [] [], .ptr 0 0, uV, .ptr 1 0, .ptr 2 0, V.fn (Fn.func (60 : Nat)) [] [], V.raw (.agg { toList := [Value.string s, .int .i64 i, .int .i64 g] }), V.raw (.agg { toList := [Value.string s, .int .i64 i, .int .i64 (M.worG i g)] }), uV, uV, uV, uV, uV, uV, uV, uV, uV]) (h := [some (.cells [V.raw (Value.string s), iV i, iV g] 23 .rw), some (.cells [V.raw (Value.string { data := #[] }), iV (0 : Int), iV (0 : Int)] 23 .rw), some (.cells [V.raw (Value.string s), iV i, iV (M.worG i g)] 23 .rw)]) cfx_G rfl [some 2] (by kernel_rfl) (by kernel_rfl) (by repeat first | exact ents_nil | refine ents_none ?_ | refine ents_raw (ints_all _) rfl rfl ?_ | refine ents_raw (bools_all _) rfl rfl ?_ | refine ents_raw (mix_all _ _) rfl rfl ?_ | refine ents_say rfl rfl rfl rfl ?_ | refine ents_nilC rfl rfl ?_) RT RH), trivial⟩
end Go.Proofs.YtkkgmodladgonaaGreatDoor
end
section
namespace Go.Proofs.YtkkgmodladgonaaGreatDoor.K
open Go Go.Deep Go.ChangeShapes Go.WideShapes Go.ChangeAt Go.RowKit
def tabFs (P : Program) (rec : TypeId → DataW Unit → Option (List Value)) : Nat → List Field → List (DataW Unit) → Option (List Value)
  | _, [], [] => some []
  | off, f :: fs, d :: ds => match rec f.type d with
    | some l => if f.offset = off ∧ P.cellsOf f.type = l.length then (tabFs P rec (off + l.length) fs ds).map (l ++ ·) else none
    | none => none
  | _, _, _ => none
def tabEs (rec : DataW Unit → Option (List Value)) (m : Nat) : List (DataW Unit) → Option (List Value)
  | [] => some []
  | d :: ds => match rec d with
    | some l => if l.length = m then (tabEs rec m ds).map (l ++ ·) else none
    | none => none
def tabK (P : Program) : Nat → TypeId → DataW Unit → Option (List Value)
  | 0, _, _ => none
  | d + 1, t, x => match P.underlying t with
    | some .bool => (match x with
      | .lit (.bool b) => some [.bool b]
      | _ => none)
    | some (.int k) => (match x with
      | .lit (.int k' n) => some [.int k' n]
      | _ => none)
    | some (.struct fs) => (match x with
      | .agg ps => match tabFs P (tabK P d) 0 fs.toList ps with
        | some l => if l.length = P.cellsOf t then some l else none
        | none => none
      | _ => none)
    | some (.array n e) => (match x with
      | .agg ps => if ps.length = n then (match tabEs (tabK P d e) (P.cellsOf e) ps with
        | some l => if l.length = P.cellsOf t then some l else none
        | none => none) else none
      | _ => none)
    | _ => none
section
variable {enc : TypeId × Value → Unit} {P : Program} {w : World} {base : Nat} {spare : Nat → Bool} {held : Bool}
theorem tab_fields {rec : TypeId → DataW Unit → Option (List Value)} {n : Nat} (hrec : ∀ t l cs x, rec t x.1 = some l → DataW.trod enc P w base spare held n t cs = some x → cs = l) (cs : List Value) :
    ∀ (fs : List Field) (xs : List (DataW Unit × List MemPlace)) (off : Nat) (l : List Value), tabFs P rec off fs (xs.map (·.1)) = some l → off + l.length ≤ cs.length → (∀ (i : Nat) (f : Field), fs[i]? = some f → DataW.trod enc P w base spare held n f.type ((cs.drop f.offset).take (P.cellsOf f.type)) = xs[i]?) → (cs.drop off).take l.length = l
  | [], [], off, l, h, hl, hf => by
    simp only [List.map_nil, tabFs, Option.some.injEq] at h
    subst h
    simp
  | [], x :: xs, off, l, h, hl, hf => by simp [tabFs] at h
  | f :: fs, [], off, l, h, hl, hf => by simp [tabFs] at h
  | f :: fs, x :: xs, off, l, h, hl, hf => by
    simp only [List.map_cons, tabFs] at h
    split at h
    · rename_i m hm
      split at h
      · rename_i hh
        obtain ⟨h1, h2⟩ := hh
        rw [Option.map_eq_some_iff] at h
        obtain ⟨k, hk, rfl⟩ := h
        have hx := hf 0 f rfl
        rw [h1, h2, List.getElem?_cons_zero] at hx
        have a1 := hrec _ _ _ _ hm hx
        have a2 := tab_fields hrec cs fs xs (off + m.length) k hk (by simp at hl; omega) (fun i g hg => by simpa using hf (i + 1) g (by simpa using hg))
        rw [List.length_append, List.take_add, a1, List.drop_drop, a2]
      · cases h
    · cases h
theorem tab_elems {rec : DataW Unit → Option (List Value)} {n m : Nat} {e : TypeId} (hrec : ∀ l cs x, rec x.1 = some l → DataW.trod enc P w base spare held n e cs = some x → cs = l) (cs : List Value) :
    ∀ (xs : List (DataW Unit × List MemPlace)) (k : Nat) (l : List Value), tabEs rec m (xs.map (·.1)) = some l → k * m + l.length ≤ cs.length → (∀ i : Nat, i < xs.length → DataW.trod enc P w base spare held n e ((cs.drop ((k + i) * m)).take m) = xs[i]?) → (cs.drop (k * m)).take l.length = l
  | [], k, l, h, hl, hf => by
    simp only [List.map_nil, tabEs, Option.some.injEq] at h
    subst h
    simp
  | x :: xs, k, l, h, hl, hf => by
    simp only [List.map_cons, tabEs] at h
    split at h
    · rename_i y hy
      split at h
      · rename_i hh
        rw [Option.map_eq_some_iff] at h
        obtain ⟨z, hz, rfl⟩ := h
        have hx := hf 0 (by simp)
        rw [Nat.add_zero, List.getElem?_cons_zero] at hx
        have a1 := hrec _ _ _ hy hx
        have e1 : (k + 1) * m = k * m + y.length := by rw [hh, Nat.add_mul, Nat.one_mul]
        have a2 := tab_elems hrec cs xs (k + 1) z hz (by rw [e1]; simp at hl; omega) (fun i hi => by
          have := hf (i + 1) (by simp; omega)
          rw [show k + 1 + i = k + (i + 1) by omega]
          simpa using this)
        rw [List.length_append, List.take_add, hh, a1, List.drop_drop, show k * m + m = (k + 1) * m by rw [e1, hh], a2]
      · cases h
    · cases h
theorem tab_cells : ∀ (d fuel : Nat) (t : TypeId) (l cs : List Value) (x : DataW Unit × List MemPlace), tabK P d t x.1 = some l → DataW.trod enc P w base spare held fuel t cs = some x → cs = l
  | 0, fuel, t, l, cs, x, h, hx => by simp [tabK] at h
  | d + 1, fuel, t, l, cs, x, h, hx => by
    simp only [tabK] at h
    split at h
    · rename_i hu
      cases fuel with
      | zero => simp [DataW.trod] at hx
      | succ m =>
        unfold DataW.trod at hx
        rw [hu] at hx
        split at hx <;> simp_all
        obtain ⟨rfl⟩ := hx
        simp_all
    · rename_i k hu
      obtain ⟨n, rfl, rfl, _⟩ := DataW.trod_int hu hx
      simpa using h
    · rename_i fs hu
      obtain ⟨xs, n, _, rfl, hl, hxl, hf⟩ := DataW.trod_struct hu hx
      simp only at h
      split at h
      · rename_i m hm
        split at h
        · rename_i hlen
          simp only [Option.some.injEq] at h
          subst h
          have := tab_fields (n := n) (fun t l cs x h1 h2 => tab_cells d n t l cs x h1 h2) cs fs.toList xs 0 m hm (by omega) (fun i f hi => hf i f (by simpa using hi))
          rwa [List.drop_zero, List.take_of_length_le (by omega)] at this
        · cases h
      · cases h
    · rename_i n e hu
      obtain ⟨xs, q, _, rfl, hl, hxl, hf⟩ := DataW.trod_array hu hx
      simp only at h
      split at h
      · split at h
        · rename_i m hm
          split at h
          · rename_i hlen
            simp only [Option.some.injEq] at h
            subst h
            have := tab_elems (n := q) (fun l cs x h1 h2 => tab_cells d q e l cs x h1 h2) cs xs 0 m hm (by omega) (fun i hi => by rw [Nat.zero_add]; exact hf i (by omega))
            rwa [Nat.zero_mul, List.drop_zero, List.take_of_length_le (by omega)] at this
          · cases h
        · cases h
      · cases h
    · cases h
end
end Go.Proofs.YtkkgmodladgonaaGreatDoor.K
namespace Go.Proofs.YtkkgmodladgonaaGreatDoor.E2
open Go Go.RowKit
theorem laidVars_at {P : Program} {w : World} : ∀ (laid : List (String × DataW Unit)) (ps : List MemPlace), DataW.LaidVars P w laid ps → ∀ (i : Nat) (n : String) (d : DataW Unit), laid[i]? = some (n, d) →
    ∃ g t cs fuel p, P.globalNamed n = some g ∧ (P.globals[g]?).map (·.type) = some t ∧ w.var? P n = some cs ∧ DataW.trod (fun _ => ()) P w 0 (fun _ => true) false fuel t cs.toList = some (d, p)
  | [], ps, h, i, n, d, hi => by simp at hi
  | (m, e) :: r, ps, ⟨g, t, cs, fuel, p, q, h1, h2, h3, h4, h5, _⟩, i, n, d, hi => by
    cases i with
    | zero =>
      simp only [List.getElem?_cons_zero, Option.some.injEq, Prod.mk.injEq] at hi
      obtain ⟨rfl, rfl⟩ := hi
      exact ⟨g, t, cs, fuel, p, h1, h2, h3, h4⟩
    | succ i => exact laidVars_at r q h5 i n d (by simpa using hi)
theorem laid_block {P : Program} {w : World} {laid : List (String × DataW Unit)} (h : laidMetH P laid w) (hp : (laid.all fun x => x.2.handleName?.isNone) = true) (i : Nat) {n : String} {d : DataW Unit} {g : Nat} {t : TypeId} {l : List Value}
    (hi : laid[i]? = some (n, d)) (hg : P.globalNamed n = some g) (ht : (P.globals[g]?).map (·.type) = some t) (hk : K.tabK P 9 t d = some l) : ∃ T, ∀ ρ, CellsOk ρ (Loc.at g) w (l.map .raw) T .ro := by
  rw [MakeChecks.laidMetH_plain _ _ _ hp] at h
  obtain ⟨ps, hl, _⟩ := h
  obtain ⟨g0, t0, cs0, f0, p0, hg0, ht0, hv0, hd0⟩ := laidVars_at laid ps hl i n d hi
  obtain rfl := Option.some.inj (hg.symm.trans hg0)
  obtain rfl := Option.some.inj (ht.symm.trans ht0)
  have e := K.tab_cells (P := P) 9 f0 _ l cs0.toList _ hk hd0
  simp only [World.var?, hg0, Option.bind_some] at hv0
  split at hv0
  · rename_i cs T fr hb
    cases hv0
    refine ⟨T, fun ρ => ⟨fun hn => (by cases hn), fun _ => ⟨fr, ?_, fun hq => absurd rfl hq⟩, fun sz hq => (by cases hq)⟩⟩
    rw [concs_raw, ← e]
    show w.heap[g]? = some (.cells ([] ++ cs0.toList ++ []).toArray T fr)
    simpa using hb
  · cases hv0
def laidH (l : List (List Value × TypeId)) : Heap := l.map fun p => some (.cells (p.1.map .raw) p.2 .ro)
theorem laid_base {c : Cfg} {l : List (List Value × TypeId)} {gs : List Nat} (hH : c.H0 = laidH l) (hL : c.L = l.length) (hG : c.G = gs.mapIdx fun i g => (g, i)) (hgl : gs.length = l.length) :
    c.H0.length = c.L ∧ (∀ (i : Nat) (B : Blk), c.H0[i]? = some (some B) → B.under c.L = true) ∧ ∀ p ∈ c.G, p.2 < c.L := by
  refine ⟨by rw [hH, hL]; simp [laidH], fun i B hB => ?_, fun p hp => ?_⟩
  · rw [hH] at hB
    simp only [laidH, List.getElem?_map, Option.map_eq_some_iff, Option.some.injEq] at hB
    obtain ⟨p, _, rfl⟩ := hB
    exact unders_raw _ _
  · rw [hG] at hp
    obtain ⟨i, hi, rfl⟩ := List.mem_iff_getElem.1 hp
    simp only [List.length_mapIdx] at hi
    simp only [List.getElem_mapIdx]
    omega
end Go.Proofs.YtkkgmodladgonaaGreatDoor.E2
end
section
namespace Go.Proofs.YtkkgmodladgonaaGreatDoor
open Go Go.RowKit Go.Proofs.YtkkgmodladgonaaGreatDoor.E2
def varsG (gs : List Nat) : List (Nat × Nat) := gs.mapIdx fun i g => (g, i)
theorem varsG_lt {gs : List Nat} {p : Nat × Nat} (h : p ∈ varsG gs) : p.2 < gs.length := by
  obtain ⟨i, hi, rfl⟩ := List.mem_iff_getElem.1 h
  simp only [varsG, List.length_mapIdx] at hi
  simpa [varsG] using hi
theorem varsG_at {gs : List Nat} {p : Nat × Nat} (h : p ∈ varsG gs) : gs[p.2]? = some p.1 := by
  obtain ⟨i, hi, rfl⟩ := List.mem_iff_getElem.1 h
  simp only [varsG, List.length_mapIdx] at hi
  simp only [varsG, List.getElem_mapIdx]
  exact List.getElem?_eq_getElem hi
noncomputable def cfxl (gs : List Nat) : Cfg := ⟨Tryz.prog, [], 0, varsG gs, true, fun f => (Tryz.prog.funcs[f]?).any fun fn => !fn.body.isNone, false⟩
noncomputable def cfxlC (gs : List Nat) (l : List (List Value × TypeId)) : Cfg := ⟨Tryz.prog, laidH l, l.length, varsG gs, false, fun f => (Tryz.prog.funcs[f]?).any fun fn => !fn.body.isNone, true⟩
section
variable {gs : List Nat}
theorem cfxl_mixed : (cfxl gs).P.follows .mixedOrders = true := cfx_mixed
theorem cfxl_call : ∀ f, (cfxl gs).fns f = true → Callable (cfxl gs).P f := cfx_call
theorem cfxlC_mixed {l : List (List Value × TypeId)} : (cfxlC gs l).P.follows .mixedOrders = true := cfx_mixed
theorem cfxlC_call {l : List (List Value × TypeId)} : ∀ f, (cfxlC gs l).fns f = true → Callable (cfxlC gs l).P f := cfx_call
theorem cfxlC_base {l : List (List Value × TypeId)} (h : gs.length = l.length) : (cfxlC gs l).H0.length = (cfxlC gs l).L ∧ (∀ (i : Nat) (B : Blk), (cfxlC gs l).H0[i]? = some (some B) → B.under (cfxlC gs l).L = true) ∧ ∀ p ∈ (cfxlC gs l).G, p.2 < (cfxlC gs l).L := laid_base rfl rfl rfl h
theorem relH_upl {ρ : Ren} {h : Heap} {w : World} (R : RelH (cfxl gs) ρ h w) : RelH cfx ρ h w := ⟨R.cell, R.inj, R.sco, fun p hp => by simp [cfx] at hp, R.big, R.base⟩
theorem relH_dnl {lim n : Nat} {ρ ρ' : Ren} {h h' : Heap} {w w' : World} (R : RelH (cfxl gs) ρ h w) (S : RelH cfx ρ' h' w') (F : Fr lim n ρ h w ρ' h' w') (h0 : gs.length ≤ n) : RelH (cfxl gs) ρ' h' w' :=
  ⟨S.cell, S.inj, S.sco, fun p hp => by
    obtain ⟨a1, a2, a3⟩ := R.glob p hp
    have e : p.2 < gs.length := varsG_lt hp
    have e2 : ρ'.blk p.2 = ρ.blk p.2 := F.ren _ (by omega)
    have := F.len
    exact ⟨by rw [e2]; exact a1, by rw [e2]; exact a2, by omega⟩, S.big, S.base⟩
theorem up_meetsl {lim : Nat} {f : FuncId} {args : List V} {h h' : Heap} {v : V} (hm : Meets cfx lim f args h v h') (h0 : gs.length ≤ h.length) : Meets (cfxl gs) lim f args h v h' := fun ρ w R hu =>
  Calls.mono (hm ρ w (relH_upl R) hu) fun e w' ⟨ρ', h1, h2, h3, h4, h5⟩ => ⟨ρ', h1, h2, relH_dnl R h3 h4 h0, h4, h5⟩
theorem glob_len {ρ : Ren} {h : Heap} {w : World} (R : RelH (cfxl gs) ρ h w) : gs.length ≤ h.length := by
  rcases Nat.eq_zero_or_pos gs.length with h0 | h0
  · omega
  · have hi : gs.length - 1 < (varsG gs).length := by simp [varsG]; omega
    have := (R.glob (varsG gs)[gs.length - 1] (List.getElem_mem hi)).2.2
    simp [varsG] at this
    omega
theorem up_retl {f : FuncId} {args : List V} {v : V} (hr : Ret cfx f args v) : Ret (cfxl gs) f args v := fun h lim hL hl ρ w R => up_meetsl (hr h lim (Nat.zero_le _) hl) (glob_len R) ρ w R
theorem laidH_at {l : List (List Value × TypeId)} {i : Nat} {B : Blk} (h : (laidH l)[i]? = some (some B)) : ∃ p, l[i]? = some p ∧ B = .cells (p.1.map .raw) p.2 .ro := by
  simp only [laidH, List.getElem?_map, Option.map_eq_some_iff, Option.some.injEq] at h
  obtain ⟨p, h1, h2⟩ := h
  exact ⟨p, h1, h2.symm⟩
theorem ret_laidl {l : List (List Value × TypeId)} (hgl : gs.length = l.length) {f : FuncId} {args : List Value} {v : Value} (hr : Ret (cfxlC gs l) f (args.map .raw) (.raw v)) {h : Heap} {lim : Nat} (h0 : ∀ i, i < l.length → h[i]? = (laidH l)[i]?) (hl : lim ≤ h.length) : Meets (cfxl gs) lim f (args.map .raw) h (.raw v) h := by
  intro ρ w RH hu
  have hll : (laidH l).length = l.length := by simp [laidH]
  have R0 : RelH (cfxlC gs l) ρ (laidH l) w := by
    refine ⟨fun i B hB => ?_, fun i j hi hj he => ?_, fun i B hB => ?_, fun p hp => ?_, by rw [hll]; exact Nat.le_refl _, fun _ _ => rfl⟩
    · exact RH.cell i B (by rw [h0 i (by rw [← hll]; exact lt_len hB)]; exact hB)
    · obtain ⟨B, a1, a2, _⟩ := hi
      obtain ⟨p, _, rfl⟩ := laidH_at a1
      cases a2
    · obtain ⟨p, _, rfl⟩ := laidH_at hB
      exact unders_raw _ _
    · obtain ⟨a1, a2, a3⟩ := RH.glob p hp
      exact ⟨a1, a2, by rw [hll, ← hgl]; exact varsG_lt hp⟩
  refine Calls.mono (hr (laidH l) l.length (Nat.le_refl _) (by omega) ρ w R0 (unders_raw _ _)) fun e w' ⟨ρ1, k1, k2, RH1, F1, k5⟩ => ?_
  have hb : Below w.heap.size w w' := ⟨F1.os, F1.tape, F1.output, F1.size, fun k hk => F1.blk k hk fun i _ h2 => by
    obtain ⟨B, a1, a2, _⟩ := h2
    obtain ⟨p, _, rfl⟩ := laidH_at a1
    cases a2⟩
  exact ⟨ρ, rfl, by rw [k2]; rfl, below_rel RH hb.block, below_fr hl hb, rfl⟩
theorem calls_atl {lim : Nat} {f : FuncId} {args : List V} {H H' : Heap} {x : Value} (hm : Meets (cfxl gs) lim f args H (.raw x) H') (ls : List E2.Loc) (w : World) (hlen : ls.length = H.length)
    (hg : ∀ (i g : Nat), gs[i]? = some g → (ls.getD i (E2.Loc.at 0)).n = g ∧ (ls.getD i (E2.Loc.at 0)).pre = []) (hpos : gs.length ≤ H.length) (hro : RowsAt ls H w) (hu : unders H.length args = true) :
    Calls Tryz.prog f (concs ⟨fun i => ls.getD i (E2.Loc.at 0), fun _ => undef⟩ args).toArray w fun e w' => e = .returned x ∧ Below w.heap.size w w' := by
  have R : RelH (cfxl gs) ⟨fun i => ls.getD i (E2.Loc.at 0), fun _ => undef⟩ H w := by
    refine ⟨fun i B hB => ?_, fun i j hi hj he => ?_, fun i B hB => ?_, fun p hp => ?_, Nat.zero_le _, fun i hi => absurd hi (Nat.not_lt_zero _)⟩
    · obtain ⟨cs, T, rfl, _, hk⟩ := hro i B hB
      exact hk _
    · obtain ⟨B, a1, a2, a3⟩ := hi
      obtain ⟨cs, T, rfl, _⟩ := hro i B a1
      cases a2
    · obtain ⟨cs, T, rfl, ha, _⟩ := hro i B hB
      exact unders_raws _ _ ha
    · obtain ⟨a1, a2⟩ := hg p.2 p.1 (varsG_at hp)
      exact ⟨a1, a2, Nat.lt_of_lt_of_le (varsG_lt hp) hpos⟩
  refine Calls.mono (hm _ w R hu) fun e w' ⟨ρ', _, he, _, F, _⟩ => ?_
  refine ⟨he, F.os, F.tape, F.output, F.size, fun k hk => F.blk k hk fun i _ h2 => ?_⟩
  obtain ⟨B, a1, a2, a3⟩ := h2
  obtain ⟨cs, T, rfl, _⟩ := hro i B a1
  cases a2
end
end Go.Proofs.YtkkgmodladgonaaGreatDoor
end
section
namespace Go.Proofs.YtkkgmodladgonaaGreatDoor.E2
open Go Go.RowKit
noncomputable section
def ptrR (r : Nat) : V := .raw (.pointer (some ⟨r, 0, none⟩))
def goesOn (nxl : Nat) : Ex → Bool
  | .normal => true
  | .exit i => i == nxl
  | .ret => false
structure MapPart where
  d8 : Nat
  y : Operand
  it : Nat
  T : TypeId
  out : Nat
  nx : Nat
  mo : Nat
  nxl : Nat
  ops11 : Array Oper
  pair : Nat
  rest : List Oper
  body : Code
def mapPart : Code → Option MapPart
  | .seq (.region _ ops9 false) (.block out (.loop (.seq (.region _ ops10 false) (.seq (.cond (.tmp mo) .skip (.exit out2)) (.block nxl (.seq (.region _ ops11 false) body)))))) =>
    match ops9.toList, ops10.toList, ops11.toList with
    | [⟨some d8, .move y, _, _, _, none⟩, ⟨some it, .range T (.tmp d9), _, _, _, none⟩], [⟨some nx, .next (.tmp it2) false, _, _, _, none⟩, ⟨some mo2, .extract (.tmp nx2) 0, _, _, _, none⟩], ⟨some pair, .entry (.tmp it3), _, _, _, none⟩ :: rest =>
      if out = out2 ∧ d8 = d9 ∧ it = it2 ∧ mo = mo2 ∧ nx = nx2 ∧ it = it3 ∧ d8 ≠ it ∧ nx ≠ it ∧ mo ≠ it ∧ pair ≠ it ∧ nx ≠ mo then some ⟨d8, y, it, T, out, nx, mo, nxl, ops11, pair, rest, body⟩ else none
    | _, _, _ => none
  | _ => none
def withE (m : MapPart) (e : Value × Value) (t : List V) : List V :=
  putT (putT (putT t (some m.nx) (.raw (.tuple #[.bool true, e.1, e.2]))) (some m.mo) (.raw (.bool true))) (some m.pair) (.raw (.tuple #[e.1, e.2]))
def atEnd (m : MapPart) (t : List V) : List V := putT (putT t (some m.nx) (.raw (.tuple #[.bool false]))) (some m.mo) (.raw (.bool false))
def evRound (c : Cfg) (cf : CF) (lim fi : Nat) (m : MapPart) (r bm : Nat) (e : Value × Value) (t : List V) (h : Heap) : Option (List V × Heap × List Prop) :=
  match evOps c cf lim m.ops11 m.rest (withE m e t) h [.auto [] []] with
  | none => none
  | some q => match evCode c cf lim none fi m.body 0 q.t q.h q.ans with
    | none => none
    | some o => match goesOn m.nxl o.e, mapAt q.h bm, mapAt o.h bm with
      | true, some _, some _ => some (o.t, o.h, (getR o.t m.it = some (ptrR r)) :: (q.cons ++ o.cons))
      | _, _, _ => none
def gather {α : Type} : List (Option (List α × List Prop)) → Option (List α × List Prop)
  | [] => some ([], [])
  | none :: _ => none
  | some x :: l => match gather l with
    | none => none
    | some y => some (x.1 ++ y.1, x.2 ++ y.2)
def withP {α : Type} (ps : List Prop) : Option (List α × List Prop) → Option (List α × List Prop)
  | none => none
  | some x => some (x.1, ps ++ x.2)
def evTree (c : Cfg) (cf : CF) (lim fi : Nat) (m : MapPart) (r bm : Nat) (es : List (Value × Value)) : Nat → List Nat → List V → Heap → Option (List (List V × Heap) × List Prop)
  | 0, _, _, _ => none
  | n + 1, left, t, h => if m.nx < t.length ∧ m.mo < t.length then match left with
    | [] => some ([(atEnd m t, h)], [])
    | j0 :: l0 => gather ((j0 :: l0).map fun j => match es[j]? with
      | none => none
      | some e => match evRound c cf lim fi m r bm e t h with
        | none => none
        | some x => withP x.2.2 (evTree c cf lim fi m r bm es n ((j0 :: l0).filter (· != j)) x.1 x.2.1))
    else none
theorem gather_mem {α : Type} : ∀ {l : List (Option (List α × List Prop))} {out : List α × List Prop}, gather l = some out → ∀ x ∈ l, ∃ y, x = some y ∧ (∀ p ∈ y.1, p ∈ out.1) ∧ ∀ p ∈ y.2, p ∈ out.2
  | [], out, _, x, hx => by cases hx
  | none :: l, out, h, x, hx => by simp [gather] at h
  | some z :: l, out, h, x, hx => by
    simp only [gather] at h
    split at h
    · cases h
    · rename_i y hy
      simp only [Option.some.injEq] at h
      subst h
      rcases List.mem_cons.1 hx with rfl | hx
      · exact ⟨z, rfl, fun p hp => List.mem_append_left _ hp, fun p hp => List.mem_append_left _ hp⟩
      · obtain ⟨u, h1, h2, h3⟩ := gather_mem hy x hx
        exact ⟨u, h1, fun p hp => List.mem_append_right _ (h2 p hp), fun p hp => List.mem_append_right _ (h3 p hp)⟩
section
variable {c : Cfg} {lim : Nat}
theorem BlkOk.notIter {P : Program} {ρ : Ren} {l : Loc} {w : World} {B : Blk} (h : BlkOk P ρ l w B) (hn : l.nil = false) {x : Option Nat} {s k : Nat} {q : Array Nat} : w.heap[l.n]? ≠ some (.mapIter x s q k) := by
  cases B with
  | cells cs ty own => obtain ⟨fr, h1, _⟩ := h.row hn; rw [h1]; simp
  | rcd r => obtain ⟨_, fn, u, D, h1⟩ := h; rw [h1]; simp
  | mp ks vs bs k => rw [h.2]; simp
structure At (c : Cfg) (lim : Nat) (ρ0 : Ren) (h0 : Heap) (a0 : Act) (w0 : World) (t : List V) (h : Heap) (ρ : Ren) (a : Act) (w : World) : Prop where
  RT : RelT ρ h.length t a
  RH : RelH c ρ h w
  F : Fr lim h0.length ρ0 h0 w0 ρ h w
  M : ∃ ms, a.defers = ms ++ a0.defers ∧ Marks w0 w ms
section
variable {ρ0 : Ren} {h0 : Heap} {a0 : Act} {w0 : World} {t : List V} {h : Heap} {ρ : Ren} {a : Act} {w : World}
theorem At.go (A : At c lim ρ0 h0 a0 w0 t h ρ a w) (hln : lim ≤ h0.length) {lim1 : Nat} (hl1 : lim ≤ lim1) {code : Code} {e : Ex} {t' : List V} {h' : Heap} (hr : Runs c lim1 h.length none code t h e t' h') {Q : Exit → Act → World → Prop}
    (hQ : ∀ ρ' a' w', At c lim ρ0 h0 a0 w0 t' h' ρ' a' w' → Fr lim1 h.length ρ h w ρ' h' w' → Q e.to a' w') : code.wpIn (FW none) 0 c.P Q a w := by
  refine wpIn_mono (hr ρ a w A.RT A.RH) fun x a' w' ⟨hx, ρ', ms, d, M, RT', RH', F⟩ => ?_
  subst hx
  obtain ⟨ms0, d0, M0⟩ := A.M
  exact hQ ρ' a' w' ⟨RT', RH', A.F.trans ((F.mono hl1).fewer A.F.len hln), ms ++ ms0, by rw [d, d0, List.append_assoc], Marks.trans M0 M A.F.size (fun D hD => F.keep A.RH hD)⟩ F
theorem At.put (A : At c lim ρ0 h0 a0 w0 t h ρ a w) {v : V} (hv : v.under h.length = true) (d : Option Nat) : At c lim ρ0 h0 a0 w0 (putT t d v) h ρ (a.put d (v.conc ρ)) w :=
  ⟨relT_put A.RT (fun _ _ => rfl) rfl (Nat.le_refl _) (V.slot_of_under _ hv) d, A.RH, A.F, by obtain ⟨ms, d1, M⟩ := A.M; exact ⟨ms, by rw [put_defers]; exact d1, M⟩⟩
theorem At.turn (A : At c lim ρ0 h0 a0 w0 t h ρ a w) {r : Nat} {w' : World} (hr : w0.heap.size ≤ r) (hnm : ∀ i B, h[i]? = some (some B) → (ρ.blk i).nil = false → (ρ.blk i).n ≠ r) (hnd : ∀ x, w.heap[r]? ≠ some (.deferred x))
    (os : w'.os = w.os) (tp : w'.tape = w.tape) (ou : w'.output = w.output) (sz : w.heap.size ≤ w'.heap.size) (hb : ∀ k, k ≠ r → k < w.heap.size → w'.heap[k]? = w.heap[k]?) : At c lim ρ0 h0 a0 w0 t h ρ a w' := by
  refine ⟨A.RT, ⟨fun i B hi => (A.RH.cell i B hi).move (A.RH.sco i B hi) (fun _ _ => rfl) fun hn => hb _ (hnm i B hi hn) (A.RH.lt ⟨B, hi, hn⟩), A.RH.inj, A.RH.sco, A.RH.glob, A.RH.big, A.RH.base⟩,
    ⟨os.trans A.F.os, tp.trans A.F.tape, ou.trans A.F.output, Nat.le_trans A.F.size sz, fun k hk hn => ?_, A.F.ren, A.F.len, A.F.fresh, A.F.dead⟩, ?_⟩
  · rw [hb k (by omega) (Nat.lt_of_lt_of_le hk A.F.size)]
    exact A.F.blk k hk hn
  · obtain ⟨ms, d, M⟩ := A.M
    refine ⟨ms, d, M.keep fun D hD => ?_⟩
    rw [hb D (fun e => hnd _ (e ▸ hD)) (Array.getElem?_eq_some_iff.1 hD).1]
    exact hD
end
theorem getR_put (t : List V) (d s : Nat) (v : V) (h : d ≠ s) : getR (putT t (some d) v) s = getR t s := by
  simp only [putT, getR_eq, setR_eq]
  exact List.getElem?_set_ne h
theorem eval_put_self {a : Act} {d : Nat} {v : Value} (h : d < a.tmps.size) : (a.put (some d) v).eval (.tmp d) = v := by
  simp [Act.put, Act.eval, h]
structure MI (A : List MapEntry) (clock m0 r : Nat) (left : List Nat) (w : World) : Prop where
  wm : w.heap[m0]? = some (.map A.toArray clock)
  wi : ∃ seen last, w.heap[r]? = some (.mapIter (some m0) clock seen last) ∧ clock ≤ last ∧ ∀ j : Nat, j ∈ left ↔ ∃ e : MapEntry, A[j]? = some e ∧ seen.contains e.born = false
theorem mem_left {A : List MapEntry} {seen : Array Nat} {e : MapEntry} : e ∈ (leftOf A.toArray seen).toList ↔ e ∈ A ∧ seen.contains e.born = false := by
  simp [leftOf]
theorem tree_sound (hm : c.P.follows .mixedOrders = true) {cf : CF} (hcf : CallOk c cf) (hfn : ∀ f, c.fns f = true → Callable c.P f) {lim1 : Nat} (hL : c.L ≤ lim1) (hl1 : lim ≤ lim1) {fi : Nat} {m : MapPart} {r bm m0 clock : Nat} {es : List (Value × Value)} {A0 : List MapEntry}
    (hnr : (rangesIn m.body).isEmpty = true) (hes : ∀ (j : Nat) (x : MapEntry), A0[j]? = some x → es[j]? = some (x.key, x.val)) (hold : ∀ x ∈ A0, x.born < clock) (hN : (A0.map (·.born)).Nodup) (hbm : bm < lim1)
    {i10 i11 : Nat} {ops10 : Array Oper} {ty1 ty2 ty3 : TypeId} {p1 p2 p3 : String} {b1 b2 b3 : Array Edge}
    (h10 : ops10.toList = [⟨some m.nx, .next (.tmp m.it) false, ty1, p1, b1, none⟩, ⟨some m.mo, .extract (.tmp m.nx) 0, ty2, p2, b2, none⟩])
    (h11 : m.ops11.toList = ⟨some m.pair, .entry (.tmp m.it), ty3, p3, b3, none⟩ :: m.rest) (hd1 : m.nx ≠ m.it) (hd2 : m.mo ≠ m.it) (hd3 : m.nx ≠ m.mo)
    {ρ0 : Ren} {h0 : Heap} {a0 : Act} {w0 : World} (hln : lim ≤ h0.length) (hr0 : w0.heap.size ≤ r) :
    ∀ n left t h out, evTree c cf lim1 fi m r bm es n left t h = some out → (∀ p ∈ out.2, p) → lim1 ≤ h.length → getR t m.it = some (ptrR r) → (mapAt h bm).isSome = true →
      ∀ ρ a w, At c lim ρ0 h0 a0 w0 t h ρ a w → (ρ.blk bm).nil = false → (ρ.blk bm).n = m0 → MI A0 clock m0 r left w → ∀ Q : Exit → Act → World → Prop,
        (∀ p ∈ out.1, ∀ ρ' a' w', At c lim ρ0 h0 a0 w0 p.1 p.2 ρ' a' w' → Q (.exit m.out) a' w') →
        Code.roundsIn (FW none) 0 c.P (.seq (.region i10 ops10 false) (.seq (.cond (.tmp m.mo) .skip (.exit m.out)) (.block m.nxl (.seq (.region i11 m.ops11 false) m.body)))) Q n a w := by
  intro n
  induction n with
  | zero => intro left t h out he; simp [evTree] at he
  | succ n ih =>
    intro left t h out he hps hl hit hmp ρ a w A hbn hbm0 I Q hQ
    simp only [evTree] at he
    split at he
    rotate_left 1
    · cases he
    rename_i hlen
    obtain ⟨hnx, hmo⟩ := hlen
    rw [roundsIn_succ]
    obtain ⟨seen, last, wi, hle, hleft⟩ := I.wi
    have hev : a.eval (.tmp m.it) = .pointer (some ⟨r, 0, none⟩) := opnd_eval A.RH A.RT (x := .tmp m.it) (v := ptrR r) (by simp only [opnd, hit, ptrR])
    have hsz : a.tmps.size = t.length := by rw [A.RT.tmps]; simp [concs_length]
    have hnext := run_next_at (P := c.P) w ty1 r m0 clock last seen A0.toArray clock wi I.wm (by simpa using hold) hle
    refine wpIn_seq (wpIn_region_list ?_)
    rw [h10]
    refine wpListIn_plain rfl fun K hK => ?_
    cases left with
    | nil =>
      simp only [Option.some.injEq] at he
      subst he
      rcases hnext with ⟨hz, hrun⟩ | ⟨e, hme, _⟩
      · refine value_step (v := .tuple #[.bool false]) (w' := w) (by intro k; simp) ?_ (hK _ _ ?_)
        · generalize a.eval = g at hev ⊢
          simp only [execOp, hev]
          simp [go_sem, hrun]
        · refine wpListIn_plain rfl fun K2 hK2 => value_step (v := .bool false) (w' := w) (by intro k; simp) ?_ (hK2 _ _ (wpListIn_nil ?_))
          · have e1 : (a.put (some m.nx) (.tuple #[.bool false])).eval (.tmp m.nx) = .tuple #[.bool false] := eval_put_self (by omega)
            generalize (a.put (some m.nx) (.tuple #[.bool false])).eval = g at e1 ⊢
            simp [execOp, e1, Instr.extract, go_sem]
          · have A2 := (A.put (v := .raw (.tuple #[.bool false])) rfl (some m.nx)).put (v := .raw (.bool false)) rfl (some m.mo)
            refine wpIn_seq (wpIn_cond_false (eval_put_self ?_) (wpIn_exit ?_))
            · simp [Act.put]; omega
            · exact hQ _ (List.mem_singleton_self _) _ _ _ A2
      · obtain ⟨h1, h2⟩ := mem_left.1 hme
        obtain ⟨j, hj⟩ := List.getElem?_of_mem h1
        exact absurd ((hleft j).2 ⟨e, hj, h2⟩) (by simp)
    | cons j0 l0 =>
      simp only at he
      rcases hnext with ⟨hz, hrun⟩ | ⟨e, hme, w1, hw1, hrun⟩
      · obtain ⟨e0, k1, k2⟩ := (hleft j0).1 List.mem_cons_self
        have : e0 ∈ (leftOf A0.toArray seen).toList := mem_left.2 ⟨List.mem_of_getElem? k1, k2⟩
        have h3 : (leftOf A0.toArray seen).toList = [] := List.eq_nil_of_length_eq_zero (by simpa using hz)
        rw [h3] at this
        cases this
      · obtain ⟨h1, h2⟩ := mem_left.1 hme
        obtain ⟨j, hj⟩ := List.getElem?_of_mem h1
        have hjl := (hleft j).2 ⟨e, hj, h2⟩
        obtain ⟨y, hy1, hy2, hy3⟩ := gather_mem he _ (List.mem_map.2 ⟨j, hjl, rfl⟩)
        rw [hes j e hj] at hy1
        simp only at hy1
        split at hy1
        · cases hy1
        · rename_i x hx
          cases hT : evTree c cf lim1 fi m r bm es n (List.filter (fun x => x != j) (j0 :: l0)) x.1 x.2.1 with
          | none => rw [hT] at hy1; simp [withP] at hy1
          | some z =>
            rw [hT] at hy1
            simp only [withP, Option.some.injEq] at hy1
            subst hy1
            unfold evRound at hx
            split at hx
            · cases hx
            · rename_i q hq
              split at hx
              · cases hx
              · rename_i o ho
                split at hx
                rotate_left 1
                · cases hx
                · rename_i u1 u2 hgo hmq hmo2
                  simp only [Option.some.injEq] at hx
                  subst hx
                  have hps' : ∀ p ∈ (getR o.t m.it = some (ptrR r)) :: (q.cons ++ o.cons) ++ z.2, p := fun p hp => hps p (hy3 p hp)
                  have hitO : getR o.t m.it = some (ptrR r) := hps' _ List.mem_cons_self
                  -- the world behind 'next'
                  have hrlt : r < w.heap.size := (Array.getElem?_eq_some_iff.1 wi).1
                  have hwh : w1.heap = w.heap ∧ w1.os = w.os ∧ w1.tape = w.tape ∧ w1.output = w.output := by
                    rcases hw1 with rfl | rfl
                    · exact ⟨rfl, rfl, rfl, rfl⟩
                    · exact ⟨rfl, rfl, rfl, rfl⟩
                  generalize hw2 : ChangeMaps.setBlock w1 r (.mapIter (some m0) clock (seen.push e.born) clock) = w2 at hrun
                  have hw2k : ∀ k, k ≠ r → w2.heap[k]? = w.heap[k]? := fun k hk => by
                    rw [← hw2]
                    simp only [ChangeMaps.setBlock, hwh.1]
                    rw [Array.getElem?_setIfInBounds_ne (by omega)]
                  have hw2r : w2.heap[r]? = some (.mapIter (some m0) clock (seen.push e.born) clock) := by
                    rw [← hw2]
                    simp only [ChangeMaps.setBlock, hwh.1]
                    rw [Array.getElem?_setIfInBounds_self_of_lt hrlt]
                  have hm0r : m0 ≠ r := fun e0 => by
                    have := I.wm
                    rw [e0, wi] at this
                    cases this
                  have hnm : ∀ i B, h[i]? = some (some B) → (ρ.blk i).nil = false → (ρ.blk i).n ≠ r := fun i B hi hn e0 => (A.RH.cell i B hi).notIter hn (by rw [e0]; exact wi)
                  have A2 : At c lim ρ0 h0 a0 w0 t h ρ a w2 := A.turn hr0 hnm (fun x h0 => by rw [wi] at h0; cases h0) (by rw [← hw2]; exact hwh.2.1) (by rw [← hw2]; exact hwh.2.2.1) (by rw [← hw2]; exact hwh.2.2.2) (by rw [← hw2]; simp [ChangeMaps.setBlock, hwh.1]) (fun k hk _ => hw2k k hk)
                  have A4 := (A2.put (v := .raw (.tuple #[.bool true, e.key, e.val])) rfl (some m.nx)).put (v := .raw (.bool true)) rfl (some m.mo)
                  have A5 := A4.put (v := .raw (.tuple #[e.key, e.val])) rfl (some m.pair)
                  refine value_step (v := .tuple #[.bool true, e.key, e.val]) (w' := w2) (by intro k; simp) ?_ (hK _ _ ?_)
                  · generalize a.eval = g at hev ⊢
                    simp only [execOp, hev]
                    simp [go_sem, hrun]
                  · refine wpListIn_plain rfl fun K2 hK2 => value_step (v := .bool true) (w' := w2) (by intro k; simp) ?_ (hK2 _ _ (wpListIn_nil ?_))
                    · have e1 : (a.put (some m.nx) (.tuple #[.bool true, e.key, e.val])).eval (.tmp m.nx) = .tuple #[.bool true, e.key, e.val] := eval_put_self (by omega)
                      generalize (a.put (some m.nx) (.tuple #[.bool true, e.key, e.val])).eval = g at e1 ⊢
                      simp [execOp, e1, Instr.extract, go_sem]
                    · refine wpIn_seq (wpIn_cond_true (eval_put_self ?_) (wpIn_skip ?_))
                      · simp [Act.put]; omega
                      · refine wpIn_block (wpIn_seq (wpIn_region_list ?_))
                        rw [h11]
                        refine wpListIn_plain rfl fun K3 hK3 => value_step (v := .tuple #[e.key, e.val]) (w' := w2) (by intro k; simp) ?_ (hK3 _ _ ?_)
                        · have e1 : ((a.put (some m.nx) (.tuple #[.bool true, e.key, e.val])).put (some m.mo) (.bool true)).eval (.tmp m.it) = .pointer (some ⟨r, 0, none⟩) := opnd_eval A4.RH A4.RT (x := .tmp m.it) (v := ptrR r) (by
                            simp only [opnd]
                            rw [getR_put _ _ _ _ hd2, getR_put _ _ _ _ hd1, hit]
                            rfl)
                          have hent := run_entry_at (P := c.P) w2 r m0 clock seen A0.toArray clock e hw2r (by rw [hw2k m0 hm0r]; exact I.wm) (by simpa using h1) (by simpa using hN)
                          simp only [V.conc]
                          generalize ((a.put (some m.nx) (.tuple #[.bool true, e.key, e.val])).put (some m.mo) (.bool true)).eval = g at e1 ⊢
                          simp only [execOp, e1]
                          simp [go_sem, hent]
                        · refine evOps_sound hcf hfn hL m.rest _ _ _ q ρ _ w2 hq (fun p hp => hps' p (List.mem_append_left _ (List.mem_cons_of_mem _ (List.mem_append_left _ hp)))) hl A5.RH A5.RT fun ρ6 a6 w6 hu6 hd6 RT6 RH6 F6 => ?_
                          have A6 : At c lim ρ0 h0 a0 w0 q.t q.h ρ6 a6 w6 := ⟨RT6, RH6, A5.F.trans ((F6.mono hl1).fewer A5.F.len hln), by
                            obtain ⟨ms, d5, M5⟩ := A5.M
                            exact ⟨ms, by rw [hd6]; exact d5, M5.keep fun D hD => F6.keep A5.RH hD⟩⟩
                          have hlq : lim1 ≤ q.h.length := Nat.le_trans hl F6.len
                          have hrun2 := evCode_sound hm hcf hfn hL (rnd := none) (fi := fi) m.body 0 _ _ _ _ ho (fun p hp => hps' p (List.mem_append_left _ (List.mem_cons_of_mem _ (List.mem_append_right _ hp)))) hlq (fun b e => by cases e) (noRanges hnr)
                          refine A6.go hln hl1 hrun2 fun ρ7 a7 w7 A7 F7 => ?_
                          have fin : Code.roundsIn (FW none) 0 c.P (.seq (.region i10 ops10 false) (.seq (.cond (.tmp m.mo) .skip (.exit m.out)) (.block m.nxl (.seq (.region i11 m.ops11 false) m.body)))) Q n a7 w7 := by
                            have hmp0 : ∃ a b d e, h[bm]? = some (some (.mp a b d e)) := by
                              obtain ⟨u, hu⟩ := Option.isSome_iff_exists.1 hmp
                              obtain ⟨ua, ub, uc, ud⟩ := u
                              exact ⟨ua, ub, uc, ud, (mapAt_ok hu).1⟩
                            obtain ⟨ua, ub, uc, ud⟩ := u1
                            have hmq1 := (mapAt_ok hmq).1
                            obtain ⟨va, vb, vc, vd, hmp1⟩ := hmp0
                            have r6 : ρ6.blk bm = ρ.blk bm := F6.ren bm (by omega)
                            have r7 : ρ7.blk bm = ρ6.blk bm := F7.ren bm (by omega)
                            have n6 : ∀ i, lim1 ≤ i → lw ρ h i → (ρ.blk i).n ≠ m0 := fun i hi hw e0 => by
                              have := A5.RH.inj i bm hw ⟨_, hmp1, hbn⟩ (by rw [e0, hbm0])
                              omega
                            have n7 : ∀ i, lim1 ≤ i → lw ρ6 q.h i → (ρ6.blk i).n ≠ m0 := fun i hi hw e0 => by
                              have := A6.RH.inj i bm hw ⟨_, hmq1, by rw [r6]; exact hbn⟩ (by rw [e0, r6, hbm0])
                              omega
                            have hm0lt : m0 < w2.heap.size := by
                              have := I.wm
                              rw [← hw2k m0 hm0r] at this
                              exact (Array.getElem?_eq_some_iff.1 this).1
                            have hr2lt : r < w2.heap.size := (Array.getElem?_eq_some_iff.1 hw2r).1
                            have s6 : w6.heap[r]? = some (.mapIter (some m0) clock (seen.push e.born) clock) := by
                              rw [F6.blk r hr2lt fun i _ hw e0 => by
                                obtain ⟨B, q1, _, q3⟩ := hw
                                exact (A5.RH.cell i B q1).notIter q3 (by rw [e0]; exact hw2r)]
                              exact hw2r
                            have s7 : w7.heap[r]? = some (.mapIter (some m0) clock (seen.push e.born) clock) := by
                              rw [F7.blk r (Array.getElem?_eq_some_iff.1 s6).1 fun i _ hw e0 => by
                                obtain ⟨B, q1, _, q3⟩ := hw
                                exact (A6.RH.cell i B q1).notIter q3 (by rw [e0]; exact s6)]
                              exact s6
                            have m7 : w7.heap[m0]? = some (.map A0.toArray clock) := by
                              rw [F7.blk m0 (Nat.lt_of_lt_of_le hm0lt F6.size) n7, F6.blk m0 hm0lt n6, hw2k m0 hm0r]
                              exact I.wm
                            refine ih _ _ _ z hT (fun p hp => hps' p (List.mem_append_right _ hp)) (Nat.le_trans hlq F7.len) hitO (by rw [hmo2]; rfl) ρ7 a7 w7 A7 (by rw [r7, r6]; exact hbn) (by rw [r7, r6]; exact hbm0) ⟨m7, seen.push e.born, clock, s7, Nat.le_refl _, fun j' => ?_⟩ Q (fun p hp => hQ p (hy2 p hp))
                            rw [List.mem_filter]
                            constructor
                            · rintro ⟨k1, k2⟩
                              obtain ⟨e', k3, k4⟩ := (hleft j').1 k1
                              refine ⟨e', k3, ?_⟩
                              have hne : e'.born ≠ e.born := fun e0 => by
                                have h5 : (A0.map (·.born))[j']? = (A0.map (·.born))[j]? := by simp [k3, hj, e0]
                                have h6 : j' < (A0.map (·.born)).length := by
                                  rw [List.length_map]
                                  exact (List.getElem?_eq_some_iff.1 k3).1
                                have := (List.getElem?_inj h6 hN).1 h5
                                subst this
                                simp at k2
                              simp only [Array.contains_push, Bool.or_eq_false_iff]
                              first
                                | exact ⟨k4, by simpa using hne⟩
                                | exact ⟨by simpa using hne, k4⟩
                                | (simp_all)
                            · rintro ⟨e', k3, k4⟩
                              have k5 : seen.contains e'.born = false ∧ e'.born ≠ e.born := by
                                simp only [Array.contains_push, Bool.or_eq_false_iff] at k4
                                first
                                  | exact ⟨k4.1, by simpa using k4.2⟩
                                  | exact ⟨k4.2, by simpa using k4.1⟩
                                  | (simp_all)
                              refine ⟨(hleft j').2 ⟨e', k3, k5.1⟩, ?_⟩
                              have : j' ≠ j := fun e0 => by
                                subst e0
                                rw [hj] at k3
                                cases k3
                                exact k5.2 rfl
                              simpa using this
                          cases hoe : o.e with
                          | normal => exact fin
                          | exit i =>
                            rw [hoe] at hgo
                            simp only [goesOn, beq_iff_eq] at hgo
                            subst hgo
                            simp only [Ex.to, Exit.inBlock, if_true]
                            exact fin
                          | ret => rw [hoe] at hgo; simp [goesOn] at hgo
end
def valEq : Value → Value → Bool
  | .int k a, .int k' b => decide (k = k') && decide (a = b)
  | .bool a, .bool b => a == b
  | .string a, .string b => decide (a = b)
  | _, _ => false
def rowEq : List V → List V → Bool
  | [], [] => true
  | .raw x :: l, .raw y :: m => match valEq x y with
    | true => rowEq l m
    | false => false
  | _, _ => false
theorem valEq_ok {x y : Value} (h : valEq x y = true) : x = y := by
  cases x <;> cases y <;> simp_all [valEq]
theorem rowEq_ok : ∀ {l m : List V}, rowEq l m = true → l = m
  | [], [], _ => rfl
  | [], _ :: _, h => by simp [rowEq] at h
  | x :: l, [], h => by cases x <;> simp [rowEq] at h
  | x :: l, y :: m, h => by
    cases x <;> cases y <;> simp only [rowEq, Bool.false_eq_true] at h
    split at h
    · rename_i he
      rw [valEq_ok he, rowEq_ok h]
    · cases h
def rowOut (n : Nat) (N0 : List V) (v : V) (H : Heap) : Option (V × Heap) := match v with
  | .slo b k => match H[b]? with
    | some (some (.cells N U own)) => if n ≤ b ∧ cleanH n n H = true ∧ unders 0 N0 = true ∧ n ≤ H.length ∧ rowEq N N0 = true then some (.slo n k, H.take n ++ [some (.cells N0 U own)]) else none
    | _ => none
  | _ => none
def nodupB : List Nat → Bool
  | [] => true
  | b :: l => !l.contains b && nodupB l
theorem nodupB_ok : ∀ {l : List Nat}, nodupB l = true → l.Nodup
  | [], _ => List.nodup_nil
  | b :: l, h => by
    simp only [nodupB, Bool.and_eq_true, Bool.not_eq_true'] at h
    exact List.nodup_cons.2 ⟨by simpa using h.1, nodupB_ok h.2⟩
def isMapT (c : Cfg) (T : TypeId) : Bool := match pureRun c.P (underlying T) with
  | some (.map _ _) => true
  | _ => false
def evPart (c : Cfg) (cf : CF) (fi r : Nat) (m : MapPart) (t : List V) (h : Heap) : Option (List (List V × Heap) × List Prop) :=
  match opnd c t m.y with
  | some (.mp bm) => match mapAt h bm with
    | some (ks, vs, bs, k) => match raws vs with
      | some us => if (isMapT c m.T && bs.all (fun b => decide (b < k)) && nodupB bs) = true ∧ m.it < t.length ∧ m.d8 < t.length ∧ c.L ≤ h.length then
          evTree c cf h.length fi m r bm (ks.zip us) (ks.length + 1) (List.range ks.length) (putT (putT t (some m.d8) (.mp bm)) (some m.it) (ptrR r)) h
        else none
      | none => none
    | none => none
  | _ => none
def ends : Ex → Bool
  | .exit _ => false
  | _ => true
def evTails {β : Type} (f : List V × Heap → List Ans → Option (β × List Prop)) : List (List V × Heap) → List (List Ans) → Option (List β × List Prop)
  | [], _ => some ([], [])
  | _ :: _, [] => none
  | p :: l, q :: qs => match f p q with
    | none => none
    | some x => match evTails f l qs with
      | none => none
      | some y => some (x.1 :: y.1, x.2 ++ y.2)
def evTail (c : Cfg) (cf : CF) (lim fi n : Nat) (N0 : List V) (res : List ResultVar) (y : Code) (p : List V × Heap) (q : List Ans) : Option ((V × Heap) × List Prop) :=
  match evCode c cf lim none fi y 0 p.1 p.2 q with
  | none => none
  | some o => match ends o.e with
    | false => none
    | true => match resultsV c o.t o.h res with
      | none => none
      | some vs => match rowOut n N0 (oneOf vs) o.h with
        | none => none
        | some z => some (z, o.cons)
def evN (c : Cfg) (cf : CF) (lim fi r n : Nat) (N0 : List V) (res : List ResultVar) (qs : List (List Ans)) : Code → List V → Heap → List Ans → Option (List (V × Heap) × List Prop)
  | .seq x y, t, h, ans => match mapPart x with
    | some m => match evPart c cf fi r m t h with
      | none => none
      | some l => withP l.2 (evTails (evTail c cf lim fi n N0 res y) l.1 qs)
    | none => match evCode c cf lim none fi x 0 t h ans with
      | none => none
      | some o => match o.e with
        | .normal => withP o.cons (evN c cf lim fi r n N0 res qs y o.t o.h o.ans)
        | _ => none
  | _, _, _, _ => none
def evAny (c : Cfg) (n : Nat) (f : FuncId) (args : List V) (h : Heap) (lim r : Nat) (N0 : List V) (ans : List Ans) (qs : List (List Ans)) : Option (List (V × Heap) × List Prop) :=
  match c.P.funcs[f]? with
  | none => none
  | some fn => match fn.body with
    | none => none
    | some code => match (rangesIn code).isEmpty with
      | true => evN c ⟨evFunc c n, evYlds c (evFunc c n) 3⟩ lim f r h.length N0 fn.results.toList qs code (args ++ List.replicate (fn.ntmps - args.length) (.raw undef)) h ans
      | false => none
theorem evTails_mem {β : Type} {f : List V × Heap → List Ans → Option (β × List Prop)} : ∀ {l : List (List V × Heap)} {qs : List (List Ans)} {out : List β × List Prop}, evTails f l qs = some out → ∀ p ∈ l, ∃ q y, f p q = some y ∧ y.1 ∈ out.1 ∧ ∀ u ∈ y.2, u ∈ out.2
  | [], _, _, _, p, hp => by cases hp
  | _ :: _, [], _, h, _, _ => by simp [evTails] at h
  | z :: l, q :: qs, out, h, p, hp => by
    simp only [evTails] at h
    split at h
    · cases h
    · rename_i x hx
      split at h
      · cases h
      · rename_i y hy
        simp only [Option.some.injEq] at h
        subst h
        rcases List.mem_cons.1 hp with rfl | hp
        · exact ⟨q, x, hx, List.mem_cons_self, fun u hu => List.mem_append_left _ hu⟩
        · obtain ⟨q', y', h1, h2, h3⟩ := evTails_mem hy p hp
          exact ⟨q', y', h1, List.mem_cons_of_mem _ h2, fun u hu => List.mem_append_right _ (h3 u hu)⟩
section
variable {c : Cfg} {lim : Nat}
theorem post_row {ρ : Ren} {h H h' : Heap} {w w' : World} {v v' : V} {e : Ending} (RH : RelH c ρ h w) (hL : c.L ≤ lim) (hl : lim ≤ h.length) {N0 : List V} (hr : rowOut h.length N0 v H = some (v', h')) (hp : Post c lim ρ h w v H e w') : Post c lim ρ h w v' h' e w' := by
  unfold rowOut at hr
  split at hr
  · rename_i b k
    split at hr
    · rename_i N U own hN
      split at hr
      · rename_i hc
        obtain ⟨hb, hc, hun, hnl, heq⟩ := hc
        obtain rfl := rowEq_ok heq
        simp only [Option.some.injEq, Prod.mk.injEq] at hr
        obtain ⟨rfl, rfl⟩ := hr
        obtain ⟨ρ', h1, h2, R, F, h5⟩ := hp
        have hn : (H.take h.length).length = h.length := by rw [List.length_take]; omega
        have hlen : (H.take h.length ++ [some (Blk.cells N U own)]).length = h.length + 1 := by simp [hn]
        have hget : ∀ {i : Nat} {X : Blk}, (H.take h.length ++ [some (Blk.cells N U own)])[i]? = some (some X) → (i < h.length ∧ H[i]? = some (some X)) ∨ (i = h.length ∧ X = .cells N U own) := fun {i X} hi => by
          rcases get_push hi with ⟨q1, q2⟩ | ⟨q1, q2⟩
          · rw [hn] at q1
            rw [List.getElem?_take, if_pos q1] at q2
            exact .inl ⟨q1, q2⟩
          · rw [hn] at q1
            cases q2
            exact .inr ⟨q1, rfl⟩
        have hlo : ∀ i, i < h.length → (ρ'.push h.length (ρ'.blk b)).blk i = ρ'.blk i := fun i hi => push_old hi
        have cellN : BlkOk c.P (ρ'.push h.length (ρ'.blk b)) (ρ'.blk b) w' (.cells N U own) := (R.cell b _ hN).move (n := 0) hun (fun i hi => by omega) (fun _ => rfl)
        have src : ∀ {i : Nat} {X : Blk}, (H.take h.length ++ [some (Blk.cells N U own)])[i]? = some (some X) → ∃ j, H[j]? = some (some X) ∧ (ρ'.push h.length (ρ'.blk b)).blk i = ρ'.blk j ∧ (i < h.length → j = i) ∧ (i = h.length → j = b) := fun {i X} hi => by
          rcases hget hi with ⟨q1, q2⟩ | ⟨rfl, rfl⟩
          · exact ⟨i, q2, hlo i q1, fun _ => rfl, fun e => by omega⟩
          · exact ⟨b, hN, push_new, fun e => by omega, fun _ => rfl⟩
        refine ⟨ρ'.push h.length (ρ'.blk b), h1, ?_, ⟨fun i B hi => ?_, fun i j hi hj he => ?_, fun i B hi => ?_, fun p hp => ?_, by rw [hlen]; omega, fun i hi => ?_⟩, ⟨F.os, F.tape, F.output, F.size, F.blk, fun i hi => by rw [hlo i hi]; exact F.ren i hi, by rw [hlen]; omega, fun i hi hw => ?_, fun i hi hw => ?_⟩, by rw [hlen]; simp [V.under]⟩
        · rw [h2]; simp only [V.conc, push_new]
        · rcases hget hi with ⟨q1, q2⟩ | ⟨rfl, rfl⟩
          · rw [hlo i q1]
            exact (R.cell i B q2).move (cleanH_ok _ _ hc i B q1 q2) (fun j hj => hlo j hj) (fun _ => rfl)
          · rw [push_new]
            exact cellN
        · obtain ⟨C, a1, a2, a3⟩ := hi
          obtain ⟨D, b1, b3⟩ := hj
          obtain ⟨x, x1, x2, x3, x4⟩ := src a1
          obtain ⟨y, y1, y2, y3, y4⟩ := src b1
          rw [x2] at a3 he
          rw [y2] at b3 he
          have e0 := R.inj x y ⟨C, x1, a2, a3⟩ ⟨D, y1, b3⟩ he
          rcases hget a1 with ⟨q1, _⟩ | ⟨q1, _⟩ <;> rcases hget b1 with ⟨k1, _⟩ | ⟨k1, _⟩
          · have := x3 q1; have := y3 k1; omega
          · have := x3 q1; have := y4 k1; omega
          · have := x4 q1; have := y3 k1; omega
          · omega
        · rw [hlen]
          rcases hget hi with ⟨q1, q2⟩ | ⟨rfl, rfl⟩
          · exact Blk.under_mono (by omega) _ (cleanH_ok _ _ hc i B q1 q2)
          · exact unders_mono (by omega) _ hun
        · obtain ⟨g1, g2, g3⟩ := R.glob p hp
          have g4 := (RH.glob p hp).2.2
          rw [hlo _ g4, hlen]
          exact ⟨g1, g2, by omega⟩
        · rw [List.getElem?_append_left (by rw [hn]; omega), List.getElem?_take, if_pos (by omega)]
          exact R.base i hi
        · obtain ⟨C, a1, a2, a3⟩ := hw
          rcases hget a1 with ⟨q1, _⟩ | ⟨rfl, hX⟩
          · omega
          · rw [push_new] at a3 ⊢
            subst hX
            exact F.fresh b hb ⟨_, hN, a2, a3⟩
        · obtain ⟨C, a1, a2, a3⟩ := hw
          rcases hget a1 with ⟨q1, q2⟩ | ⟨rfl, _⟩
          · rw [hlo i q1] at a3
            exact F.dead i hi ⟨C, q2, a2, a3⟩
          · omega
      · cases hr
    · cases hr
  · cases hr
theorem ents_bz : ∀ {ks vs : List Value} {bs : List Nat}, ks.length = vs.length → ks.length = bs.length → (mapEnts ks vs bs).map (·.born) = bs ∧ (mapEnts ks vs bs).map (fun x => (x.key, x.val)) = ks.zip vs
  | [], [], [], _, _ => ⟨rfl, rfl⟩
  | [], _ :: _, _, h, _ => by simp at h
  | [], [], _ :: _, _, h => by simp at h
  | _ :: _, [], _, h, _ => by simp at h
  | _ :: _, _ :: _, [], _, h => by simp at h
  | k :: ks, v :: vs, b :: bs, h1, h2 => by
    obtain ⟨e1, e2⟩ := ents_bz (ks := ks) (vs := vs) (bs := bs) (by simpa using h1) (by simpa using h2)
    have ee : mapEnts (k :: ks) (v :: vs) (b :: bs) = ⟨k, v, b⟩ :: mapEnts ks vs bs := rfl
    rw [ee]
    simp only [List.map_cons, e1, e2, List.zip_cons_cons, and_self]
theorem part_sound (hm : c.P.follows .mixedOrders = true) {cf : CF} (hcf : CallOk c cf) (hfn : ∀ f, c.fns f = true → Callable c.P f) {fi : Nat} {x : Code} {m : MapPart} (hx : mapPart x = some m) (hnr : (rangesIn x).isEmpty = true)
    {t : List V} {h : Heap} {out : Nat → List (List V × Heap) × List Prop} (he : ∀ r, evPart c cf fi r m t h = some (out r)) (hps : ∀ r, ∀ p ∈ (out r).2, p) (hl : lim ≤ h.length)
    {ρ0 : Ren} {h0 : Heap} {a0 : Act} {w0 : World} {ρ : Ren} {a : Act} {w : World} (hln : lim ≤ h0.length) (A : At c lim ρ0 h0 a0 w0 t h ρ a w) {Q : Exit → Act → World → Prop}
    (hQ : ∀ r, ∀ p ∈ (out r).1, ∀ ρ' a' w', At c lim ρ0 h0 a0 w0 p.1 p.2 ρ' a' w' → Q .normal a' w') : x.wpIn (FW none) 0 c.P Q a w := by
  unfold mapPart at hx
  split at hx
  · rename_i i9 ops9 lo i10 ops10 mo lo2 nxl i11 ops11 body
    split at hx
    · rename_i d8 y ty8 p8 a8 it T d9 ty9 p9 a9 nx it2 ty1 p1 a1 mo2 nx2 ty2 p2 a2 pair it3 ty3 p3 a3 rest h9 h10 h11
      split at hx
      · rename_i hc
        obtain ⟨rfl, rfl, rfl, rfl, rfl, rfl, c1, c2, c3, c4, c5⟩ := hc
        simp only [Option.some.injEq] at hx
        subst hx
        have her := he w.heap.size
        have hpr := hps w.heap.size
        have hQr := hQ w.heap.size
        unfold evPart at her
        split at her
        · rename_i bm hy
          split at her
          · rename_i ks vs bs k hma
            split at her
            · rename_i us hus
              split at her
              · rename_i hcond
                obtain ⟨hcond, hitl, hd8l, hLl⟩ := hcond
                simp only [Bool.and_eq_true, List.all_eq_true, decide_eq_true_eq] at hcond
                obtain ⟨⟨hT, hbk⟩, hnd⟩ := hcond
                obtain ⟨hB, l1, l2⟩ := mapAt_ok hma
                obtain ⟨hbn, hw⟩ := A.RH.cell bm _ hB
                have hcv : concs ρ vs = us := raws_concs ρ vs us hus
                rw [hcv] at hw
                have lu : ks.length = us.length := by rw [← hcv, concs_length]; exact l1
                have hylt : (V.mp bm).under h.length = true := by
                  have := lt_len hB
                  simpa [V.under] using this
                have hTT : ∃ kt el, pureRun c.P (underlying T) = some (.map kt el) := by
                  unfold isMapT at hT
                  split at hT
                  · rename_i kt el hk; exact ⟨kt, el, hk⟩
                  · cases hT
                obtain ⟨kt, el, hTT⟩ := hTT
                refine wpIn_seq (wpIn_region_list ?_)
                rw [h9]
                have ey : a.eval y = .map (some (ρ.blk bm).n) := opnd_eval A.RH A.RT hy
                refine wpListIn_plain rfl fun K hK => value_step (v := .map (some (ρ.blk bm).n)) (w' := w) (by intro k; simp) ?_ (hK _ _ ?_)
                · generalize a.eval = g at ey ⊢
                  simp [execOp, ey, go_sem]
                · have A1 := A.put hylt (some d8)
                  have e8 : (a.put (some d8) (.map (some (ρ.blk bm).n))).eval (.tmp d8) = .map (some (ρ.blk bm).n) := eval_put_self (by rw [A.RT.tmps]; simpa [concs_length] using hd8l)
                  have r0 := pureRun_run hTT w
                  have hg : (getObj (ρ.blk bm).n).run c.P w = .ok (.map (mapEnts ks us bs).toArray k) w := by simp [getObj, Sem.run, hw]
                  refine wpListIn_plain rfl fun K2 hK2 => value_step (v := .pointer (some ⟨w.heap.size, 0, none⟩)) (w' := w.alloc (.mapIter (some (ρ.blk bm).n) k #[] k)) (by intro k; simp) ?_ (hK2 _ _ (wpListIn_nil ?_))
                  · generalize (a.put (some d8) (.map (some (ρ.blk bm).n))).eval = g at e8 ⊢
                    simp only [execOp, e8, Instr.range, newObj]
                    generalize underlying T = s at r0 ⊢
                    simp [go_sem, r0, hg]
                    try rfl
                  · have A2 : At c lim ρ0 h0 a0 w0 (putT t (some d8) (.mp bm)) h ρ (a.put (some d8) (.map (some (ρ.blk bm).n))) (w.alloc (.mapIter (some (ρ.blk bm).n) k #[] k)) := A1.turn (r := w.heap.size) A.F.size (fun i B hi hn e0 => by have := A.RH.lt ⟨B, hi, hn⟩; omega) (fun x e0 => by simp at e0) rfl rfl rfl (by simp) (fun j _ hj => Below.heap_alloc _ _ _ hj)
                    have A3 := A2.put (v := ptrR w.heap.size) rfl (some it)
                    obtain ⟨z1, z2⟩ := ents_bz (vs := us) (bs := bs) lu l2
                    have zl : (mapEnts ks us bs).length = ks.length := by
                      have := congrArg List.length z1
                      rw [List.length_map] at this
                      omega
                    have hmlt : (ρ.blk bm).n < w.heap.size := (Array.getElem?_eq_some_iff.1 hw).1
                    refine wpIn_block (wpIn_loop_rounds (ks.length + 1) (tree_sound (lim := lim) (m := ⟨d8, y, it, T, lo, nx, mo, nxl, ops11, pair, rest, body⟩) (A0 := mapEnts ks us bs) (clock := k) (m0 := (ρ.blk bm).n) hm hcf hfn (lim1 := h.length) hLl hl ?_ (fun j x hj => ?_) (fun x hxm => ?_) (by rw [z1]; exact nodupB_ok hnd) (lt_len hB) h10 h11 c2 c3 c5 hln A.F.size _ _ _ _ _ her hpr (Nat.le_refl _) ?_ (by rw [hma]; rfl) ρ _ _ A3 hbn rfl ⟨?_, #[], k, alloc_this _ _, Nat.le_refl _, fun j => ?_⟩ _ fun p hp ρ' a' w' A' => ?_))
                    · simp only [rangesIn] at hnr
                      simpa using hnr
                    · have := congrArg (fun l => l[j]?) z2
                      simp only [List.getElem?_map, hj, Option.map_some] at this
                      exact this.symm
                    · have : x.born ∈ bs := by rw [← z1]; exact List.mem_map.2 ⟨x, hxm, rfl⟩
                      exact hbk _ this
                    · simp only [putT, getR_eq, setR_eq]
                      rw [List.getElem?_set_self (by simpa using hitl)]
                    · rw [Below.heap_alloc _ _ _ hmlt]
                      exact hw
                    · rw [List.mem_range]
                      constructor
                      · intro hj
                        exact ⟨(mapEnts ks us bs)[j], List.getElem?_eq_getElem (by omega), by simp⟩
                      · rintro ⟨e, he, _⟩
                        have := (List.getElem?_eq_some_iff.1 he).1
                        omega
                    · simp only [Exit.inBlock, if_true]
                      exact hQr p hp ρ' a' w' A'
              · cases her
            · cases her
          · cases her
        · cases her
      · cases hx
    · cases hx
  · cases hx
theorem withP_some {α : Type} {ps : List Prop} {x : Option (List α × List Prop)} {y : List α × List Prop} (h : withP ps x = some y) : ∃ z, x = some z ∧ y = (z.1, ps ++ z.2) := by
  cases x with
  | none => simp [withP] at h
  | some z => simp only [withP, Option.some.injEq] at h; exact ⟨z, rfl, h.symm⟩
theorem evN_sound (hm : c.P.follows .mixedOrders = true) {cf : CF} (hcf : CallOk c cf) (hfn : ∀ f, c.fns f = true → Callable c.P f) (hL : c.L ≤ lim) {fi n : Nat} {N0 : List V} {res : List ResultVar} {qs : List (List Ans)}
    {ρ0 : Ren} {h0 : Heap} {a0 : Act} {w0 : World} (hln : lim ≤ h0.length) :
    ∀ (code : Code) (t : List V) (h : Heap) (ans : List Ans) (out : Nat → List (V × Heap) × List Prop), (∀ r, evN c cf lim fi r n N0 res qs code t h ans = some (out r)) → (∀ r, ∀ p ∈ (out r).2, p) → lim ≤ h.length → (rangesIn code).isEmpty = true →
      ∀ ρ a w, At c lim ρ0 h0 a0 w0 t h ρ a w → ∀ Q : Exit → Act → World → Prop,
        (∀ r, ∀ z ∈ (out r).1, ∀ x ρ' a' w' T H vs, (x = Exit.normal ∨ x = Exit.ret) → At c lim ρ0 h0 a0 w0 T H ρ' a' w' → resultsV c T H res = some vs → rowOut n N0 (oneOf vs) H = some z → Q x a' w') → code.wpIn (FW none) 0 c.P Q a w := by
  intro code
  induction code with
  | seq x y ihx ihy =>
    intro t h ans out he hps hl hnr ρ a w A Q hQ
    have hnx : (rangesIn x).isEmpty = true ∧ (rangesIn y).isEmpty = true := by simpa [rangesIn] using hnr
    cases hx : mapPart x with
    | some m =>
      have hE : ∀ r, ∃ l, evPart c cf fi r m t h = some l ∧ ∃ z, evTails (evTail c cf lim fi n N0 res y) l.1 qs = some z ∧ out r = (z.1, l.2 ++ z.2) := fun r => by
        have := he r
        simp only [evN, hx] at this
        split at this
        · cases this
        · rename_i l hl'
          obtain ⟨z, z1, z2⟩ := withP_some this
          exact ⟨l, hl', z, z1, z2⟩
      let l : Nat → List (List V × Heap) × List Prop := fun r => Classical.choose (hE r)
      have hl1 : ∀ r, evPart c cf fi r m t h = some (l r) := fun r => (Classical.choose_spec (hE r)).1
      have hl2 : ∀ r, ∃ z, evTails (evTail c cf lim fi n N0 res y) (l r).1 qs = some z ∧ out r = (z.1, (l r).2 ++ z.2) := fun r => (Classical.choose_spec (hE r)).2
      refine wpIn_seq (part_sound (out := l) hm hcf hfn hx hnx.1 hl1 (fun r p hp => ?_) hl hln A fun r p hp ρ' a' w' A' => ?_)
      · obtain ⟨z, _, z2⟩ := hl2 r
        exact hps r p (by rw [z2]; exact List.mem_append_left _ hp)
      · obtain ⟨z, z1, z2⟩ := hl2 r
        obtain ⟨q, u, h1, h2, h3⟩ := evTails_mem z1 p hp
        show y.wpIn _ _ _ Q a' w'
        unfold evTail at h1
        split at h1
        · cases h1
        · rename_i o ho
          split at h1
          · cases h1
          · rename_i hend
            split at h1
            · cases h1
            · rename_i vs hvs
              split at h1
              · cases h1
              · rename_i z0 hz0
                simp only [Option.some.injEq] at h1
                subst h1
                have hlp : lim ≤ p.2.length := Nat.le_trans hln A'.F.len
                have hrun := evCode_sound hm hcf hfn hL (rnd := none) (fi := fi) y 0 _ _ _ _ ho (fun v hv => hps r v (by rw [z2]; exact List.mem_append_right _ (h3 v hv))) hlp (fun b e => by cases e) (noRanges hnx.2)
                refine A'.go hln (Nat.le_refl _) hrun fun ρ7 a7 w7 A7 F7 => ?_
                refine hQ r z0 (by rw [z2]; exact h2) o.e.to ρ7 a7 w7 o.t o.h vs ?_ A7 hvs hz0
                cases hoe : o.e with
                | normal => exact .inl rfl
                | ret => exact .inr rfl
                | exit i => rw [hoe] at hend; simp [ends] at hend
    | none =>
      have he' : ∀ r, (match evCode c cf lim none fi x 0 t h ans with
        | none => none
        | some o => match o.e with
          | .normal => withP o.cons (evN c cf lim fi r n N0 res qs y o.t o.h o.ans)
          | _ => none) = some (out r) := fun r => by
        have := he r
        simp only [evN, hx] at this
        exact this
      cases ho : evCode c cf lim none fi x 0 t h ans with
      | none => have := he' 0; rw [ho] at this; cases this
      | some o =>
        cases hoe : o.e with
        | exit i => have := he' 0; rw [ho] at this; simp only [hoe] at this; cases this
        | ret => have := he' 0; rw [ho] at this; simp only [hoe] at this; cases this
        | normal =>
          have hE : ∀ r, ∃ z, evN c cf lim fi r n N0 res qs y o.t o.h o.ans = some z ∧ out r = (z.1, o.cons ++ z.2) := fun r => by
            have := he' r
            rw [ho] at this
            simp only [hoe] at this
            exact withP_some this
          let l : Nat → List (V × Heap) × List Prop := fun r => Classical.choose (hE r)
          have hl1 : ∀ r, evN c cf lim fi r n N0 res qs y o.t o.h o.ans = some (l r) := fun r => (Classical.choose_spec (hE r)).1
          have hl2 : ∀ r, out r = ((l r).1, o.cons ++ (l r).2) := fun r => (Classical.choose_spec (hE r)).2
          have hrun := evCode_sound hm hcf hfn hL (rnd := none) (fi := fi) x 0 _ _ _ _ ho (fun v hv => hps 0 v (by rw [hl2 0]; exact List.mem_append_left _ hv)) hl (fun b e => by cases e) (noRanges hnx.1)
          rw [hoe] at hrun
          refine wpIn_seq (A.go hln (Nat.le_refl _) hrun fun ρ7 a7 w7 A7 F7 => ?_)
          show y.wpIn _ _ _ Q a7 w7
          exact ihy _ _ _ l hl1 (fun r p hp => hps r p (by rw [hl2 r]; exact List.mem_append_right _ hp)) (Nat.le_trans hl F7.len) hnx.2 ρ7 a7 w7 A7 Q (fun r z hz => hQ r z (by rw [hl2 r]; exact hz))
  | _ =>
    intro t h ans out he
    have := he 0
    simp [evN] at this
theorem meets_any (hm : c.P.follows .mixedOrders = true) (hfn : ∀ f, c.fns f = true → Callable c.P f) (hL : c.L ≤ lim) {n k : Nat} {f : FuncId} {args : List V} {h h' : Heap} (hl : lim ≤ h.length) {ans : List Ans} {qs : List (List Ans)} {N0 : List V} {v : V} {ps : Nat → List Prop}
    (he : ∀ r, evAny c n f args h lim r N0 ans qs = some (List.replicate k (v, h'), ps r)) (hp : ∀ r, Paid (ps r)) : Meets c lim f args h v h' := by
  intro ρ w RH hu
  have hcf := evYlds_sound (c := c) hm hfn (call := evFunc c n) (fun f args h lim ans out => evFunc_sound hm hfn n f args h lim ans out) 3
  unfold evAny at he
  cases hf : c.P.funcs[f]? with
  | none => have := he 0; rw [hf] at this; cases this
  | some fn =>
    cases hb : fn.body with
    | none => have := he 0; rw [hf] at this; simp only [hb] at this; cases this
    | some code =>
      cases hnr : (rangesIn code).isEmpty with
      | false => have := he 0; rw [hf] at this; simp only [hb, hnr] at this; cases this
      | true =>
        have he' : ∀ r, evN c ⟨evFunc c n, evYlds c (evFunc c n) 3⟩ lim f r h.length N0 fn.results.toList qs code (args ++ List.replicate (fn.ntmps - args.length) (.raw undef)) h ans = some (List.replicate k (v, h'), ps r) := fun r => by
          have := he r
          rw [hf] at this
          simp only [hb, hnr] at this
          exact this
        have htm : (concs ρ args).toArray ++ Array.replicate (fn.ntmps - (concs ρ args).toArray.size) undef = (concs ρ (args ++ List.replicate (fn.ntmps - args.length) (.raw undef))).toArray := by
          apply Array.toList_inj.1
          simp [concs_map, V.conc]
        refine (callsIn_wide (n := 0)).1 (callsIn_of_wp_marks hf hb trivial ?_)
        rw [htm]
        refine evN_sound hm hcf hfn hL hl code _ h ans (fun r => (List.replicate k (v, h'), ps r)) he' (fun r => (hp r).all) hl hnr ρ _ w (ρ0 := ρ) (w0 := w) (a0 := ⟨#[], []⟩) ⟨⟨rfl, fun x hx => ?_⟩, RH, Fr.refl _ _ _ _ hl (Nat.le_refl _), [], rfl, Marks.nil⟩ _ fun r z hz x ρ1 a1 w1 T H vs hx A1 hvs hrow => ?_
        · rcases List.mem_append.1 hx with h1 | h1
          · exact V.slot_of_under _ ((unders_iff _ _).1 hu x h1)
          · rw [List.eq_of_mem_replicate h1]; rfl
        · have hzz := List.eq_of_mem_replicate hz
          subst hzz
          obtain ⟨ms, d1, Ds, rfl, m2, m3⟩ := A1.M
          simp only [List.append_nil] at d1
          have out1 : LeavesInM Fence.wide 0 c.P fn a1.tmps (Post c lim ρ h w v h') (Ds.map markOf) .returning w1 := by
            refine leaves_marks Ds w1 m2 m3 A1.RH A1.F fun w' RH' F' => ?_
            obtain ⟨h1, h2⟩ := results_ok RH' A1.RT hvs
            exact ⟨_, h1, post_row RH hL hl hrow ⟨⟨ρ1.blk, ρ.unk⟩, rfl, by rw [V.conc_agree (ρ := ρ1) (ρ' := ⟨ρ1.blk, ρ.unk⟩) (fun _ _ => rfl) _ h2], relH_unk RH' _, F'.unk _, h2⟩⟩
          rcases hx with rfl | rfl
          · show LeavesInM _ _ _ _ _ _ a1.defers _ _
            rw [d1]
            exact out1
          · show LeavesInM _ _ _ _ _ _ a1.defers _ _
            rw [d1]
            exact out1
end
end
end Go.Proofs.YtkkgmodladgonaaGreatDoor.E2
end
section
set_option maxRecDepth 100000
namespace Go.Proofs.YtkkgmodladgonaaGreatDoor
open Go Go.RowKit Go.Proofs.YtkkgmodladgonaaGreatDoor.E2
def gainsL : List Value := [.int .i64 10, .int .i64 9, .int .i64 8, .int .i64 7, .int .i64 6, .int .i64 6, .int .i64 5, .int .i64 5, .int .i64 4, .int .i64 4, .int .i64 3, .int .i64 3, .int .i64 3, .int .i64 2, .int .i64 2, .int .i64 2, .int .i64 1, .int .i64 1, .int .i64 1, .int .i64 1]
theorem up_lC {gs : List Nat} {l : List (List Value × TypeId)} (hgl : gs.length = l.length) {lim : Nat} {f : FuncId} {args : List V} {h N : Heap} {v : V} (hm : Meets cfxC lim f args h v (h ++ N)) : Meets (cfxlC gs l) lim f args h v (h ++ N) := by
  intro ρ w R hu
  have R0 : RelH cfxC ρ h w := ⟨R.cell, R.inj, R.sco, fun p hp => (by cases hp), Nat.zero_le _, fun i hi => absurd hi (Nat.not_lt_zero _)⟩
  refine Calls.mono (hm ρ w R0 hu) fun e w' ⟨ρ', h1, h2, S, F, h5⟩ => ⟨ρ', h1, h2, ⟨S.cell, S.inj, S.sco, fun p hp => ?_, ?_, fun i hi => ?_⟩, F, h5⟩
  · obtain ⟨a1, a2, a3⟩ := R.glob p hp
    have e2 : ρ'.blk p.2 = ρ.blk p.2 := F.ren _ a3
    exact ⟨by rw [e2]; exact a1, by rw [e2]; exact a2, by simp; omega⟩
  · have := R.big
    simp only [List.length_append]
    omega
  · have := R.big
    rw [List.getElem?_append_left (by omega)]
    exact R.base i hi
theorem retRow_of {gs : List Nat} {l : List (List Value × TypeId)} (hgl : gs.length = l.length) {f : FuncId} {A N : List V} {T U : TypeId} {k n sz : Nat}
    (hm : Meets cfxC 0 f [.slo 0 k] [some (.cells A T .ro)] (.slo 1 n) ([some (.cells A T .ro)] ++ [some (.cells N U (.row sz))])) (hA : A.all isRawV = true) (hN : N.all isRawV = true) : RetRow (cfxlC gs l) f A T k N U sz n := by
  intro h lim b o hL hl hb
  have := below1 (c := cfxC) (lim := lim) rfl rfl (N := [some (.cells N U (.row sz))]) b hm hA rfl (fun k X hX => by
    cases k with
    | zero =>
      simp only [List.getElem?_cons_zero, Option.some.injEq] at hX
      subst hX
      exact ⟨rfl, N, U, .row sz, rfl, hN⟩
    | succ k => simp at hX) hb hl
  exact up_lC hgl this
end Go.Proofs.YtkkgmodladgonaaGreatDoor
end
section
namespace Go.Proofs.YtkkgmodladgonaaGreatDoor.E2
open Go Go.RowKit
def cellW (zs : List Int) (b : Option IntKind) (k : Nat) : Value := match b with
  | none => .bool (nz zs k)
  | some q => .int q (at' zs k)
def mixk (ks : List (Option IntKind)) (zs : List Int) : List V := (List.range zs.length).map fun k => .raw (cellW zs (ks.getD (k % ks.length) none) k)
theorem mixk_all (ks : List (Option IntKind)) (zs : List Int) : (mixk ks zs).all isRawV = true := by
  rw [List.all_eq_true]
  intro x hx
  obtain ⟨k, _, rfl⟩ := List.mem_map.1 hx
  rfl
theorem mixk_len (ks : List (Option IntKind)) (zs : List Int) : (mixk ks zs).length = zs.length := by simp [mixk]
theorem mixk_get (ks : List (Option IntKind)) (zs : List Int) {k : Nat} (h : k < zs.length) : (mixk ks zs)[k]? = some (.raw (cellW zs (ks.getD (k % ks.length) none) k)) := by
  unfold mixk
  rw [List.getElem?_map, List.getElem?_range h]
  rfl
theorem load_mixk1 {c : Cfg} {ks : List (Option IntKind)} {zs : List Int} {T : TypeId} {off : Nat} (q : Nat) (b : Option IntKind) (hT : pureRun c.P (isAgg T) = some false) (hq : off % ks.length = q) (hb : ks.getD q none = b) (h : off < zs.length) : loadRow c T (mixk ks zs) off = some (.raw (cellW zs b off)) := by
  unfold loadRow
  rw [hT]
  dsimp only
  rw [mixk_get ks zs h, hq, hb]
end Go.Proofs.YtkkgmodladgonaaGreatDoor.E2
namespace Go.Proofs.YtkkgmodladgonaaGreatDoor.K
open Go Go.Deep Go.ChangeShapes Go.WideShapes Go.ChangeAt Go.RowKit
section
variable {H : Type} {enc : TypeId × Value → H} {P : Program} {w : World} {base : Nat} {spare : Nat → Bool} {held : Bool}
end
end Go.Proofs.YtkkgmodladgonaaGreatDoor.K
end
section
set_option maxRecDepth 100000
namespace Go.Proofs.YtkkgmodladgonaaGreatDoor
open Go Go.RowKit Go.Proofs.YtkkgmodladgonaaGreatDoor.E2
noncomputable def cfxd : Cfg := cfxl [0]
theorem cfxd_mixed : cfxd.P.follows .mixedOrders = true := cfxl_mixed
theorem cfxd_call : ∀ f, cfxd.fns f = true → Callable cfxd.P f := cfxl_call
theorem up_d {f : FuncId} {args : List V} {v : V} (hr : Ret cfx f args v) : Ret cfxd f args v := up_retl hr
theorem up_dm {lim : Nat} {f : FuncId} {args : List V} {h h' : Heap} {v : V} (hm : Meets cfx lim f args h v h') (h0 : 1 ≤ h.length) : Meets cfxd lim f args h v h' := up_meetsl hm h0
theorem reshape2d {lim : Nat} (n0 : Nat) (h0 : 0 < n0) (ks : List (Option Nat)) {t T : List V} {h H : Heap} (hq : (Nat.ble n0 h.length && Nat.beq H.length (n0 + ks.length) && Nat.ble lim n0 && Nat.beq T.length t.length && (anyOwn 0 T && T.all (·.slotOk H.length) && nilOks (nlOf n0 ks) T) && keysOk lim n0 h.length H ks) = true)
    (hT : mvs (tauOf n0 ks) (nlOf n0 ks) T = hideBy T t) (hE : Paid (entries (tauOf n0 ks) (nlOf n0 ks) h H.length 0 H))
    {ρ : Ren} {a : Act} {w : World} (RT : RelT ρ h.length t a) (RH : RelH cfxd ρ h w) : ∃ ρ', RelT ρ' H.length T a ∧ RelH cfxd ρ' H w ∧ Fr lim n0 ρ h w ρ' H w := by
  obtain ⟨ρ', a1, a2, a3⟩ := reshape2 (c := cfx) (lim := lim) n0 cfx_G rfl ks hq hT hE RT (relH_upl RH)
  exact ⟨ρ', a1, relH_dnl RH a2 a3 h0, a3⟩
theorem ret_d {f : FuncId} {args : List V} {v : Value} {cs : List V} {T : TypeId} (hm : Meets cfxd 0 f args [some (.cells cs T .ro)] (.raw v) [some (.cells cs T .ro)]) (hr : cs.all isRawV = true) (ha : args.all isRawV = true) {h : Heap} {lim : Nat} (h0 : h[0]? = some (some (.cells cs T .ro))) (hl : lim ≤ h.length) : Meets cfxd lim f args h (.raw v) h := by
  intro ρ w RH hu
  have only : ∀ (i : Nat) (B : Blk), ([some (.cells cs T .ro)] : Heap)[i]? = some (some B) → i = 0 ∧ B = .cells cs T .ro := fun i B hB => by
    match i with
    | 0 =>
      simp only [List.getElem?_cons_zero, Option.some.injEq] at hB
      exact ⟨rfl, hB.symm⟩
    | i + 1 => simp at hB
  have R0 : RelH cfxd ρ [some (.cells cs T .ro)] w := by
    refine ⟨fun i B hB => ?_, fun i j hi hj he => ?_, fun i B hB => ?_, fun p hp => ?_, Nat.zero_le _, fun i hi => absurd hi (Nat.not_lt_zero _)⟩
    · obtain ⟨rfl, rfl⟩ := only i B hB
      exact RH.cell 0 _ h0
    · obtain ⟨B, a1, a2, a3⟩ := hi
      obtain ⟨rfl, rfl⟩ := only i B a1
      cases a2
    · obtain ⟨rfl, rfl⟩ := only i B hB
      exact unders_raws _ _ hr
    · obtain ⟨a1, a2, a3⟩ := RH.glob p hp
      have : p ∈ [((0 : Nat), (0 : Nat))] := hp
      rw [List.mem_singleton] at this
      subst this
      exact ⟨a1, a2, Nat.zero_lt_one⟩
  refine Calls.mono (hm ρ w R0 (unders_raws _ _ ha)) fun e w' ⟨ρ1, k1, k2, RH1, F1, k5⟩ => ?_
  have hb : Below w.heap.size w w' := ⟨F1.os, F1.tape, F1.output, F1.size, fun k hk => F1.blk k hk fun i _ h2 => by
    obtain ⟨B, a1, a2, a3⟩ := h2
    obtain ⟨rfl, rfl⟩ := only i B a1
    cases a2⟩
  exact ⟨ρ, rfl, by rw [k2]; rfl, below_rel RH hb.block, below_fr hl hb, rfl⟩
end Go.Proofs.YtkkgmodladgonaaGreatDoor
end
section
set_option maxRecDepth 100000
namespace Go.Proofs.YtkkgmodladgonaaGreatDoor
open Go Go.RowKit Go.Proofs.YtkkgmodladgonaaGreatDoor.E2
theorem againB (s : ByteArray) (i g : Int) (h1 : -12 ≤ g) (h2 : g ≤ 48) : Ret cfx 58 [.raw (.agg #[.string s, .int .i64 i, .int .i64 g]), V.fn (Fn.func 59) [] []] (.raw (.agg #[.string s, .int .i64 i, .int .i64 (M.downN 61 i g)])) := agb_ev s i g _ h1 h2 (agb_loop s i g h1 h2)
theorem againW (s : ByteArray) (i g : Int) (h1 : -12 ≤ g) (h2 : g ≤ 48) : Ret cfx 58 [.raw (.agg #[.string s, .int .i64 i, .int .i64 g]), V.fn (Fn.func 60) [] []] (.raw (.agg #[.string s, .int .i64 i, .int .i64 (M.upN 61 i g)])) := agw_ev s i g _ h1 h2 (agw_loop s i g h1 h2)
theorem M.downN_rng {i : Int} : ∀ {n : Nat} {g : Int}, -12 ≤ g → g ≤ 48 → -12 ≤ M.downN n i g ∧ M.downN n i g ≤ 48
  | 0, g, h1, h2 => ⟨h1, h2⟩
  | n + 1, g, h1, h2 => by
    simp only [M.downN]
    split
    · exact ⟨h1, h2⟩
    · have := M.betG_rng i h1 h2
      exact M.downN_rng this.1 this.2.1
theorem tdMoved_1 (s : ByteArray) (i g n : Int) (h1 : -12 ≤ g) (h2 : g ≤ 48) (hi : -10000 ≤ i ∧ i ≤ 10000) (hn : -20 ≤ n ∧ n ≤ 20)  : Ret cfx 44 [.raw (.agg #[.string s, .int .i64 i, .int .i64 g]), .raw (.int .i64 n)] (V.raw (.agg { toList := [Value.string s, .int .i64 (if (10000 : Int) < if (-10000 : Int) > i + n then (-10000 : Int) else i + n then (10000 : Int) else if (-10000 : Int) > i + n then (-10000 : Int) else i + n), .int .i64 (M.upN (61 : Nat) (if (10000 : Int) < if (-10000 : Int) > i + n then (-10000 : Int) else i + n then (10000 : Int) else if (-10000 : Int) > i + n then (-10000 : Int) else i + n) (M.downN (61 : Nat) (if (10000 : Int) < if (-10000 : Int) > i + n then (-10000 : Int) else i + n then (10000 : Int) else if (-10000 : Int) > i + n then (-10000 : Int) else i + n) g))] })) := by
  exact fn_of cfx_mixed cfx_call cfx_base.1 cfx_base.2.1 cfx_base.2.2 (n := 40) (ans := [Ans.go, Ans.ret (V.raw (.agg { toList := [Value.string s, .int .i64 (if (10000 : Int) < if (-10000 : Int) > i + n then (-10000 : Int) else i + n then (10000 : Int) else if (-10000 : Int) > i + n then (-10000 : Int) else i + n), .int .i64 (M.downN (61 : Nat) (if (10000 : Int) < if (-10000 : Int) > i + n then (-10000 : Int) else i + n then (10000 : Int) else if (-10000 : Int) > i + n then (-10000 : Int) else i + n) g)] })), Ans.ret (V.raw (.agg { toList := [Value.string s, .int .i64 (if (10000 : Int) < if (-10000 : Int) > i + n then (-10000 : Int) else i + n then (10000 : Int) else if (-10000 : Int) > i + n then (-10000 : Int) else i + n), .int .i64 (M.upN (61 : Nat) (if (10000 : Int) < if (-10000 : Int) > i + n then (-10000 : Int) else i + n then (10000 : Int) else if (-10000 : Int) > i + n then (-10000 : Int) else i + n) (M.downN (61 : Nat) (if (10000 : Int) < if (-10000 : Int) > i + n then (-10000 : Int) else i + n then (10000 : Int) else if (-10000 : Int) > i + n then (-10000 : Int) else i + n) g))] }))]) (cons := [(inR IntKind.i64 (i + n)), (Ret cfx (58 : Nat) [V.raw (.agg { toList := [Value.string s, .int .i64 (if (10000 : Int) < if (-10000 : Int) > i + n then (-10000 : Int) else i + n then (10000 : Int) else if (-10000 : Int) > i + n then (-10000 : Int) else i + n), .int .i64 g] }), V.fn (Fn.func (59 : Nat)) [] []] (V.raw (.agg { toList := [Value.string s, .int .i64 (if (10000 : Int) < if (-10000 : Int) > i + n then (-10000 : Int) else i + n then (10000 : Int) else if (-10000 : Int) > i + n then (-10000 : Int) else i + n), .int .i64 (M.downN (61 : Nat) (if (10000 : Int) < if (-10000 : Int) > i + n then (-10000 : Int) else i + n then (10000 : Int) else if (-10000 : Int) > i + n then (-10000 : Int) else i + n) g)] }))), (Ret cfx (58 : Nat) [V.raw (.agg { toList := [Value.string s, .int .i64 (if (10000 : Int) < if (-10000 : Int) > i + n then (-10000 : Int) else i + n then (10000 : Int) else if (-10000 : Int) > i + n then (-10000 : Int) else i + n), .int .i64 (M.downN (61 : Nat) (if (10000 : Int) < if (-10000 : Int) > i + n then (-10000 : Int) else i + n then (10000 : Int) else if (-10000 : Int) > i + n then (-10000 : Int) else i + n) g)] }), V.fn (Fn.func (60 : Nat)) [] []] (V.raw (.agg { toList := [Value.string s, .int .i64 (if (10000 : Int) < if (-10000 : Int) > i + n then (-10000 : Int) else i + n then (10000 : Int) else if (-10000 : Int) > i + n then (-10000 : Int) else i + n), .int .i64 (M.upN (61 : Nat) (if (10000 : Int) < if (-10000 : Int) > i + n then (-10000 : Int) else i + n then (10000 : Int) else if (-10000 : Int) > i + n then (-10000 : Int) else i + n) (M.downN (61 : Nat) (if (10000 : Int) < if (-10000 : Int) > i + n then (-10000 : Int) else i + n then (10000 : Int) else if (-10000 : Int) > i + n then (-10000 : Int) else i + n) g))] })))]) (by kernel_rfl) rfl rfl
    ⟨inR_i64 (by omega) (by omega), (by first |exact againB _ _ _ (by omega) (by omega) |exact againW _ _ _ (M.downN_rng (by omega) (by omega)).1 (M.downN_rng (by omega) (by omega)).2), (by first |exact againB _ _ _ (by omega) (by omega) |exact againW _ _ _ (M.downN_rng (by omega) (by omega)).1 (M.downN_rng (by omega) (by omega)).2), trivial⟩
theorem tdMoved (s : ByteArray) (i g n : Int) (h1 : -12 ≤ g) (h2 : g ≤ 48) (hi : -10000 ≤ i ∧ i ≤ 10000) (hn : -20 ≤ n ∧ n ≤ 20) : Ret cfx 44 [.raw (.agg #[.string s, .int .i64 i, .int .i64 g]), .raw (.int .i64 n)] (.raw (.agg #[.string s, .int .i64 (M.clampI (i + n)), .int .i64 (M.newG (M.clampI (i + n)) g)])) := by
  have e : (.raw (.agg #[.string s, .int .i64 (M.clampI (i + n)), .int .i64 (M.newG (M.clampI (i + n)) g)]) : V) = V.raw (.agg { toList := [Value.string s, .int .i64 (if (10000 : Int) < if (-10000 : Int) > i + n then (-10000 : Int) else i + n then (10000 : Int) else if (-10000 : Int) > i + n then (-10000 : Int) else i + n), .int .i64 (M.upN (61 : Nat) (if (10000 : Int) < if (-10000 : Int) > i + n then (-10000 : Int) else i + n then (10000 : Int) else if (-10000 : Int) > i + n then (-10000 : Int) else i + n) (M.downN (61 : Nat) (if (10000 : Int) < if (-10000 : Int) > i + n then (-10000 : Int) else i + n then (10000 : Int) else if (-10000 : Int) > i + n then (-10000 : Int) else i + n) g))] }) := by rfl
  rw [e]
  exact tdMoved_1 s i g n h1 h2 hi hn
theorem tdGain_1 (a b : Int) (lv : Bool) (T : Nat) (ha : -10000 ≤ a ∧ a ≤ 10000) (hb : -10000 ≤ b ∧ b ≤ 10000) (hl : M.gz.length = 20) (hq : 0 ≤ (if b - a > a - b then b - a else a - b).tdiv 100 ∧ (if b - a > a - b then b - a else a - b).tdiv 100 ≤ 200) (hk : 1 ≤ at' M.gz (0 + (if 19 < (if b - a > a - b then b - a else a - b).tdiv 100 then 19 else (if b - a > a - b then b - a else a - b).tdiv 100).toNat * 1) ∧ at' M.gz (0 + (if 19 < (if b - a > a - b then b - a else a - b).tdiv 100 then 19 else (if b - a > a - b then b - a else a - b).tdiv 100).toNat * 1) ≤ 10) (f0 : lv = false) : Meets cfxd 0 19 [.raw (.int .i64 a), .raw (.int .i64 b), .raw (.bool lv)] [some (.cells (ints M.gz) T .ro)] (iV (10 : Int)) [some (.cells (ints M.gz) T .ro)] := by
  refine Meets.post (meets_ev cfxd_mixed cfxd_call (Nat.zero_le _) (Nat.le_of_ble_eq_true rfl) (n := 40) (ans := [Ans.go, Ans.br true]) (v := (iV (10 : Int))) (h' := [some (.cells (ints M.gz) T .ro)]) (cons := [((!lv) = true)]) (by kernel_rfl)
    ⟨(by first | assumption | (simp only [decide_eq_true_eq, decide_eq_false_iff_not, Bool.not_eq_true', Bool.not_eq_false']; first | assumption | omega) | (simp only [decide_eq_true_eq, decide_eq_false_iff_not, Bool.not_eq_true', Bool.not_eq_false']; done) | omega | (simp_all; done) | (simp_all; omega)), trivial⟩) (by kernel_rfl) (fun RT RH => reshape2d (lim := 0) 1 (by decide) [] (by kernel_rfl) (by kernel_rfl) (by exact (ents_raw (ints_all _) rfl rfl (ents_nil))) RT RH)
theorem tdGain_2 (a b : Int) (lv : Bool) (T : Nat) (ha : -10000 ≤ a ∧ a ≤ 10000) (hb : -10000 ≤ b ∧ b ≤ 10000) (hl : M.gz.length = 20) (hq : 0 ≤ (if b - a > a - b then b - a else a - b).tdiv 100 ∧ (if b - a > a - b then b - a else a - b).tdiv 100 ≤ 200) (hk : 1 ≤ at' M.gz (0 + (if 19 < (if b - a > a - b then b - a else a - b).tdiv 100 then 19 else (if b - a > a - b then b - a else a - b).tdiv 100).toNat * 1) ∧ at' M.gz (0 + (if 19 < (if b - a > a - b then b - a else a - b).tdiv 100 then 19 else (if b - a > a - b then b - a else a - b).tdiv 100).toNat * 1) ≤ 10) (f0 : lv = true) (f1 : a < b) : Meets cfxd 0 19 [.raw (.int .i64 a), .raw (.int .i64 b), .raw (.bool lv)] [some (.cells (ints M.gz) T .ro)] (iV ((20 : Int) - at' M.gz ((0 : Nat) + (if (19 : Int) < (if b - a > a - b then b - a else a - b).tdiv (100 : Int) then (19 : Int) else (if b - a > a - b then b - a else a - b).tdiv (100 : Int)).toNat * (1 : Nat)))) [some (.cells (ints M.gz) T .ro)] := by
  refine Meets.post (meets_ev cfxd_mixed cfxd_call (Nat.zero_le _) (Nat.le_of_ble_eq_true rfl) (n := 40) (ans := [Ans.go, Ans.br false, Ans.val (0 : Nat) (iV (at' M.gz ((0 : Nat) + (if (19 : Int) < (if b - a > a - b then b - a else a - b).tdiv (100 : Int) then (19 : Int) else (if b - a > a - b then b - a else a - b).tdiv (100 : Int)).toNat * (1 : Nat)))), Ans.br true]) (v := (iV ((20 : Int) - at' M.gz ((0 : Nat) + (if (19 : Int) < (if b - a > a - b then b - a else a - b).tdiv (100 : Int) then (19 : Int) else (if b - a > a - b then b - a else a - b).tdiv (100 : Int)).toNat * (1 : Nat))))) (h' := [some (.cells (ints M.gz) T .ro)]) (cons := [((!lv) = false), (inR IntKind.i64 (a - b)), (inR IntKind.i64 (b - a)), ((100 : Int) ≠ (0 : Int)), (inR IntKind.i64 ((if b - a > a - b then b - a else a - b).tdiv (100 : Int))), (((0 : Int) ≤ if (19 : Int) < (if b - a > a - b then b - a else a - b).tdiv (100 : Int) then (19 : Int) else (if b - a > a - b then b - a else a - b).tdiv (100 : Int)) ∧ (if (19 : Int) < (if b - a > a - b then b - a else a - b).tdiv (100 : Int) then (19 : Int) else (if b - a > a - b then b - a else a - b).tdiv (100 : Int)) < (20 : Int)), (loadRow cfxd (2 : Nat) (ints M.gz) ((0 : Nat) + (if (19 : Int) < (if b - a > a - b then b - a else a - b).tdiv (100 : Int) then (19 : Int) else (if b - a > a - b then b - a else a - b).tdiv (100 : Int)).toNat * (1 : Nat)) = some (iV (at' M.gz ((0 : Nat) + (if (19 : Int) < (if b - a > a - b then b - a else a - b).tdiv (100 : Int) then (19 : Int) else (if b - a > a - b then b - a else a - b).tdiv (100 : Int)).toNat * (1 : Nat))))), (decide (a < b) = true), (inR IntKind.i64 ((20 : Int) - at' M.gz ((0 : Nat) + (if (19 : Int) < (if b - a > a - b then b - a else a - b).tdiv (100 : Int) then (19 : Int) else (if b - a > a - b then b - a else a - b).tdiv (100 : Int)).toNat * (1 : Nat))))]) (by kernel_rfl)
    ⟨(by first | assumption | (simp only [decide_eq_true_eq, decide_eq_false_iff_not, Bool.not_eq_true', Bool.not_eq_false']; first | assumption | omega) | (simp only [decide_eq_true_eq, decide_eq_false_iff_not, Bool.not_eq_true', Bool.not_eq_false']; done) | omega | (simp_all; done) | (simp_all; omega)), inR_i64 (by omega) (by omega), inR_i64 (by omega) (by omega), (by first | assumption | omega | (simp_all; done) | (simp_all; omega)), inR_i64 (by omega) (by omega), (by first | assumption | omega | (simp_all; done) | (simp_all; omega)), (load_one (by kernel_rfl) (by first | omega | (simp only [ints_len, putI_length, List.length_append, List.length_replicate, List.length_take, List.length_drop, List.length_cons, List.length_nil]; omega) | (simp only [ints_len, putI_length, List.length_append, List.length_replicate, List.length_take, List.length_drop, List.length_cons, List.length_nil]; done))), (by first | assumption | (simp only [decide_eq_true_eq, decide_eq_false_iff_not, Bool.not_eq_true', Bool.not_eq_false']; first | assumption | omega) | (simp only [decide_eq_true_eq, decide_eq_false_iff_not, Bool.not_eq_true', Bool.not_eq_false']; done) | omega | (simp_all; done) | (simp_all; omega)), inR_i64 (by omega) (by omega), trivial⟩) (by kernel_rfl) (fun RT RH => reshape2d (lim := 0) 1 (by decide) [] (by kernel_rfl) (by kernel_rfl) (by exact (ents_raw (ints_all _) rfl rfl (ents_nil))) RT RH)
theorem tdGain_3 (a b : Int) (lv : Bool) (T : Nat) (ha : -10000 ≤ a ∧ a ≤ 10000) (hb : -10000 ≤ b ∧ b ≤ 10000) (hl : M.gz.length = 20) (hq : 0 ≤ (if b - a > a - b then b - a else a - b).tdiv 100 ∧ (if b - a > a - b then b - a else a - b).tdiv 100 ≤ 200) (hk : 1 ≤ at' M.gz (0 + (if 19 < (if b - a > a - b then b - a else a - b).tdiv 100 then 19 else (if b - a > a - b then b - a else a - b).tdiv 100).toNat * 1) ∧ at' M.gz (0 + (if 19 < (if b - a > a - b then b - a else a - b).tdiv 100 then 19 else (if b - a > a - b then b - a else a - b).tdiv 100).toNat * 1) ≤ 10) (f0 : lv = true) (f1 : ¬a < b) : Meets cfxd 0 19 [.raw (.int .i64 a), .raw (.int .i64 b), .raw (.bool lv)] [some (.cells (ints M.gz) T .ro)] (iV (at' M.gz ((0 : Nat) + (if (19 : Int) < (if b - a > a - b then b - a else a - b).tdiv (100 : Int) then (19 : Int) else (if b - a > a - b then b - a else a - b).tdiv (100 : Int)).toNat * (1 : Nat)))) [some (.cells (ints M.gz) T .ro)] := by
  refine Meets.post (meets_ev cfxd_mixed cfxd_call (Nat.zero_le _) (Nat.le_of_ble_eq_true rfl) (n := 40) (ans := [Ans.go, Ans.br false, Ans.val (0 : Nat) (iV (at' M.gz ((0 : Nat) + (if (19 : Int) < (if b - a > a - b then b - a else a - b).tdiv (100 : Int) then (19 : Int) else (if b - a > a - b then b - a else a - b).tdiv (100 : Int)).toNat * (1 : Nat)))), Ans.br false]) (v := (iV (at' M.gz ((0 : Nat) + (if (19 : Int) < (if b - a > a - b then b - a else a - b).tdiv (100 : Int) then (19 : Int) else (if b - a > a - b then b - a else a - b).tdiv (100 : Int)).toNat * (1 : Nat))))) (h' := [some (.cells (ints M.gz) T .ro)]) (cons := [((!lv) = false), (inR IntKind.i64 (a - b)), (inR IntKind.i64 (b - a)), ((100 : Int) ≠ (0 : Int)), (inR IntKind.i64 ((if b - a > a - b then b - a else a - b).tdiv (100 : Int))), (((0 : Int) ≤ if (19 : Int) < (if b - a > a - b then b - a else a - b).tdiv (100 : Int) then (19 : Int) else (if b - a > a - b then b - a else a - b).tdiv (100 : Int)) ∧ (if (19 : Int) < (if b - a > a - b then b - a else a - b).tdiv (100 : Int) then (19 : Int) else (if b - a > a - b then b - a else a - b).tdiv (100 : Int)) < (20 : Int)), (loadRow cfxd (2 : Nat) (ints M.gz) ((0 : Nat) + (if (19 : Int) < (if b - a > a - b then b - a else a - b).tdiv (100 : Int) then (19 : Int) else (if b - a > a - b then b - a else a - b).tdiv (100 : Int)).toNat * (1 : Nat)) = some (iV (at' M.gz ((0 : Nat) + (if (19 : Int) < (if b - a > a - b then b - a else a - b).tdiv (100 : Int) then (19 : Int) else (if b - a > a - b then b - a else a - b).tdiv (100 : Int)).toNat * (1 : Nat))))), (decide (a < b) = false)]) (by kernel_rfl)
    ⟨(by first | assumption | (simp only [decide_eq_true_eq, decide_eq_false_iff_not, Bool.not_eq_true', Bool.not_eq_false']; first | assumption | omega) | (simp only [decide_eq_true_eq, decide_eq_false_iff_not, Bool.not_eq_true', Bool.not_eq_false']; done) | omega | (simp_all; done) | (simp_all; omega)), inR_i64 (by omega) (by omega), inR_i64 (by omega) (by omega), (by first | assumption | omega | (simp_all; done) | (simp_all; omega)), inR_i64 (by omega) (by omega), (by first | assumption | omega | (simp_all; done) | (simp_all; omega)), (load_one (by kernel_rfl) (by first | omega | (simp only [ints_len, putI_length, List.length_append, List.length_replicate, List.length_take, List.length_drop, List.length_cons, List.length_nil]; omega) | (simp only [ints_len, putI_length, List.length_append, List.length_replicate, List.length_take, List.length_drop, List.length_cons, List.length_nil]; done))), (by first | assumption | (simp only [decide_eq_true_eq, decide_eq_false_iff_not, Bool.not_eq_true', Bool.not_eq_false']; first | assumption | omega) | (simp only [decide_eq_true_eq, decide_eq_false_iff_not, Bool.not_eq_true', Bool.not_eq_false']; done) | omega | (simp_all; done) | (simp_all; omega)), trivial⟩) (by kernel_rfl) (fun RT RH => reshape2d (lim := 0) 1 (by decide) [] (by kernel_rfl) (by kernel_rfl) (by exact (ents_raw (ints_all _) rfl rfl (ents_nil))) RT RH)
end Go.Proofs.YtkkgmodladgonaaGreatDoor
end
section
set_option maxRecDepth 100000
namespace Go.Proofs.YtkkgmodladgonaaGreatDoor
open Go Go.RowKit Go.Proofs.YtkkgmodladgonaaGreatDoor.E2
def isn_T (s : ByteArray) (k : Int) (zs : List Int) : List V := [V.raw (Value.string s), uV, V.raw (.bool false), uV, .any 4, V.raw (Value.string s), iV (↑s.size : Int), V.raw (.bool (decide ((1 : Int) ≤ (↑s.size : Int) ∧ (↑s.size : Int) ≤ (20 : Int)))), V.raw (.bool !decide ((1 : Int) ≤ (↑s.size : Int) ∧ (↑s.size : Int) ≤ (20 : Int))), V.raw (Value.string s), .slo 0 s.size, iV (↑s.size : Int), iV k, .any 13, .any 14, .any 15, .any 16, .any 17, .any 18, .any 19, .any 20, .any 21, .any 22, .any 23, .any 24]
def isn_H (s : ByteArray) (k : Int) (zs : List Int) : Heap := [some (.cells (mixk [some .u8] zs) (5 : Nat) .ro)]
def isn_T1 (s : ByteArray) (k : Int) (zs : List Int) : List V := [V.raw (Value.string s), uV, V.raw (.bool false), uV, .any 4, V.raw (Value.string s), iV (↑s.size : Int), V.raw (.bool (decide ((1 : Int) ≤ (↑s.size : Int) ∧ (↑s.size : Int) ≤ (20 : Int)))), V.raw (.bool !decide ((1 : Int) ≤ (↑s.size : Int) ∧ (↑s.size : Int) ≤ (20 : Int))), V.raw (Value.string s), .slo 0 s.size, iV (↑s.size : Int), iV k, .any 13, .any 14, .any 15, .any 16, .any 17, .any 18, .any 19, .any 20, .any 21, .any 22, .any 23, .any 24]
def isn_H1 (s : ByteArray) (k : Int) (zs : List Int) : Heap := [some (.cells (mixk [some .u8] zs) (5 : Nat) .ro)]
theorem isn_1 (s : ByteArray) (h1 : 1 ≤ s.size) (h2 : s.size ≤ 20) (k : Int) (zs : List Int) (hk : 0 ≤ k) (hz : zs.length = s.size) (f0 : k < (↑s.size : Int)) (f1 : ¬((97 : Int) ≤ at' zs (k.toNat * 1) ∧ at' zs (k.toNat * 1) ≤ (122 : Int))) (f2 : ¬((48 : Int) ≤ at' zs (k.toNat * 1) ∧ at' zs (k.toNat * 1) ≤ (57 : Int))) : Runs cfx 0 1 none (loopOf cfx.P 42 0) (isn_T s k zs) (isn_H s k zs) (Ex.ret) (isn_T1 s k zs) (isn_H1 s k zs) := by
  refine Runs.post (t1 := [V.raw (Value.string s), uV, V.raw (.bool false), uV, V.raw (Value.int IntKind.u8 (at' zs (k.toNat * 1))), V.raw (Value.string s), iV (↑s.size : Int), V.raw (.bool (decide ((1 : Int) ≤ (↑s.size : Int) ∧ (↑s.size : Int) ≤ (20 : Int)))), V.raw (.bool !decide ((1 : Int) ≤ (↑s.size : Int) ∧ (↑s.size : Int) ≤ (20 : Int))), V.raw (Value.string s), .slo 0 s.size, iV (↑s.size : Int), iV k, V.raw (.bool (decide (k < (↑s.size : Int)))), V.ptr (0 : Nat) (k.toNat * (1 : Nat)), V.raw (Value.int IntKind.u8 (at' zs (k.toNat * 1))), V.raw (Value.int IntKind.u8 (at' zs (k.toNat * 1))), V.raw (.bool (decide ((97 : Int) ≤ at' zs (k.toNat * 1) ∧ at' zs (k.toNat * 1) ≤ (122 : Int)))), V.raw (.bool !decide ((97 : Int) ≤ at' zs (k.toNat * 1) ∧ at' zs (k.toNat * 1) ≤ (122 : Int))), V.lit true, V.raw (Value.int IntKind.u8 (at' zs (k.toNat * 1))), V.raw (.bool (decide ((48 : Int) ≤ at' zs (k.toNat * 1) ∧ at' zs (k.toNat * 1) ≤ (57 : Int)))), V.raw (.bool !decide ((48 : Int) ≤ at' zs (k.toNat * 1) ∧ at' zs (k.toNat * 1) ≤ (57 : Int))), V.raw (.bool !decide ((48 : Int) ≤ at' zs (k.toNat * 1) ∧ at' zs (k.toNat * 1) ≤ (57 : Int))), .any 24]) (h1 := [some (.cells (mixk [some .u8] zs) (5 : Nat) .ro)]) (body_of cfx_mixed cfx_call (Nat.zero_le _) (rnd := none) (fi := 0) (k := 0) (n := 40) (n0 := 1) (ans := [Ans.br true, Ans.val (0 : Nat) (V.raw (Value.int IntKind.u8 (at' zs (k.toNat * 1)))), Ans.ret (V.raw (.bool (decide ((97 : Int) ≤ at' zs (k.toNat * 1) ∧ at' zs (k.toNat * 1) ≤ (122 : Int))))), Ans.br true, Ans.ret (V.raw (.bool (decide ((48 : Int) ≤ at' zs (k.toNat * 1) ∧ at' zs (k.toNat * 1) ≤ (57 : Int))))), Ans.br true, Ans.br true]) (cons := [(decide (k < (↑s.size : Int)) = true), ((0 : Int) ≤ k ∧ k < (↑s.size : Int)), (loadRow cfx (5 : Nat) (mixk [some .u8] zs) (k.toNat * (1 : Nat)) = some (V.raw (Value.int IntKind.u8 (at' zs (k.toNat * 1))))), (Ret cfx (57 : Nat) [V.raw (Value.int IntKind.u8 (at' zs (k.toNat * 1))), V.raw (Value.int IntKind.u8 (97 : Int)), V.raw (Value.int IntKind.u8 (122 : Int))] (V.raw (.bool (decide ((97 : Int) ≤ at' zs (k.toNat * 1) ∧ at' zs (k.toNat * 1) ≤ (122 : Int)))))), ((!decide ((97 : Int) ≤ at' zs (k.toNat * 1) ∧ at' zs (k.toNat * 1) ≤ (122 : Int))) = true), (Ret cfx (57 : Nat) [V.raw (Value.int IntKind.u8 (at' zs (k.toNat * 1))), V.raw (Value.int IntKind.u8 (48 : Int)), V.raw (Value.int IntKind.u8 (57 : Int))] (V.raw (.bool (decide ((48 : Int) ≤ at' zs (k.toNat * 1) ∧ at' zs (k.toNat * 1) ≤ (57 : Int)))))), (true = true), ((!decide ((48 : Int) ≤ at' zs (k.toNat * 1) ∧ at' zs (k.toNat * 1) ≤ (57 : Int))) = true)]) (by kernel_rfl)
    ⟨(by first | omega | (simp; omega) | (simp_all; omega)), (by omega), (load_mixk1 0 (some .u8) (by kernel_rfl) (by show _ % 1 = 0; omega) rfl (by omega)), (tdBetween_byte _ _ _), (by first | assumption | (simp only [decide_eq_true_eq, decide_eq_false_iff_not, Bool.not_eq_true', Bool.not_eq_false']; first | assumption | omega) | (simp only [decide_eq_true_eq, decide_eq_false_iff_not, Bool.not_eq_true', Bool.not_eq_false']; done) | omega | (simp_all; done) | (simp_all; omega)), (tdBetween_byte _ _ _), rfl, (by first | assumption | (simp only [decide_eq_true_eq, decide_eq_false_iff_not, Bool.not_eq_true', Bool.not_eq_false']; first | assumption | omega) | (simp only [decide_eq_true_eq, decide_eq_false_iff_not, Bool.not_eq_true', Bool.not_eq_false']; done) | omega | (simp_all; done) | (simp_all; omega)), trivial⟩ (Nat.le_of_ble_eq_true rfl) (Nat.le_of_ble_eq_true rfl) noRnd (noRanges (by kernel_rfl))) (fun RT RH => reshape2 (lim := 0) 1 cfx_G rfl [] (by kernel_rfl) (by kernel_rfl) (by exact (ents_raw (mixk_all _ _) rfl rfl (ents_nil))) RT RH)
theorem isn_2 (s : ByteArray) (h1 : 1 ≤ s.size) (h2 : s.size ≤ 20) (k : Int) (zs : List Int) (hk : 0 ≤ k) (hz : zs.length = s.size) (f0 : k < (↑s.size : Int)) (f1 : ¬((97 : Int) ≤ at' zs (k.toNat * 1) ∧ at' zs (k.toNat * 1) ≤ (122 : Int))) (f2 : (48 : Int) ≤ at' zs (k.toNat * 1) ∧ at' zs (k.toNat * 1) ≤ (57 : Int)) : Runs cfx 0 1 none (loopOf cfx.P 42 0) (isn_T s k zs) (isn_H s k zs) (Ex.normal) (isn_T s (k + (1 : Int)) zs) (isn_H s (k + (1 : Int)) zs) := by
  refine Runs.post (t1 := [V.raw (Value.string s), uV, V.raw (.bool false), uV, V.raw (Value.int IntKind.u8 (at' zs (k.toNat * 1))), V.raw (Value.string s), iV (↑s.size : Int), V.raw (.bool (decide ((1 : Int) ≤ (↑s.size : Int) ∧ (↑s.size : Int) ≤ (20 : Int)))), V.raw (.bool !decide ((1 : Int) ≤ (↑s.size : Int) ∧ (↑s.size : Int) ≤ (20 : Int))), V.raw (Value.string s), .slo 0 s.size, iV (↑s.size : Int), iV (k + (1 : Int)), V.raw (.bool (decide (k < (↑s.size : Int)))), V.ptr (0 : Nat) (k.toNat * (1 : Nat)), V.raw (Value.int IntKind.u8 (at' zs (k.toNat * 1))), V.raw (Value.int IntKind.u8 (at' zs (k.toNat * 1))), V.raw (.bool (decide ((97 : Int) ≤ at' zs (k.toNat * 1) ∧ at' zs (k.toNat * 1) ≤ (122 : Int)))), V.raw (.bool !decide ((97 : Int) ≤ at' zs (k.toNat * 1) ∧ at' zs (k.toNat * 1) ≤ (122 : Int))), V.lit true, V.raw (Value.int IntKind.u8 (at' zs (k.toNat * 1))), V.raw (.bool (decide ((48 : Int) ≤ at' zs (k.toNat * 1) ∧ at' zs (k.toNat * 1) ≤ (57 : Int)))), V.raw (.bool !decide ((48 : Int) ≤ at' zs (k.toNat * 1) ∧ at' zs (k.toNat * 1) ≤ (57 : Int))), V.raw (.bool !decide ((48 : Int) ≤ at' zs (k.toNat * 1) ∧ at' zs (k.toNat * 1) ≤ (57 : Int))), iV (k + (1 : Int))]) (h1 := [some (.cells (mixk [some .u8] zs) (5 : Nat) .ro)]) (body_of cfx_mixed cfx_call (Nat.zero_le _) (rnd := none) (fi := 0) (k := 0) (n := 40) (n0 := 1) (ans := [Ans.br true, Ans.val (0 : Nat) (V.raw (Value.int IntKind.u8 (at' zs (k.toNat * 1)))), Ans.ret (V.raw (.bool (decide ((97 : Int) ≤ at' zs (k.toNat * 1) ∧ at' zs (k.toNat * 1) ≤ (122 : Int))))), Ans.br true, Ans.ret (V.raw (.bool (decide ((48 : Int) ≤ at' zs (k.toNat * 1) ∧ at' zs (k.toNat * 1) ≤ (57 : Int))))), Ans.br true, Ans.br false]) (cons := [(decide (k < (↑s.size : Int)) = true), ((0 : Int) ≤ k ∧ k < (↑s.size : Int)), (loadRow cfx (5 : Nat) (mixk [some .u8] zs) (k.toNat * (1 : Nat)) = some (V.raw (Value.int IntKind.u8 (at' zs (k.toNat * 1))))), (Ret cfx (57 : Nat) [V.raw (Value.int IntKind.u8 (at' zs (k.toNat * 1))), V.raw (Value.int IntKind.u8 (97 : Int)), V.raw (Value.int IntKind.u8 (122 : Int))] (V.raw (.bool (decide ((97 : Int) ≤ at' zs (k.toNat * 1) ∧ at' zs (k.toNat * 1) ≤ (122 : Int)))))), ((!decide ((97 : Int) ≤ at' zs (k.toNat * 1) ∧ at' zs (k.toNat * 1) ≤ (122 : Int))) = true), (Ret cfx (57 : Nat) [V.raw (Value.int IntKind.u8 (at' zs (k.toNat * 1))), V.raw (Value.int IntKind.u8 (48 : Int)), V.raw (Value.int IntKind.u8 (57 : Int))] (V.raw (.bool (decide ((48 : Int) ≤ at' zs (k.toNat * 1) ∧ at' zs (k.toNat * 1) ≤ (57 : Int)))))), (true = true), ((!decide ((48 : Int) ≤ at' zs (k.toNat * 1) ∧ at' zs (k.toNat * 1) ≤ (57 : Int))) = false), (inR IntKind.i64 (k + (1 : Int)))]) (by kernel_rfl)
    ⟨(by first | omega | (simp; omega) | (simp_all; omega)), (by omega), (load_mixk1 0 (some .u8) (by kernel_rfl) (by show _ % 1 = 0; omega) rfl (by omega)), (tdBetween_byte _ _ _), (by first | assumption | (simp only [decide_eq_true_eq, decide_eq_false_iff_not, Bool.not_eq_true', Bool.not_eq_false']; first | assumption | omega) | (simp only [decide_eq_true_eq, decide_eq_false_iff_not, Bool.not_eq_true', Bool.not_eq_false']; done) | omega | (simp_all; done) | (simp_all; omega)), (tdBetween_byte _ _ _), rfl, (by first | assumption | (simp only [decide_eq_true_eq, decide_eq_false_iff_not, Bool.not_eq_true', Bool.not_eq_false']; first | assumption | omega) | (simp only [decide_eq_true_eq, decide_eq_false_iff_not, Bool.not_eq_true', Bool.not_eq_false']; done) | omega | (simp_all; done) | (simp_all; omega)), inR_i64 (by omega) (by omega), trivial⟩ (Nat.le_of_ble_eq_true rfl) (Nat.le_of_ble_eq_true rfl) noRnd (noRanges (by kernel_rfl))) (fun RT RH => reshape2 (lim := 0) 1 cfx_G rfl [] (by kernel_rfl) (by kernel_rfl) (by exact (ents_raw (mixk_all _ _) rfl rfl (ents_nil))) RT RH)
theorem isn_3 (s : ByteArray) (h1 : 1 ≤ s.size) (h2 : s.size ≤ 20) (k : Int) (zs : List Int) (hk : 0 ≤ k) (hz : zs.length = s.size) (f0 : k < (↑s.size : Int)) (f1 : (97 : Int) ≤ at' zs (k.toNat * 1) ∧ at' zs (k.toNat * 1) ≤ (122 : Int)) : Runs cfx 0 1 none (loopOf cfx.P 42 0) (isn_T s k zs) (isn_H s k zs) (Ex.normal) (isn_T s (k + (1 : Int)) zs) (isn_H s (k + (1 : Int)) zs) := by
  refine Runs.post (t1 := [V.raw (Value.string s), uV, V.raw (.bool false), uV, V.raw (Value.int IntKind.u8 (at' zs (k.toNat * 1))), V.raw (Value.string s), iV (↑s.size : Int), V.raw (.bool (decide ((1 : Int) ≤ (↑s.size : Int) ∧ (↑s.size : Int) ≤ (20 : Int)))), V.raw (.bool !decide ((1 : Int) ≤ (↑s.size : Int) ∧ (↑s.size : Int) ≤ (20 : Int))), V.raw (Value.string s), .slo 0 s.size, iV (↑s.size : Int), iV (k + (1 : Int)), V.raw (.bool (decide (k < (↑s.size : Int)))), V.ptr (0 : Nat) (k.toNat * (1 : Nat)), V.raw (Value.int IntKind.u8 (at' zs (k.toNat * 1))), V.raw (Value.int IntKind.u8 (at' zs (k.toNat * 1))), V.raw (.bool (decide ((97 : Int) ≤ at' zs (k.toNat * 1) ∧ at' zs (k.toNat * 1) ≤ (122 : Int)))), V.raw (.bool !decide ((97 : Int) ≤ at' zs (k.toNat * 1) ∧ at' zs (k.toNat * 1) ≤ (122 : Int))), V.lit false, uV, uV, uV, V.raw (.bool false), iV (k + (1 : Int))]) (h1 := [some (.cells (mixk [some .u8] zs) (5 : Nat) .ro)]) (body_of cfx_mixed cfx_call (Nat.zero_le _) (rnd := none) (fi := 0) (k := 0) (n := 40) (n0 := 1) (ans := [Ans.br true, Ans.val (0 : Nat) (V.raw (Value.int IntKind.u8 (at' zs (k.toNat * 1)))), Ans.ret (V.raw (.bool (decide ((97 : Int) ≤ at' zs (k.toNat * 1) ∧ at' zs (k.toNat * 1) ≤ (122 : Int))))), Ans.br false, Ans.br false, Ans.br false]) (cons := [(decide (k < (↑s.size : Int)) = true), ((0 : Int) ≤ k ∧ k < (↑s.size : Int)), (loadRow cfx (5 : Nat) (mixk [some .u8] zs) (k.toNat * (1 : Nat)) = some (V.raw (Value.int IntKind.u8 (at' zs (k.toNat * 1))))), (Ret cfx (57 : Nat) [V.raw (Value.int IntKind.u8 (at' zs (k.toNat * 1))), V.raw (Value.int IntKind.u8 (97 : Int)), V.raw (Value.int IntKind.u8 (122 : Int))] (V.raw (.bool (decide ((97 : Int) ≤ at' zs (k.toNat * 1) ∧ at' zs (k.toNat * 1) ≤ (122 : Int)))))), ((!decide ((97 : Int) ≤ at' zs (k.toNat * 1) ∧ at' zs (k.toNat * 1) ≤ (122 : Int))) = false), (false = false), (false = false), (inR IntKind.i64 (k + (1 : Int)))]) (by kernel_rfl)
    ⟨(by first | omega | (simp; omega) | (simp_all; omega)), (by omega), (load_mixk1 0 (some .u8) (by kernel_rfl) (by show _ % 1 = 0; omega) rfl (by omega)), (tdBetween_byte _ _ _), (by first | assumption | (simp only [decide_eq_true_eq, decide_eq_false_iff_not, Bool.not_eq_true', Bool.not_eq_false']; first | assumption | omega) | (simp only [decide_eq_true_eq, decide_eq_false_iff_not, Bool.not_eq_true', Bool.not_eq_false']; done) | omega | (simp_all; done) | (simp_all; omega)), rfl, rfl, inR_i64 (by omega) (by omega), trivial⟩ (Nat.le_of_ble_eq_true rfl) (Nat.le_of_ble_eq_true rfl) noRnd (noRanges (by kernel_rfl))) (fun RT RH => reshape2 (lim := 0) 1 cfx_G rfl [] (by kernel_rfl) (by kernel_rfl) (by exact (ents_raw (mixk_all _ _) rfl rfl (ents_nil))) RT RH)
def isn_T4 (s : ByteArray) (k : Int) (zs : List Int) : List V := [V.raw (Value.string s), uV, V.raw (.bool false), uV, .any 4, V.raw (Value.string s), iV (↑s.size : Int), V.raw (.bool (decide ((1 : Int) ≤ (↑s.size : Int) ∧ (↑s.size : Int) ≤ (20 : Int)))), V.raw (.bool !decide ((1 : Int) ≤ (↑s.size : Int) ∧ (↑s.size : Int) ≤ (20 : Int))), V.raw (Value.string s), .slo 0 s.size, iV (↑s.size : Int), iV k, .any 13, .any 14, .any 15, .any 16, .any 17, .any 18, .any 19, .any 20, .any 21, .any 22, .any 23, .any 24]
def isn_H4 (s : ByteArray) (k : Int) (zs : List Int) : Heap := [some (.cells (mixk [some .u8] zs) (5 : Nat) .ro)]
theorem isn_4 (s : ByteArray) (h1 : 1 ≤ s.size) (h2 : s.size ≤ 20) (k : Int) (zs : List Int) (hk : 0 ≤ k) (hz : zs.length = s.size) (f0 : ¬k < (↑s.size : Int)) : Runs cfx 0 1 none (loopOf cfx.P 42 0) (isn_T s k zs) (isn_H s k zs) (Ex.exit (0 : Nat)) (isn_T4 s k zs) (isn_H4 s k zs) := by
  refine Runs.post (t1 := [V.raw (Value.string s), uV, V.raw (.bool false), uV, .any 4, V.raw (Value.string s), iV (↑s.size : Int), V.raw (.bool (decide ((1 : Int) ≤ (↑s.size : Int) ∧ (↑s.size : Int) ≤ (20 : Int)))), V.raw (.bool !decide ((1 : Int) ≤ (↑s.size : Int) ∧ (↑s.size : Int) ≤ (20 : Int))), V.raw (Value.string s), .slo 0 s.size, iV (↑s.size : Int), iV k, V.raw (.bool (decide (k < (↑s.size : Int)))), .any 14, .any 15, .any 16, .any 17, .any 18, .any 19, .any 20, .any 21, .any 22, .any 23, .any 24]) (h1 := [some (.cells (mixk [some .u8] zs) (5 : Nat) .ro)]) (body_of cfx_mixed cfx_call (Nat.zero_le _) (rnd := none) (fi := 0) (k := 0) (n := 40) (n0 := 1) (ans := [Ans.br false]) (cons := [(decide (k < (↑s.size : Int)) = false)]) (by kernel_rfl)
    ⟨(by first | omega | (simp; omega) | (simp_all; omega)), trivial⟩ (Nat.le_of_ble_eq_true rfl) (Nat.le_of_ble_eq_true rfl) noRnd (noRanges (by kernel_rfl))) (fun RT RH => reshape2 (lim := 0) 1 cfx_G rfl [] (by kernel_rfl) (by kernel_rfl) (by exact (ents_raw (mixk_all _ _) rfl rfl (ents_nil))) RT RH)
end Go.Proofs.YtkkgmodladgonaaGreatDoor
end
section
set_option maxRecDepth 100000
namespace Go.Proofs.YtkkgmodladgonaaGreatDoor
open Go Go.RowKit Go.Proofs.YtkkgmodladgonaaGreatDoor.E2
def zb (s : ByteArray) : List Int := s.data.toList.map fun b => (b.toNat : Int)
theorem zb_len (s : ByteArray) : (zb s).length = s.size := by simp only [zb, List.length_map]; rfl
theorem bytes_mixk (s : ByteArray) : bytesOf s = mixk [some .u8] (zb s) := by
  apply List.ext_getElem?
  intro k
  have hm : k % [some IntKind.u8].length = 0 := by simp [Nat.mod_one]
  rcases Nat.lt_or_ge k (zb s).length with h | h
  · rw [mixk_get _ _ h]
    have h2 : k < s.data.toList.length := by simpa [zb] using h
    rw [hm]
    simp only [bytesOf, List.getElem?_map, List.getElem?_eq_getElem h2, Option.map_some, cellW, at', zb, List.getD, Option.getD]
    rfl
  · have h2 : s.data.toList.length ≤ k := by simpa [zb] using h
    have h3 : (mixk [some .u8] (zb s)).length ≤ k := by rw [mixk_len]; exact h
    rw [List.getElem?_eq_none h3]
    simp only [bytesOf, List.getElem?_map, List.getElem?_eq_none h2, Option.map_none]
theorem bytes_all (s : ByteArray) : (bytesOf s).all isRawV = true := by rw [bytes_mixk]; exact mixk_all _ _
def M.charB (n : Int) : Bool := decide (97 ≤ n ∧ n ≤ 122) || decide (48 ≤ n ∧ n ≤ 57)
def M.nameB (s : ByteArray) : Bool := decide (1 ≤ s.size ∧ s.size ≤ 20) && (List.range s.size).all fun k => M.charB (at' (zb s) k)
theorem isn_all (s : ByteArray) (h1 : 1 ≤ s.size) (h2 : s.size ≤ 20) :
    ((List.range s.size).all (fun k => M.charB (at' (zb s) k)) = true ∧ Runs cfx 0 1 none (.loop (loopOf cfx.P 42 0)) (isn_T s 0 (zb s)) (isn_H s 0 (zb s)) (.exit 0) (isn_T4 s s.size (zb s)) (isn_H4 s s.size (zb s))) ∨
    ((List.range s.size).all (fun k => M.charB (at' (zb s) k)) = false ∧ ∃ i : Nat, Runs cfx 0 1 none (.loop (loopOf cfx.P 42 0)) (isn_T s 0 (zb s)) (isn_H s 0 (zb s)) .ret (isn_T1 s i (zb s)) (isn_H1 s i (zb s))) := by
  have hz := zb_len s
  have e : ∀ k : Nat, (k : Int).toNat * 1 = k := fun k => by omega
  have := upto_find noRnd (c := cfx) (lim := 0) (n0 := 1) (x := loopOf cfx.P 42 0) (fun k => M.charB (at' (zb s) k)) (fun k => isn_T s k (zb s)) (fun k => isn_H s k (zb s)) s.size (e := .exit 0) (e1 := .ret) (Te := isn_T4 s s.size (zb s)) (He := isn_H4 s s.size (zb s)) (fun k => isn_T1 s k (zb s)) (fun k => isn_H1 s k (zb s)) (by simp) (by simp)
    (fun k hk hg => by
      simp only [M.charB, Bool.or_eq_true, decide_eq_true_eq] at hg
      by_cases hc : 97 ≤ at' (zb s) k ∧ at' (zb s) k ≤ 122
      · exact isn_3 s h1 h2 k (zb s) (by omega) hz (by omega) (by rw [e]; exact hc)
      · exact isn_2 s h1 h2 k (zb s) (by omega) hz (by omega) (by rw [e]; exact hc) (by rw [e]; exact hg.resolve_left hc))
    (fun k hk hg => by
      simp only [M.charB, Bool.or_eq_false_iff, decide_eq_false_iff_not] at hg
      exact isn_1 s h1 h2 k (zb s) (by omega) hz (by omega) (by rw [e]; exact hg.1) (by rw [e]; exact hg.2))
    (isn_4 s h1 h2 s.size (zb s) (by omega) hz (by omega))
  rcases this with h | ⟨h, i, _, _, _, hr⟩
  · exact .inl h
  · exact .inr ⟨h, i, hr⟩
end Go.Proofs.YtkkgmodladgonaaGreatDoor
end
section
set_option maxRecDepth 100000
namespace Go.Proofs.YtkkgmodladgonaaGreatDoor
open Go Go.RowKit Go.Proofs.YtkkgmodladgonaaGreatDoor.E2
theorem isn_yes (s : ByteArray) (h1 : 1 ≤ s.size) (h2 : s.size ≤ 20) (hR : Runs cfx 0 1 none (.loop (loopOf cfx.P 42 0)) (isn_T s 0 (zb s)) [some (.cells (bytesOf s) 5 .ro)] (.exit 0) (isn_T4 s s.size (zb s)) [some (.cells (bytesOf s) 5 .ro)])  : Ret cfx 42 [.raw (.string s)] (V.raw (.bool true)) := by
  exact fn_of cfx_mixed cfx_call cfx_base.1 cfx_base.2.1 cfx_base.2.2 (n := 40) (ans := [Ans.go, Ans.ret (V.raw (.bool (decide ((1 : Int) ≤ (↑s.size : Int) ∧ (↑s.size : Int) ≤ (20 : Int))))), Ans.br false, Ans.loop (Ex.exit (0 : Nat)) [V.raw (Value.string s), uV, V.raw (.bool false), uV, .any 4, V.raw (Value.string s), iV (↑s.size : Int), V.raw (.bool (decide ((1 : Int) ≤ (↑s.size : Int) ∧ (↑s.size : Int) ≤ (20 : Int)))), V.raw (.bool !decide ((1 : Int) ≤ (↑s.size : Int) ∧ (↑s.size : Int) ≤ (20 : Int))), V.raw (Value.string s), .slo 0 s.size, iV (↑s.size : Int), iV (↑s.size : Int), .any 13, .any 14, .any 15, .any 16, .any 17, .any 18, .any 19, .any 20, .any 21, .any 22, .any 23, .any 24] [some (.cells (bytesOf s) (5 : Nat) .ro)]]) (cons := [(Ret cfx (41 : Nat) [iV (↑s.size : Int), iV (1 : Int), iV (20 : Int)] (V.raw (.bool (decide ((1 : Int) ≤ (↑s.size : Int) ∧ (↑s.size : Int) ≤ (20 : Int)))))), ((!decide ((1 : Int) ≤ (↑s.size : Int) ∧ (↑s.size : Int) ≤ (20 : Int))) = false), (Runs cfx 0 (1 : Nat) none (.loop (loopOf cfx.P 42 0)) [V.raw (Value.string s), uV, V.raw (.bool false), uV, uV, V.raw (Value.string s), iV (↑s.size : Int), V.raw (.bool (decide ((1 : Int) ≤ (↑s.size : Int) ∧ (↑s.size : Int) ≤ (20 : Int)))), V.raw (.bool !decide ((1 : Int) ≤ (↑s.size : Int) ∧ (↑s.size : Int) ≤ (20 : Int))), V.raw (Value.string s), .slo 0 s.size, iV (↑s.size : Int), iV (0 : Int), uV, uV, uV, uV, uV, uV, uV, uV, uV, uV, uV, uV] [some (.cells (bytesOf s) (5 : Nat) .ro)] (Ex.exit (0 : Nat)) [V.raw (Value.string s), uV, V.raw (.bool false), uV, .any 4, V.raw (Value.string s), iV (↑s.size : Int), V.raw (.bool (decide ((1 : Int) ≤ (↑s.size : Int) ∧ (↑s.size : Int) ≤ (20 : Int)))), V.raw (.bool !decide ((1 : Int) ≤ (↑s.size : Int) ∧ (↑s.size : Int) ≤ (20 : Int))), V.raw (Value.string s), .slo 0 s.size, iV (↑s.size : Int), iV (↑s.size : Int), .any 13, .any 14, .any 15, .any 16, .any 17, .any 18, .any 19, .any 20, .any 21, .any 22, .any 23, .any 24] [some (.cells (bytesOf s) (5 : Nat) .ro)])]) (by kernel_rfl) rfl rfl
    ⟨(tdBetween_int _ _ _), (by first | assumption | (simp only [decide_eq_true_eq, decide_eq_false_iff_not, Bool.not_eq_true', Bool.not_eq_false']; first | assumption | omega) | (simp only [decide_eq_true_eq, decide_eq_false_iff_not, Bool.not_eq_true', Bool.not_eq_false']; done) | omega | (simp_all; done) | (simp_all; omega)), (by
      refine Runs.pre (fun b e => by cases e) (fun RT RH => ?_) (hR)
      exact reshape2 (lim := 0) 1 (t := [V.raw (Value.string s), uV, V.raw (.bool false), uV, uV, V.raw (Value.string s), iV (↑s.size : Int), V.raw (.bool (decide ((1 : Int) ≤ (↑s.size : Int) ∧ (↑s.size : Int) ≤ (20 : Int)))), V.raw (.bool !decide ((1 : Int) ≤ (↑s.size : Int) ∧ (↑s.size : Int) ≤ (20 : Int))), V.raw (Value.string s), .slo 0 s.size, iV (↑s.size : Int), iV (0 : Int), uV, uV, uV, uV, uV, uV, uV, uV, uV, uV, uV, uV]) (h := [some (.cells (bytesOf s) (5 : Nat) .ro)]) cfx_G rfl [] (by kernel_rfl) (by kernel_rfl) (by repeat first | exact ents_nil | refine ents_none ?_ | refine ents_raw (ints_all _) rfl rfl ?_ | refine ents_raw (bools_all _) rfl rfl ?_ | refine ents_raw (mix_all _ _) rfl rfl ?_ | refine ents_raw (bytes_all _) rfl rfl ?_ | refine ents_say rfl rfl rfl rfl ?_ | refine ents_nilC rfl rfl ?_) RT RH), trivial⟩
theorem isn_no (s : ByteArray) (h1 : 1 ≤ s.size) (i : Int) (h2 : s.size ≤ 20) (hR : Runs cfx 0 1 none (.loop (loopOf cfx.P 42 0)) (isn_T s 0 (zb s)) [some (.cells (bytesOf s) 5 .ro)] (.ret) (isn_T1 s i (zb s)) [some (.cells (bytesOf s) 5 .ro)])  : Ret cfx 42 [.raw (.string s)] (V.raw (.bool false)) := by
  exact fn_of cfx_mixed cfx_call cfx_base.1 cfx_base.2.1 cfx_base.2.2 (n := 40) (ans := [Ans.go, Ans.ret (V.raw (.bool (decide ((1 : Int) ≤ (↑s.size : Int) ∧ (↑s.size : Int) ≤ (20 : Int))))), Ans.br false, Ans.loop Ex.ret [V.raw (Value.string s), uV, V.raw (.bool false), uV, .any 4, V.raw (Value.string s), iV (↑s.size : Int), V.raw (.bool (decide ((1 : Int) ≤ (↑s.size : Int) ∧ (↑s.size : Int) ≤ (20 : Int)))), V.raw (.bool !decide ((1 : Int) ≤ (↑s.size : Int) ∧ (↑s.size : Int) ≤ (20 : Int))), V.raw (Value.string s), .slo 0 s.size, iV (↑s.size : Int), iV i, .any 13, .any 14, .any 15, .any 16, .any 17, .any 18, .any 19, .any 20, .any 21, .any 22, .any 23, .any 24] [some (.cells (bytesOf s) (5 : Nat) .ro)]]) (cons := [(Ret cfx (41 : Nat) [iV (↑s.size : Int), iV (1 : Int), iV (20 : Int)] (V.raw (.bool (decide ((1 : Int) ≤ (↑s.size : Int) ∧ (↑s.size : Int) ≤ (20 : Int)))))), ((!decide ((1 : Int) ≤ (↑s.size : Int) ∧ (↑s.size : Int) ≤ (20 : Int))) = false), (Runs cfx 0 (1 : Nat) none (.loop (loopOf cfx.P 42 0)) [V.raw (Value.string s), uV, V.raw (.bool false), uV, uV, V.raw (Value.string s), iV (↑s.size : Int), V.raw (.bool (decide ((1 : Int) ≤ (↑s.size : Int) ∧ (↑s.size : Int) ≤ (20 : Int)))), V.raw (.bool !decide ((1 : Int) ≤ (↑s.size : Int) ∧ (↑s.size : Int) ≤ (20 : Int))), V.raw (Value.string s), .slo 0 s.size, iV (↑s.size : Int), iV (0 : Int), uV, uV, uV, uV, uV, uV, uV, uV, uV, uV, uV, uV] [some (.cells (bytesOf s) (5 : Nat) .ro)] (Ex.ret) [V.raw (Value.string s), uV, V.raw (.bool false), uV, .any 4, V.raw (Value.string s), iV (↑s.size : Int), V.raw (.bool (decide ((1 : Int) ≤ (↑s.size : Int) ∧ (↑s.size : Int) ≤ (20 : Int)))), V.raw (.bool !decide ((1 : Int) ≤ (↑s.size : Int) ∧ (↑s.size : Int) ≤ (20 : Int))), V.raw (Value.string s), .slo 0 s.size, iV (↑s.size : Int), iV i, .any 13, .any 14, .any 15, .any 16, .any 17, .any 18, .any 19, .any 20, .any 21, .any 22, .any 23, .any 24] [some (.cells (bytesOf s) (5 : Nat) .ro)])]) (by kernel_rfl) rfl rfl
    ⟨(tdBetween_int _ _ _), (by first | assumption | (simp only [decide_eq_true_eq, decide_eq_false_iff_not, Bool.not_eq_true', Bool.not_eq_false']; first | assumption | omega) | (simp only [decide_eq_true_eq, decide_eq_false_iff_not, Bool.not_eq_true', Bool.not_eq_false']; done) | omega | (simp_all; done) | (simp_all; omega)), (by
      refine Runs.pre (fun b e => by cases e) (fun RT RH => ?_) (hR)
      exact reshape2 (lim := 0) 1 (t := [V.raw (Value.string s), uV, V.raw (.bool false), uV, uV, V.raw (Value.string s), iV (↑s.size : Int), V.raw (.bool (decide ((1 : Int) ≤ (↑s.size : Int) ∧ (↑s.size : Int) ≤ (20 : Int)))), V.raw (.bool !decide ((1 : Int) ≤ (↑s.size : Int) ∧ (↑s.size : Int) ≤ (20 : Int))), V.raw (Value.string s), .slo 0 s.size, iV (↑s.size : Int), iV (0 : Int), uV, uV, uV, uV, uV, uV, uV, uV, uV, uV, uV, uV]) (h := [some (.cells (bytesOf s) (5 : Nat) .ro)]) cfx_G rfl [] (by kernel_rfl) (by kernel_rfl) (by repeat first | exact ents_nil | refine ents_none ?_ | refine ents_raw (ints_all _) rfl rfl ?_ | refine ents_raw (bools_all _) rfl rfl ?_ | refine ents_raw (mix_all _ _) rfl rfl ?_ | refine ents_raw (bytes_all _) rfl rfl ?_ | refine ents_say rfl rfl rfl rfl ?_ | refine ents_nilC rfl rfl ?_) RT RH), trivial⟩
theorem isn_short (s : ByteArray) (h1 : s.size < 1)  : Ret cfx 42 [.raw (.string s)] (V.raw (.bool false)) := by
  exact fn_of cfx_mixed cfx_call cfx_base.1 cfx_base.2.1 cfx_base.2.2 (n := 40) (ans := [Ans.go, Ans.ret (V.raw (.bool (decide ((1 : Int) ≤ (↑s.size : Int) ∧ (↑s.size : Int) ≤ (20 : Int))))), Ans.br true]) (cons := [(Ret cfx (41 : Nat) [iV (↑s.size : Int), iV (1 : Int), iV (20 : Int)] (V.raw (.bool (decide ((1 : Int) ≤ (↑s.size : Int) ∧ (↑s.size : Int) ≤ (20 : Int)))))), ((!decide ((1 : Int) ≤ (↑s.size : Int) ∧ (↑s.size : Int) ≤ (20 : Int))) = true)]) (by kernel_rfl) rfl rfl
    ⟨(tdBetween_int _ _ _), (by first | assumption | (simp only [decide_eq_true_eq, decide_eq_false_iff_not, Bool.not_eq_true', Bool.not_eq_false']; first | assumption | omega) | (simp only [decide_eq_true_eq, decide_eq_false_iff_not, Bool.not_eq_true', Bool.not_eq_false']; done) | omega | (simp_all; done) | (simp_all; omega)), trivial⟩
theorem isn_long (s : ByteArray) (h1 : 20 < s.size) (h2 : s.size ≤ 100)  : Ret cfx 42 [.raw (.string s)] (V.raw (.bool false)) := by
  exact fn_of cfx_mixed cfx_call cfx_base.1 cfx_base.2.1 cfx_base.2.2 (n := 40) (ans := [Ans.go, Ans.ret (V.raw (.bool (decide ((1 : Int) ≤ (↑s.size : Int) ∧ (↑s.size : Int) ≤ (20 : Int))))), Ans.br true]) (cons := [(Ret cfx (41 : Nat) [iV (↑s.size : Int), iV (1 : Int), iV (20 : Int)] (V.raw (.bool (decide ((1 : Int) ≤ (↑s.size : Int) ∧ (↑s.size : Int) ≤ (20 : Int)))))), ((!decide ((1 : Int) ≤ (↑s.size : Int) ∧ (↑s.size : Int) ≤ (20 : Int))) = true)]) (by kernel_rfl) rfl rfl
    ⟨(tdBetween_int _ _ _), (by first | assumption | (simp only [decide_eq_true_eq, decide_eq_false_iff_not, Bool.not_eq_true', Bool.not_eq_false']; first | assumption | omega) | (simp only [decide_eq_true_eq, decide_eq_false_iff_not, Bool.not_eq_true', Bool.not_eq_false']; done) | omega | (simp_all; done) | (simp_all; omega)), trivial⟩
theorem tdIsName (s : ByteArray) (hs : s.size ≤ 100) : Ret cfx 42 [.raw (.string s)] (.raw (.bool (M.nameB s))) := by
  unfold M.nameB
  by_cases h1 : 1 ≤ s.size
  · by_cases h2 : s.size ≤ 20
    · rcases isn_all s h1 h2 with ⟨ha, hr⟩ | ⟨ha, i, hr⟩
      · rw [ha, decide_eq_true ⟨h1, h2⟩]
        unfold isn_H isn_H4 at hr
        rw [← bytes_mixk] at hr
        exact isn_yes s h1 h2 hr
      · rw [ha, Bool.and_false]
        unfold isn_H isn_H1 at hr
        rw [← bytes_mixk] at hr
        exact isn_no s h1 i h2 hr
    · rw [decide_eq_false (fun h => h2 h.2), Bool.false_and]
      exact isn_long s (by omega) hs
  · rw [decide_eq_false (fun h => h1 h.1), Bool.false_and]
    exact isn_short s (by omega)
end Go.Proofs.YtkkgmodladgonaaGreatDoor
end
section
set_option maxRecDepth 100000
namespace Go.Proofs.YtkkgmodladgonaaGreatDoor
open Go Go.RowKit Go.Proofs.YtkkgmodladgonaaGreatDoor.E2
theorem meetx_conc {lim : Nat} {f : FuncId} {args : List V} {h h' : Heap} {v : V} (hm : Meets cfxC lim f args h v h') : Meets cfx lim f args h v h' := fun ρ w R hu =>
  (hm ρ w (relH_cfxC.1 R) hu).mono fun e w' ⟨ρ', h1, h2, h3, h4, h5⟩ => ⟨ρ', h1, h2, relH_cfxC.2 h3, h4, h5⟩
theorem retx_to {f : FuncId} {args : List V} {v : V} (h : Ret cfx f args v) : Ret cfxC f args v := fun H lim hL hl ρ w R hu =>
  (h H lim hL hl ρ w (relH_cfxC.2 R) hu).mono fun e w' ⟨ρ', h1, h2, h3, h4, h5⟩ => ⟨ρ', h1, h2, relH_cfxC.1 h3, h4, h5⟩
theorem find_0 (a : ByteArray) : findV cfxC 9 [] (.string a) = some none := by kernel_rfl
theorem key_str (k : ByteArray) : pureRun cfxC.P (underlying 9) = some .string ∧ pureRun cfxC.P (Instr.checkKey true 10000 9 (.string k)) = some () ∧ pureRun cfxC.P (Instr.checkKey false 10000 9 (.string k)) = some () := ⟨by kernel_rfl, by kernel_rfl, by kernel_rfl⟩
theorem find_1 (a b : ByteArray) {r : Bool} (h : (b == a) = r) : findV cfxC 9 [.string a] (.string b) = some (if r then some 0 else none) := by
  obtain ⟨h1, h2, h3⟩ := key_str b
  unfold findV
  rw [h1, h2, h3]
  cases r <;> simp [keyAt, Instr.sameNow, h]
theorem M.beq_of {a b : ByteArray} (h : (b == a) = true) : b = a := by
  cases a with
  | mk x => cases b with
    | mk y =>
      have h2 : (y == x) = true := h
      rw [eq_of_beq h2]
theorem cp_a0 (a b : ByteArray) (ia ga ib gb : Int) (T : Nat)  (hna : Ret cfxC 42 [.raw (.string a)] (.raw (.bool false))) : Meets cfxC 0 25 [.slo 0 2] [some (.cells [.raw (.string a), .raw (.int .i64 ia), .raw (.int .i64 ga), .raw (.string b), .raw (.int .i64 ib), .raw (.int .i64 gb)] T .ro)] (.raw (.int .i64 2)) [some (.cells [.raw (.string a), .raw (.int .i64 ia), .raw (.int .i64 ga), .raw (.string b), .raw (.int .i64 ib), .raw (.int .i64 gb)] T .ro)] :=
  meets_ev (c := cfxC) cfxW_mixed cfxW_call (Nat.zero_le _) (Nat.zero_le _) (n := 40) (ans := [.auto [] [(42, .raw (.bool false))]]) (cons := [Ret cfxC 42 [.raw (.string a)] (.raw (.bool false))]) (by kernel_rfl) ⟨hna, trivial⟩
theorem cp_a1 (a b : ByteArray) (ia ga ib gb : Int) (T : Nat)  (hna : Ret cfxC 42 [.raw (.string a)] (.raw (.bool true))) (hia : Ret cfxC 18 [.raw (.int .i64 ia)] (.raw (.bool false))) : Meets cfxC 0 25 [.slo 0 2] [some (.cells [.raw (.string a), .raw (.int .i64 ia), .raw (.int .i64 ga), .raw (.string b), .raw (.int .i64 ib), .raw (.int .i64 gb)] T .ro)] (.raw (.int .i64 2)) [some (.cells [.raw (.string a), .raw (.int .i64 ia), .raw (.int .i64 ga), .raw (.string b), .raw (.int .i64 ib), .raw (.int .i64 gb)] T .ro)] :=
  meets_ev (c := cfxC) cfxW_mixed cfxW_call (Nat.zero_le _) (Nat.zero_le _) (n := 40) (ans := [.auto [] [(42, .raw (.bool true)), (18, .raw (.bool false))]]) (cons := [Ret cfxC 42 [.raw (.string a)] (.raw (.bool true)), Ret cfxC 18 [.raw (.int .i64 ia)] (.raw (.bool false))]) (by kernel_rfl) ⟨hna, hia, trivial⟩
theorem cp_a2 (a b : ByteArray) (ia ga ib gb : Int) (T : Nat)  (hna : Ret cfxC 42 [.raw (.string a)] (.raw (.bool true))) (hia : Ret cfxC 18 [.raw (.int .i64 ia)] (.raw (.bool true))) (hga : Ret cfxC 22 [.raw (.int .i64 ga)] (.raw (.bool false))) : Meets cfxC 0 25 [.slo 0 2] [some (.cells [.raw (.string a), .raw (.int .i64 ia), .raw (.int .i64 ga), .raw (.string b), .raw (.int .i64 ib), .raw (.int .i64 gb)] T .ro)] (.raw (.int .i64 2)) [some (.cells [.raw (.string a), .raw (.int .i64 ia), .raw (.int .i64 ga), .raw (.string b), .raw (.int .i64 ib), .raw (.int .i64 gb)] T .ro)] :=
  meets_ev (c := cfxC) cfxW_mixed cfxW_call (Nat.zero_le _) (Nat.zero_le _) (n := 40) (ans := [.auto [] [(42, .raw (.bool true)), (18, .raw (.bool true)), (22, .raw (.bool false))]]) (cons := [Ret cfxC 42 [.raw (.string a)] (.raw (.bool true)), Ret cfxC 18 [.raw (.int .i64 ia)] (.raw (.bool true)), Ret cfxC 22 [.raw (.int .i64 ga)] (.raw (.bool false))]) (by kernel_rfl) ⟨hna, hia, hga, trivial⟩
theorem cp_b0 (a b : ByteArray) (ia ga ib gb : Int) (T : Nat)  (hna : Ret cfxC 42 [.raw (.string a)] (.raw (.bool true))) (hia : Ret cfxC 18 [.raw (.int .i64 ia)] (.raw (.bool true))) (hga : Ret cfxC 22 [.raw (.int .i64 ga)] (.raw (.bool true))) (hnb : Ret cfxC 42 [.raw (.string b)] (.raw (.bool false))) : Meets cfxC 0 25 [.slo 0 2] [some (.cells [.raw (.string a), .raw (.int .i64 ia), .raw (.int .i64 ga), .raw (.string b), .raw (.int .i64 ib), .raw (.int .i64 gb)] T .ro)] (.raw (.int .i64 2)) [some (.cells [.raw (.string a), .raw (.int .i64 ia), .raw (.int .i64 ga), .raw (.string b), .raw (.int .i64 ib), .raw (.int .i64 gb)] T .ro)] :=
  meets_ev (c := cfxC) cfxW_mixed cfxW_call (Nat.zero_le _) (Nat.zero_le _) (n := 40) (ans := [.auto [] [(42, .raw (.bool true)), (18, .raw (.bool true)), (22, .raw (.bool true)), (42, .raw (.bool false))]]) (cons := [Ret cfxC 42 [.raw (.string a)] (.raw (.bool true)), Ret cfxC 18 [.raw (.int .i64 ia)] (.raw (.bool true)), Ret cfxC 22 [.raw (.int .i64 ga)] (.raw (.bool true)), Ret cfxC 42 [.raw (.string b)] (.raw (.bool false))]) (by kernel_rfl) ⟨hna, hia, hga, hnb, trivial⟩
theorem cp_b1 (a b : ByteArray) (ia ga ib gb : Int) (T : Nat)  (hna : Ret cfxC 42 [.raw (.string a)] (.raw (.bool true))) (hia : Ret cfxC 18 [.raw (.int .i64 ia)] (.raw (.bool true))) (hga : Ret cfxC 22 [.raw (.int .i64 ga)] (.raw (.bool true))) (hnb : Ret cfxC 42 [.raw (.string b)] (.raw (.bool true))) (hib : Ret cfxC 18 [.raw (.int .i64 ib)] (.raw (.bool false))) : Meets cfxC 0 25 [.slo 0 2] [some (.cells [.raw (.string a), .raw (.int .i64 ia), .raw (.int .i64 ga), .raw (.string b), .raw (.int .i64 ib), .raw (.int .i64 gb)] T .ro)] (.raw (.int .i64 2)) [some (.cells [.raw (.string a), .raw (.int .i64 ia), .raw (.int .i64 ga), .raw (.string b), .raw (.int .i64 ib), .raw (.int .i64 gb)] T .ro)] :=
  meets_ev (c := cfxC) cfxW_mixed cfxW_call (Nat.zero_le _) (Nat.zero_le _) (n := 40) (ans := [.auto [] [(42, .raw (.bool true)), (18, .raw (.bool true)), (22, .raw (.bool true)), (42, .raw (.bool true)), (18, .raw (.bool false))]]) (cons := [Ret cfxC 42 [.raw (.string a)] (.raw (.bool true)), Ret cfxC 18 [.raw (.int .i64 ia)] (.raw (.bool true)), Ret cfxC 22 [.raw (.int .i64 ga)] (.raw (.bool true)), Ret cfxC 42 [.raw (.string b)] (.raw (.bool true)), Ret cfxC 18 [.raw (.int .i64 ib)] (.raw (.bool false))]) (by kernel_rfl) ⟨hna, hia, hga, hnb, hib, trivial⟩
theorem cp_b2 (a b : ByteArray) (ia ga ib gb : Int) (T : Nat)  (hna : Ret cfxC 42 [.raw (.string a)] (.raw (.bool true))) (hia : Ret cfxC 18 [.raw (.int .i64 ia)] (.raw (.bool true))) (hga : Ret cfxC 22 [.raw (.int .i64 ga)] (.raw (.bool true))) (hnb : Ret cfxC 42 [.raw (.string b)] (.raw (.bool true))) (hib : Ret cfxC 18 [.raw (.int .i64 ib)] (.raw (.bool true))) (hgb : Ret cfxC 22 [.raw (.int .i64 gb)] (.raw (.bool false))) : Meets cfxC 0 25 [.slo 0 2] [some (.cells [.raw (.string a), .raw (.int .i64 ia), .raw (.int .i64 ga), .raw (.string b), .raw (.int .i64 ib), .raw (.int .i64 gb)] T .ro)] (.raw (.int .i64 2)) [some (.cells [.raw (.string a), .raw (.int .i64 ia), .raw (.int .i64 ga), .raw (.string b), .raw (.int .i64 ib), .raw (.int .i64 gb)] T .ro)] :=
  meets_ev (c := cfxC) cfxW_mixed cfxW_call (Nat.zero_le _) (Nat.zero_le _) (n := 40) (ans := [.auto [] [(42, .raw (.bool true)), (18, .raw (.bool true)), (22, .raw (.bool true)), (42, .raw (.bool true)), (18, .raw (.bool true)), (22, .raw (.bool false))]]) (cons := [Ret cfxC 42 [.raw (.string a)] (.raw (.bool true)), Ret cfxC 18 [.raw (.int .i64 ia)] (.raw (.bool true)), Ret cfxC 22 [.raw (.int .i64 ga)] (.raw (.bool true)), Ret cfxC 42 [.raw (.string b)] (.raw (.bool true)), Ret cfxC 18 [.raw (.int .i64 ib)] (.raw (.bool true)), Ret cfxC 22 [.raw (.int .i64 gb)] (.raw (.bool false))]) (by kernel_rfl) ⟨hna, hia, hga, hnb, hib, hgb, trivial⟩
theorem cp_same (a b : ByteArray) (ia ga ib gb : Int) (T : Nat) (hk : (b == a) = true) (hk2 : Instr.sameBits 10000 (.string a) (.string b) = true) (hna : Ret cfxC 42 [.raw (.string a)] (.raw (.bool true))) (hia : Ret cfxC 18 [.raw (.int .i64 ia)] (.raw (.bool true))) (hga : Ret cfxC 22 [.raw (.int .i64 ga)] (.raw (.bool true))) (hnb : Ret cfxC 42 [.raw (.string b)] (.raw (.bool true))) (hib : Ret cfxC 18 [.raw (.int .i64 ib)] (.raw (.bool true))) (hgb : Ret cfxC 22 [.raw (.int .i64 gb)] (.raw (.bool true))) : Meets cfxC 0 25 [.slo 0 2] [some (.cells [.raw (.string a), .raw (.int .i64 ia), .raw (.int .i64 ga), .raw (.string b), .raw (.int .i64 ib), .raw (.int .i64 gb)] T .ro)] (.raw (.int .i64 12)) [some (.cells [.raw (.string a), .raw (.int .i64 ia), .raw (.int .i64 ga), .raw (.string b), .raw (.int .i64 ib), .raw (.int .i64 gb)] T .ro)] :=
  meets_ev (c := cfxC) cfxW_mixed cfxW_call (Nat.zero_le _) (Nat.zero_le _) (n := 40) (ans := [.auto [] [(42, .raw (.bool true)), (18, .raw (.bool true)), (22, .raw (.bool true)), (42, .raw (.bool true)), (18, .raw (.bool true)), (22, .raw (.bool true)), (keyF, .raw (.bool false)), (keyF, .ptr 0 0)]]) (cons := [Ret cfxC 42 [.raw (.string a)] (.raw (.bool true)), Ret cfxC 18 [.raw (.int .i64 ia)] (.raw (.bool true)), Ret cfxC 22 [.raw (.int .i64 ga)] (.raw (.bool true)), Ret cfxC 42 [.raw (.string b)] (.raw (.bool true)), Ret cfxC 18 [.raw (.int .i64 ib)] (.raw (.bool true)), Ret cfxC 22 [.raw (.int .i64 gb)] (.raw (.bool true)), (findV cfxC 9 [] (.string a) = some none), (findV cfxC 9 [.string a] (.string b) = some (some 0)), (Instr.sameBits 10000 (.string a) (.string b) = true)]) (by kernel_rfl) ⟨hna, hia, hga, hnb, hib, hgb, find_0 a, find_1 a b hk, hk2, trivial⟩
theorem cp_ok (a b : ByteArray) (ia ga ib gb : Int) (T : Nat) (hk : (b == a) = false) (hna : Ret cfxC 42 [.raw (.string a)] (.raw (.bool true))) (hia : Ret cfxC 18 [.raw (.int .i64 ia)] (.raw (.bool true))) (hga : Ret cfxC 22 [.raw (.int .i64 ga)] (.raw (.bool true))) (hnb : Ret cfxC 42 [.raw (.string b)] (.raw (.bool true))) (hib : Ret cfxC 18 [.raw (.int .i64 ib)] (.raw (.bool true))) (hgb : Ret cfxC 22 [.raw (.int .i64 gb)] (.raw (.bool true))) : Meets cfxC 0 25 [.slo 0 2] [some (.cells [.raw (.string a), .raw (.int .i64 ia), .raw (.int .i64 ga), .raw (.string b), .raw (.int .i64 ib), .raw (.int .i64 gb)] T .ro)] (.raw (.int .i64 0)) [some (.cells [.raw (.string a), .raw (.int .i64 ia), .raw (.int .i64 ga), .raw (.string b), .raw (.int .i64 ib), .raw (.int .i64 gb)] T .ro)] :=
  meets_ev (c := cfxC) cfxW_mixed cfxW_call (Nat.zero_le _) (Nat.zero_le _) (n := 40) (ans := [.auto [] [(42, .raw (.bool true)), (18, .raw (.bool true)), (22, .raw (.bool true)), (42, .raw (.bool true)), (18, .raw (.bool true)), (22, .raw (.bool true)), (keyF, .raw (.bool false)), (keyF, .raw (.bool false))]]) (cons := [Ret cfxC 42 [.raw (.string a)] (.raw (.bool true)), Ret cfxC 18 [.raw (.int .i64 ia)] (.raw (.bool true)), Ret cfxC 22 [.raw (.int .i64 ga)] (.raw (.bool true)), Ret cfxC 42 [.raw (.string b)] (.raw (.bool true)), Ret cfxC 18 [.raw (.int .i64 ib)] (.raw (.bool true)), Ret cfxC 22 [.raw (.int .i64 gb)] (.raw (.bool true)), (findV cfxC 9 [] (.string a) = some none), (findV cfxC 9 [.string a] (.string b) = some none)]) (by kernel_rfl) ⟨hna, hia, hga, hnb, hib, hgb, find_0 a, find_1 a b hk, trivial⟩
end Go.Proofs.YtkkgmodladgonaaGreatDoor
end
section
set_option maxRecDepth 100000
namespace Go.Proofs.YtkkgmodladgonaaGreatDoor
open Go Go.RowKit Go.Proofs.YtkkgmodladgonaaGreatDoor.E2
def M.okP (s : ByteArray) (i g : Int) : Bool := M.nameB s && (decide (-10000 ≤ i ∧ i ≤ 10000) && decide (-12 ≤ g ∧ g ≤ 48))
def M.chk2 (a : ByteArray) (ia ga : Int) (b : ByteArray) (ib gb : Int) : Int := if (M.okP a ia ga && M.okP b ib gb) = true then (if (b == a) = true then 12 else 0) else 2
theorem tdCheck2 (a b : ByteArray) (ia ga ib gb : Int) (T : Nat) (ha : a.size ≤ 100) (hb : b.size ≤ 100) : Meets cfx 0 25 [.slo 0 2] [some (.cells [.raw (.string a), .raw (.int .i64 ia), .raw (.int .i64 ga), .raw (.string b), .raw (.int .i64 ib), .raw (.int .i64 gb)] T .ro)] (.raw (.int .i64 (M.chk2 a ia ga b ib gb))) [some (.cells [.raw (.string a), .raw (.int .i64 ia), .raw (.int .i64 ga), .raw (.string b), .raw (.int .i64 ib), .raw (.int .i64 gb)] T .ro)] := by
  have n : ∀ {s : ByteArray} {r : Bool}, s.size ≤ 100 → M.nameB s = r → Ret cfxC 42 [.raw (.string s)] (.raw (.bool r)) := fun {s r} h e => by rw [← e]; exact retx_to (tdIsName s h)
  have i : ∀ {x : Int} {r : Bool}, decide (-10000 ≤ x ∧ x ≤ 10000) = r → Ret cfxC 18 [.raw (.int .i64 x)] (.raw (.bool r)) := fun {x r} e => by rw [← e]; exact retx_to (tdIsIndex x)
  have g : ∀ {x : Int} {r : Bool}, decide (-12 ≤ x ∧ x ≤ 48) = r → Ret cfxC 22 [.raw (.int .i64 x)] (.raw (.bool r)) := fun {x r} e => by rw [← e]; exact retx_to (tdIsGrade x)
  refine meetx_conc ?_
  unfold M.chk2 M.okP
  cases h1 : M.nameB a with
  | false => simpa using cp_a0 a b ia ga ib gb T (n ha h1)
  | true =>
  cases h2 : decide (-10000 ≤ ia ∧ ia ≤ 10000) with
  | false => simpa using cp_a1 a b ia ga ib gb T (n ha h1) (i h2)
  | true =>
  cases h3 : decide (-12 ≤ ga ∧ ga ≤ 48) with
  | false => simpa using cp_a2 a b ia ga ib gb T (n ha h1) (i h2) (g h3)
  | true =>
  cases h4 : M.nameB b with
  | false => simpa using cp_b0 a b ia ga ib gb T (n ha h1) (i h2) (g h3) (n hb h4)
  | true =>
  cases h5 : decide (-10000 ≤ ib ∧ ib ≤ 10000) with
  | false => simpa using cp_b1 a b ia ga ib gb T (n ha h1) (i h2) (g h3) (n hb h4) (i h5)
  | true =>
  cases h6 : decide (-12 ≤ gb ∧ gb ≤ 48) with
  | false => simpa using cp_b2 a b ia ga ib gb T (n ha h1) (i h2) (g h3) (n hb h4) (i h5) (g h6)
  | true =>
  cases h7 : (b == a) with
  | false => simpa using cp_ok a b ia ga ib gb T h7 (n ha h1) (i h2) (g h3) (n hb h4) (i h5) (g h6)
  | true =>
    have e := M.beq_of h7
    subst e
    simpa using cp_same b b ia ga ib gb T h7 (by simp only [Instr.sameBits]; exact M.self b) (n ha h1) (i h2) (g h3) (n hb h4) (i h5) (g h6)
def M.gq (a b : Int) : Int := (if b - a > a - b then b - a else a - b).tdiv 100
def M.gk (a b : Int) : Nat := (if 19 < M.gq a b then 19 else M.gq a b).toNat
def M.gainV (a b : Int) (lv : Bool) : Int := if lv = true then (if a < b then 20 - at' M.gz (M.gk a b) else at' M.gz (M.gk a b)) else 10
theorem M.tdiv_rng {x : Int} (h1 : 0 ≤ x) (h2 : x ≤ 20000) : 0 ≤ x.tdiv 100 ∧ x.tdiv 100 ≤ 200 := by
  rw [Int.tdiv_eq_ediv_of_nonneg h1]
  omega
theorem M.gq_rng {a b : Int} (ha : -10000 ≤ a ∧ a ≤ 10000) (hb : -10000 ≤ b ∧ b ≤ 10000) : 0 ≤ M.gq a b ∧ M.gq a b ≤ 200 := by
  unfold M.gq
  split <;> exact M.tdiv_rng (by omega) (by omega)
theorem M.gk_lt {a b : Int} (h : 0 ≤ M.gq a b) : M.gk a b < 20 := by unfold M.gk; split <;> omega
theorem tdGainV (a b : Int) (lv : Bool) (T : Nat) (ha : -10000 ≤ a ∧ a ≤ 10000) (hb : -10000 ≤ b ∧ b ≤ 10000) : Meets cfxd 0 19 [.raw (.int .i64 a), .raw (.int .i64 b), .raw (.bool lv)] [some (.cells (ints M.gz) T .ro)] (.raw (.int .i64 (M.gainV a b lv))) [some (.cells (ints M.gz) T .ro)] := by
  have hq := M.gq_rng ha hb
  have hk := M.gz_rng _ (M.gk_lt hq.1)
  have e : 0 + (if 19 < M.gq a b then 19 else M.gq a b).toNat * 1 = M.gk a b := by unfold M.gk; omega
  have hk2 := hk
  rw [← e] at hk2
  unfold M.gainV
  cases lv with
  | false => exact tdGain_1 a b false T ha hb rfl hq hk2 rfl
  | true =>
    by_cases h : a < b
    · rw [if_pos rfl, if_pos h, ← e]
      exact tdGain_2 a b true T ha hb rfl hq hk2 rfl h
    · rw [if_pos rfl, if_neg h, ← e]
      exact tdGain_3 a b true T ha hb rfl hq hk2 rfl h
theorem M.gain_rng {a b : Int} (lv : Bool) (ha : -10000 ≤ a ∧ a ≤ 10000) (hb : -10000 ≤ b ∧ b ≤ 10000) : 1 ≤ M.gainV a b lv ∧ M.gainV a b lv ≤ 19 := by
  have hk := M.gz_rng _ (M.gk_lt (M.gq_rng ha hb).1)
  unfold M.gainV
  split
  · split <;> omega
  · omega
end Go.Proofs.YtkkgmodladgonaaGreatDoor
end
section
set_option maxRecDepth 100000
namespace Go.Proofs.YtkkgmodladgonaaGreatDoor
open Go Go.RowKit Go.Proofs.YtkkgmodladgonaaGreatDoor.E2
theorem rdWithin_1 (n lo hi : Int) (f0 : lo ≤ n) : Ret cfx 20 [.raw (.int .i64 n), .raw (.int .i64 lo), .raw (.int .i64 hi)] (V.raw (.bool (decide (n ≤ hi)))) := by
  exact fn_of cfx_mixed cfx_call cfx_base.1 cfx_base.2.1 cfx_base.2.2 (n := 40) (ans := [Ans.go, Ans.br true, Ans.br true]) (cons := [(decide (lo ≤ n) = true), (true = true)]) (by kernel_rfl) rfl rfl
    ⟨(by first | assumption | (simp only [decide_eq_true_eq, decide_eq_false_iff_not, Bool.not_eq_true', Bool.not_eq_false']; first | assumption | omega) | (simp only [decide_eq_true_eq, decide_eq_false_iff_not, Bool.not_eq_true', Bool.not_eq_false']; done) | omega | (simp_all; done) | (simp_all; omega)), rfl, trivial⟩
theorem rdWithin_2 (n lo hi : Int) (f0 : ¬lo ≤ n) : Ret cfx 20 [.raw (.int .i64 n), .raw (.int .i64 lo), .raw (.int .i64 hi)] (V.raw (.bool false)) := by
  exact fn_of cfx_mixed cfx_call cfx_base.1 cfx_base.2.1 cfx_base.2.2 (n := 40) (ans := [Ans.go, Ans.br false, Ans.br false]) (cons := [(decide (lo ≤ n) = false), (false = false)]) (by kernel_rfl) rfl rfl
    ⟨(by first | assumption | (simp only [decide_eq_true_eq, decide_eq_false_iff_not, Bool.not_eq_true', Bool.not_eq_false']; first | assumption | omega) | (simp only [decide_eq_true_eq, decide_eq_false_iff_not, Bool.not_eq_true', Bool.not_eq_false']; done) | omega | (simp_all; done) | (simp_all; omega)), rfl, trivial⟩
theorem rdWithin (n lo hi : Int) : Ret cfx 20 [.raw (.int .i64 n), .raw (.int .i64 lo), .raw (.int .i64 hi)] (.raw (.bool (decide (lo ≤ n ∧ n ≤ hi)))) := by
  by_cases f0 : lo ≤ n
  ·
    have e : (.raw (.bool (decide (lo ≤ n ∧ n ≤ hi))) : V) = V.raw (.bool (decide (n ≤ hi))) := by (congr 2; rw [Bool.eq_iff_iff]; simp; omega)
    rw [e]
    exact rdWithin_1 n lo hi f0
  ·
    have e : (.raw (.bool (decide (lo ≤ n ∧ n ≤ hi))) : V) = V.raw (.bool false) := by (congr 2; rw [Bool.eq_iff_iff]; simp; omega)
    rw [e]
    exact rdWithin_2 n lo hi f0
theorem rdTrig_1 (g : Int) (h1 : -13 ≤ g) (h2 : g ≤ 49) (f0 : g ≤ (0 : Int)) : Ret cfx 24 [.raw (.int .i64 g)] (iV ((2000 : Int) - (40 : Int) * g)) := by
  exact fn_of cfx_mixed cfx_call cfx_base.1 cfx_base.2.1 cfx_base.2.2 (n := 40) (ans := [Ans.go, Ans.br true]) (cons := [(decide (g ≤ (0 : Int)) = true), (inR IntKind.i64 ((40 : Int) * g)), (inR IntKind.i64 ((2000 : Int) - (40 : Int) * g))]) (by kernel_rfl) rfl rfl
    ⟨(by first | omega | (simp; omega) | (simp_all; omega)), inR_i64 (by omega) (by omega), inR_i64 (by omega) (by omega), trivial⟩
theorem rdTrig_2 (g : Int) (h1 : -13 ≤ g) (h2 : g ≤ 49) (f0 : ¬g ≤ (0 : Int)) : Ret cfx 24 [.raw (.int .i64 g)] (iV ((2000 : Int) - (50 : Int) * g)) := by
  exact fn_of cfx_mixed cfx_call cfx_base.1 cfx_base.2.1 cfx_base.2.2 (n := 40) (ans := [Ans.go, Ans.br false]) (cons := [(decide (g ≤ (0 : Int)) = false), (inR IntKind.i64 ((50 : Int) * g)), (inR IntKind.i64 ((2000 : Int) - (50 : Int) * g))]) (by kernel_rfl) rfl rfl
    ⟨(by first | omega | (simp; omega) | (simp_all; omega)), inR_i64 (by omega) (by omega), inR_i64 (by omega) (by omega), trivial⟩
theorem rdTrig (g : Int) (h1 : -13 ≤ g) (h2 : g ≤ 49) : Ret cfx 24 [.raw (.int .i64 g)] (.raw (.int .i64 (M.trig g))) := by
  by_cases f0 : g ≤ (0 : Int)
  ·
    have e : (.raw (.int .i64 (M.trig g)) : V) = (iV ((2000 : Int) - (40 : Int) * g)) := by (unfold M.trig; first | rw [if_pos (by omega)] | rw [if_neg (by omega)])
    rw [e]
    exact rdTrig_1 g h1 h2 f0
  ·
    have e : (.raw (.int .i64 (M.trig g)) : V) = (iV ((2000 : Int) - (50 : Int) * g)) := by (unfold M.trig; first | rw [if_pos (by omega)] | rw [if_neg (by omega)])
    rw [e]
    exact rdTrig_2 g h1 h2 f0
theorem rdTrigger_1 (g : Int) (f0 : g < (-12 : Int)) : Ret cfx 8 [.raw (.int .i64 g)] (V.raw (.tuple { toList := [.int .i64 (0 : Int), .int .i64 (3 : Int)] })) := by
  exact fn_of cfx_mixed cfx_call cfx_base.1 cfx_base.2.1 cfx_base.2.2 (n := 40) (ans := [Ans.go, Ans.br true, Ans.br true, Ans.br true]) (cons := [(decide (g < (-12 : Int)) = true), (true = true), (true = true)]) (by kernel_rfl) rfl rfl
    ⟨(by first | omega | (simp; omega) | (simp_all; omega)), rfl, rfl, trivial⟩
theorem rdTrigger_2 (g : Int) (f0 : ¬g < (-12 : Int)) (f1 : (48 : Int) < g) : Ret cfx 8 [.raw (.int .i64 g)] (V.raw (.tuple { toList := [.int .i64 (0 : Int), .int .i64 (3 : Int)] })) := by
  exact fn_of cfx_mixed cfx_call cfx_base.1 cfx_base.2.1 cfx_base.2.2 (n := 40) (ans := [Ans.go, Ans.br false, Ans.br false, Ans.br true]) (cons := [(decide (g < (-12 : Int)) = false), (false = false), (decide ((48 : Int) < g) = true)]) (by kernel_rfl) rfl rfl
    ⟨(by first | omega | (simp; omega) | (simp_all; omega)), rfl, (by first | omega | (simp; omega) | (simp_all; omega)), trivial⟩
theorem rdTrigger_3 (g : Int) (f0 : ¬g < (-12 : Int)) (f1 : ¬(48 : Int) < g) : Ret cfx 8 [.raw (.int .i64 g)] (V.raw (.tuple { toList := [.int .i64 (M.trig g), .int .i64 (0 : Int)] })) := by
  exact fn_of cfx_mixed cfx_call cfx_base.1 cfx_base.2.1 cfx_base.2.2 (n := 40) (ans := [Ans.go, Ans.br false, Ans.br false, Ans.br false, Ans.ret (iV (M.trig g))]) (cons := [(decide (g < (-12 : Int)) = false), (false = false), (decide ((48 : Int) < g) = false), (Ret cfx (24 : Nat) [iV g] (iV (M.trig g)))]) (by kernel_rfl) rfl rfl
    ⟨(by first | omega | (simp; omega) | (simp_all; omega)), rfl, (by first | omega | (simp; omega) | (simp_all; omega)), (rdTrig _ (by omega) (by omega)), trivial⟩
def rmd_T (s : ByteArray) (i g : Int) (n : Int) (x p : Int) : List V := [V.raw (.agg { toList := [Value.string s, .int .i64 i, .int .i64 g] }), iV n, .ptr 0 0, uV, .ptr 1 0, .ptr 0 1, iV i, iV n, iV (i + n), iV (if (10000 : Int) < i + n then (10000 : Int) else i + n), iV (if (if (10000 : Int) < i + n then (10000 : Int) else i + n) > (-10000 : Int) then if (10000 : Int) < i + n then (10000 : Int) else i + n else (-10000 : Int)), .ptr 0 1, .any 12, .any 13, .any 14, .any 15, .any 16, .any 17, .any 18, .any 19, .any 20, .any 21, .any 22, .any 23, .any 24, .any 25, .any 26, .any 27, uV, uV, uV, uV, uV, uV, uV, uV, uV, uV, uV, uV, uV, uV, uV, uV, uV]
def rmd_H (s : ByteArray) (i g : Int) (n : Int) (x p : Int) : Heap := [some (.cells [V.raw (Value.string s), iV x, iV p] 23 .rw), some (.cells [V.raw (Value.string { data := #[] }), iV (0 : Int), iV (0 : Int)] 23 .rw)]
theorem rmd_1 (s : ByteArray) (i g : Int) (h1 : -12 ≤ g) (h2 : g ≤ 48) (n : Int) (hi : -10000 ≤ i ∧ i ≤ 10000) (hn : -20 ≤ n ∧ n ≤ 20) (x p : Int) (hp1 : -12 ≤ p) (hp2 : p ≤ 48) (f0 : (-12 : Int) < p) (f1 : M.trig (p - (1 : Int)) ≤ x) : Runs cfx 0 2 none (loopOf cfx.P 46 0) (rmd_T s i g n x p) (rmd_H s i g n x p) (Ex.normal) (rmd_T s i g n x (p - (1 : Int))) (rmd_H s i g n x (p - (1 : Int))) := by
  refine Runs.post (t1 := [V.raw (.agg { toList := [Value.string s, .int .i64 i, .int .i64 g] }), iV n, .ptr 0 0, uV, .ptr 1 0, .ptr 0 1, iV i, iV n, iV (i + n), iV (if (10000 : Int) < i + n then (10000 : Int) else i + n), iV (if (if (10000 : Int) < i + n then (10000 : Int) else i + n) > (-10000 : Int) then if (10000 : Int) < i + n then (10000 : Int) else i + n else (-10000 : Int)), .ptr 0 1, .ptr 0 2, iV p, V.raw (.bool (decide ((-12 : Int) < p))), V.raw (.bool (decide ((-12 : Int) < p))), .ptr 0 1, iV x, .ptr 0 2, iV p, iV (p - (1 : Int)), iV (M.trig (p - (1 : Int))), V.raw (.bool (decide (M.trig (p - (1 : Int)) ≤ x))), V.raw (.bool (decide (M.trig (p - (1 : Int)) ≤ x))), .ptr 0 2, iV p, iV (p - (1 : Int)), .ptr 0 2, uV, uV, uV, uV, uV, uV, uV, uV, uV, uV, uV, uV, uV, uV, uV, uV, uV]) (h1 := [some (.cells [V.raw (Value.string s), iV x, iV (p - (1 : Int))] 23 .rw), some (.cells [V.raw (Value.string { data := #[] }), iV (0 : Int), iV (0 : Int)] 23 .rw)]) (body_of cfx_mixed cfx_call (Nat.zero_le _) (rnd := none) (fi := 0) (k := 0) (n := 40) (n0 := 2) (ans := [Ans.olds [], Ans.br true, Ans.br true, Ans.br true, Ans.br true, Ans.br true, Ans.br true, Ans.ret (iV (M.trig (p - (1 : Int)))), Ans.br true, Ans.br true, Ans.br true]) (cons := [(decide ((-12 : Int) < p) = true), (decide ((-12 : Int) < p) = true), (decide ((-12 : Int) < p) = true), (decide ((-12 : Int) < p) = true), (decide ((-12 : Int) < p) = true), (inR IntKind.i64 (p - (1 : Int))), (decide ((-12 : Int) < p) = true), (Ret cfx (24 : Nat) [iV (p - (1 : Int))] (iV (M.trig (p - (1 : Int))))), (decide ((-12 : Int) < p) = true), (decide ((-12 : Int) < p) = true), (decide (M.trig (p - (1 : Int)) ≤ x) = true), (inR IntKind.i64 (p - (1 : Int)))]) (by kernel_rfl)
    ⟨(by first | omega | (simp; omega) | (simp_all; omega)), (by first | omega | (simp; omega) | (simp_all; omega)), (by first | omega | (simp; omega) | (simp_all; omega)), (by first | omega | (simp; omega) | (simp_all; omega)), (by first | omega | (simp; omega) | (simp_all; omega)), inR_i64 (by omega) (by omega), (by first | omega | (simp; omega) | (simp_all; omega)), (rdTrig _ (by omega) (by omega)), (by first | omega | (simp; omega) | (simp_all; omega)), (by first | omega | (simp; omega) | (simp_all; omega)), (by first | omega | (simp; omega) | (simp_all; omega)), inR_i64 (by omega) (by omega), trivial⟩ (Nat.le_of_ble_eq_true rfl) (Nat.le_of_ble_eq_true rfl) noRnd (noRanges (by kernel_rfl))) (fun RT RH => reshape2 (lim := 0) 2 cfx_G rfl [] (by kernel_rfl) (by kernel_rfl) (by exact (ents_say rfl rfl rfl rfl (ents_say rfl rfl rfl rfl (ents_nil)))) RT RH)
def rmd_T2 (s : ByteArray) (i g : Int) (n : Int) (x p : Int) : List V := [V.raw (.agg { toList := [Value.string s, .int .i64 i, .int .i64 g] }), iV n, .ptr 0 0, uV, .ptr 1 0, .ptr 0 1, iV i, iV n, iV (i + n), iV (if (10000 : Int) < i + n then (10000 : Int) else i + n), iV (if (if (10000 : Int) < i + n then (10000 : Int) else i + n) > (-10000 : Int) then if (10000 : Int) < i + n then (10000 : Int) else i + n else (-10000 : Int)), .ptr 0 1, .any 12, .any 13, .any 14, .any 15, .any 16, .any 17, .any 18, .any 19, .any 20, .any 21, .any 22, .any 23, .any 24, .any 25, .any 26, .any 27, uV, uV, uV, uV, uV, uV, uV, uV, uV, uV, uV, uV, uV, uV, uV, uV, uV]
def rmd_H2 (s : ByteArray) (i g : Int) (n : Int) (x p : Int) : Heap := [some (.cells [V.raw (Value.string s), iV x, iV p] 23 .rw), some (.cells [V.raw (Value.string { data := #[] }), iV (0 : Int), iV (0 : Int)] 23 .rw)]
theorem rmd_2 (s : ByteArray) (i g : Int) (h1 : -12 ≤ g) (h2 : g ≤ 48) (n : Int) (hi : -10000 ≤ i ∧ i ≤ 10000) (hn : -20 ≤ n ∧ n ≤ 20) (x p : Int) (hp1 : -12 ≤ p) (hp2 : p ≤ 48) (f0 : (-12 : Int) < p) (f1 : ¬M.trig (p - (1 : Int)) ≤ x) : Runs cfx 0 2 none (loopOf cfx.P 46 0) (rmd_T s i g n x p) (rmd_H s i g n x p) (Ex.exit (0 : Nat)) (rmd_T2 s i g n x p) (rmd_H2 s i g n x p) := by
  refine Runs.post (t1 := [V.raw (.agg { toList := [Value.string s, .int .i64 i, .int .i64 g] }), iV n, .ptr 0 0, uV, .ptr 1 0, .ptr 0 1, iV i, iV n, iV (i + n), iV (if (10000 : Int) < i + n then (10000 : Int) else i + n), iV (if (if (10000 : Int) < i + n then (10000 : Int) else i + n) > (-10000 : Int) then if (10000 : Int) < i + n then (10000 : Int) else i + n else (-10000 : Int)), .ptr 0 1, .ptr 0 2, iV p, V.raw (.bool (decide ((-12 : Int) < p))), V.raw (.bool (decide ((-12 : Int) < p))), .ptr 0 1, iV x, .ptr 0 2, iV p, iV (p - (1 : Int)), iV (M.trig (p - (1 : Int))), V.raw (.bool (decide (M.trig (p - (1 : Int)) ≤ x))), V.raw (.bool (decide (M.trig (p - (1 : Int)) ≤ x))), .any 24, .any 25, .any 26, .any 27, uV, uV, uV, uV, uV, uV, uV, uV, uV, uV, uV, uV, uV, uV, uV, uV, uV]) (h1 := [some (.cells [V.raw (Value.string s), iV x, iV p] 23 .rw), some (.cells [V.raw (Value.string { data := #[] }), iV (0 : Int), iV (0 : Int)] 23 .rw)]) (body_of cfx_mixed cfx_call (Nat.zero_le _) (rnd := none) (fi := 0) (k := 0) (n := 40) (n0 := 2) (ans := [Ans.olds [], Ans.br true, Ans.br true, Ans.br true, Ans.br true, Ans.br true, Ans.br true, Ans.ret (iV (M.trig (p - (1 : Int)))), Ans.br true, Ans.br true, Ans.br false]) (cons := [(decide ((-12 : Int) < p) = true), (decide ((-12 : Int) < p) = true), (decide ((-12 : Int) < p) = true), (decide ((-12 : Int) < p) = true), (decide ((-12 : Int) < p) = true), (inR IntKind.i64 (p - (1 : Int))), (decide ((-12 : Int) < p) = true), (Ret cfx (24 : Nat) [iV (p - (1 : Int))] (iV (M.trig (p - (1 : Int))))), (decide ((-12 : Int) < p) = true), (decide ((-12 : Int) < p) = true), (decide (M.trig (p - (1 : Int)) ≤ x) = false)]) (by kernel_rfl)
    ⟨(by first | omega | (simp; omega) | (simp_all; omega)), (by first | omega | (simp; omega) | (simp_all; omega)), (by first | omega | (simp; omega) | (simp_all; omega)), (by first | omega | (simp; omega) | (simp_all; omega)), (by first | omega | (simp; omega) | (simp_all; omega)), inR_i64 (by omega) (by omega), (by first | omega | (simp; omega) | (simp_all; omega)), (rdTrig _ (by omega) (by omega)), (by first | omega | (simp; omega) | (simp_all; omega)), (by first | omega | (simp; omega) | (simp_all; omega)), (by first | omega | (simp; omega) | (simp_all; omega)), trivial⟩ (Nat.le_of_ble_eq_true rfl) (Nat.le_of_ble_eq_true rfl) noRnd (noRanges (by kernel_rfl))) (fun RT RH => reshape2 (lim := 0) 2 cfx_G rfl [] (by kernel_rfl) (by kernel_rfl) (by exact (ents_say rfl rfl rfl rfl (ents_say rfl rfl rfl rfl (ents_nil)))) RT RH)
def rmd_T3 (s : ByteArray) (i g : Int) (n : Int) (x p : Int) : List V := [V.raw (.agg { toList := [Value.string s, .int .i64 i, .int .i64 g] }), iV n, .ptr 0 0, uV, .ptr 1 0, .ptr 0 1, iV i, iV n, iV (i + n), iV (if (10000 : Int) < i + n then (10000 : Int) else i + n), iV (if (if (10000 : Int) < i + n then (10000 : Int) else i + n) > (-10000 : Int) then if (10000 : Int) < i + n then (10000 : Int) else i + n else (-10000 : Int)), .ptr 0 1, .any 12, .any 13, .any 14, .any 15, .any 16, .any 17, .any 18, .any 19, .any 20, .any 21, .any 22, .any 23, .any 24, .any 25, .any 26, .any 27, uV, uV, uV, uV, uV, uV, uV, uV, uV, uV, uV, uV, uV, uV, uV, uV, uV]
def rmd_H3 (s : ByteArray) (i g : Int) (n : Int) (x p : Int) : Heap := [some (.cells [V.raw (Value.string s), iV x, iV p] 23 .rw), some (.cells [V.raw (Value.string { data := #[] }), iV (0 : Int), iV (0 : Int)] 23 .rw)]
theorem rmd_3 (s : ByteArray) (i g : Int) (h1 : -12 ≤ g) (h2 : g ≤ 48) (n : Int) (hi : -10000 ≤ i ∧ i ≤ 10000) (hn : -20 ≤ n ∧ n ≤ 20) (x p : Int) (hp1 : -12 ≤ p) (hp2 : p ≤ 48) (f0 : ¬(-12 : Int) < p) : Runs cfx 0 2 none (loopOf cfx.P 46 0) (rmd_T s i g n x p) (rmd_H s i g n x p) (Ex.exit (0 : Nat)) (rmd_T3 s i g n x p) (rmd_H3 s i g n x p) := by
  refine Runs.post (t1 := [V.raw (.agg { toList := [Value.string s, .int .i64 i, .int .i64 g] }), iV n, .ptr 0 0, uV, .ptr 1 0, .ptr 0 1, iV i, iV n, iV (i + n), iV (if (10000 : Int) < i + n then (10000 : Int) else i + n), iV (if (if (10000 : Int) < i + n then (10000 : Int) else i + n) > (-10000 : Int) then if (10000 : Int) < i + n then (10000 : Int) else i + n else (-10000 : Int)), .ptr 0 1, .ptr 0 2, iV p, V.raw (.bool (decide ((-12 : Int) < p))), V.raw (.bool (decide ((-12 : Int) < p))), uV, uV, uV, uV, uV, uV, uV, V.raw (.bool false), .any 24, .any 25, .any 26, .any 27, uV, uV, uV, uV, uV, uV, uV, uV, uV, uV, uV, uV, uV, uV, uV, uV, uV]) (h1 := [some (.cells [V.raw (Value.string s), iV x, iV p] 23 .rw), some (.cells [V.raw (Value.string { data := #[] }), iV (0 : Int), iV (0 : Int)] 23 .rw)]) (body_of cfx_mixed cfx_call (Nat.zero_le _) (rnd := none) (fi := 0) (k := 0) (n := 40) (n0 := 2) (ans := [Ans.olds [], Ans.br false, Ans.br false, Ans.br false, Ans.br false, Ans.br false, Ans.br false, Ans.br false, Ans.br false, Ans.br false]) (cons := [(decide ((-12 : Int) < p) = false), (decide ((-12 : Int) < p) = false), (decide ((-12 : Int) < p) = false), (decide ((-12 : Int) < p) = false), (decide ((-12 : Int) < p) = false), (decide ((-12 : Int) < p) = false), (decide ((-12 : Int) < p) = false), (decide ((-12 : Int) < p) = false), (false = false)]) (by kernel_rfl)
    ⟨(by first | omega | (simp; omega) | (simp_all; omega)), (by first | omega | (simp; omega) | (simp_all; omega)), (by first | omega | (simp; omega) | (simp_all; omega)), (by first | omega | (simp; omega) | (simp_all; omega)), (by first | omega | (simp; omega) | (simp_all; omega)), (by first | omega | (simp; omega) | (simp_all; omega)), (by first | omega | (simp; omega) | (simp_all; omega)), (by first | omega | (simp; omega) | (simp_all; omega)), rfl, trivial⟩ (Nat.le_of_ble_eq_true rfl) (Nat.le_of_ble_eq_true rfl) noRnd (noRanges (by kernel_rfl))) (fun RT RH => reshape2 (lim := 0) 2 cfx_G rfl [] (by kernel_rfl) (by kernel_rfl) (by exact (ents_say rfl rfl rfl rfl (ents_say rfl rfl rfl rfl (ents_nil)))) RT RH)
end Go.Proofs.YtkkgmodladgonaaGreatDoor
end
section
set_option maxRecDepth 100000
namespace Go.Proofs.YtkkgmodladgonaaGreatDoor
open Go Go.RowKit Go.Proofs.YtkkgmodladgonaaGreatDoor.E2
theorem rdGain_no (a b : Int) (ha : -10000 ≤ a ∧ a ≤ 10000) (hb : -10000 ≤ b ∧ b ≤ 10000)  : Ret cfx 21 [.raw (.int .i64 a), .raw (.int .i64 b), .raw (.bool false)] (iV (10 : Int)) := by
  exact fn_of cfx_mixed cfx_call cfx_base.1 cfx_base.2.1 cfx_base.2.2 (n := 40) (ans := [Ans.go, Ans.br true]) (cons := [((20 : Nat) ≤ (9223372036854775807 : Nat)), (inR IntKind.i64 (a - b)), (true = true)]) (by kernel_rfl) rfl rfl
    ⟨(by first | assumption | omega | (simp_all; done) | (simp_all; omega)), inR_i64 (by omega) (by omega), rfl, trivial⟩
theorem rdGain_ge_1 (a b : Int) (ha : -10000 ≤ a ∧ a ≤ 10000) (hb : -10000 ≤ b ∧ b ≤ 10000) (h1 : 0 ≤ a - b) (hq : 0 ≤ (a - b).tdiv 100 ∧ (a - b).tdiv 100 ≤ 200) (hl : M.gz.length = 20)  : Ret cfx 21 [.raw (.int .i64 a), .raw (.int .i64 b), .raw (.bool true)] (iV (at' M.gz ((if (19 : Int) < (a - b).tdiv (100 : Int) then (19 : Int) else (a - b).tdiv (100 : Int)).toNat * (1 : Nat)))) := by
  exact fn_of cfx_mixed cfx_call cfx_base.1 cfx_base.2.1 cfx_base.2.2 (n := 40) (ans := [Ans.go, Ans.br false, Ans.br true, Ans.val (0 : Nat) (iV (at' M.gz ((if (19 : Int) < (a - b).tdiv (100 : Int) then (19 : Int) else (a - b).tdiv (100 : Int)).toNat * (1 : Nat))))]) (cons := [((20 : Nat) ≤ (9223372036854775807 : Nat)), (inR IntKind.i64 (a - b)), (false = false), (decide ((0 : Int) ≤ a - b) = true), ((100 : Int) ≠ (0 : Int)), (inR IntKind.i64 ((a - b).tdiv (100 : Int))), (((0 : Int) ≤ if (19 : Int) < (a - b).tdiv (100 : Int) then (19 : Int) else (a - b).tdiv (100 : Int)) ∧ (if (19 : Int) < (a - b).tdiv (100 : Int) then (19 : Int) else (a - b).tdiv (100 : Int)) < (20 : Int)), (loadRow cfx (2 : Nat) (ints M.gz) ((if (19 : Int) < (a - b).tdiv (100 : Int) then (19 : Int) else (a - b).tdiv (100 : Int)).toNat * (1 : Nat)) = some (iV (at' M.gz ((if (19 : Int) < (a - b).tdiv (100 : Int) then (19 : Int) else (a - b).tdiv (100 : Int)).toNat * (1 : Nat)))))]) (by kernel_rfl) rfl rfl
    ⟨(by first | assumption | omega | (simp_all; done) | (simp_all; omega)), inR_i64 (by omega) (by omega), rfl, (by first | omega | (simp; omega) | (simp_all; omega)), (by first | assumption | omega | (simp_all; done) | (simp_all; omega)), inR_i64 (by omega) (by omega), (by first | assumption | omega | (simp_all; done) | (simp_all; omega)), (load_one (by kernel_rfl) (by first | omega | (simp only [ints_len, putI_length, List.length_append, List.length_replicate, List.length_take, List.length_drop, List.length_cons, List.length_nil]; omega) | (simp only [ints_len, putI_length, List.length_append, List.length_replicate, List.length_take, List.length_drop, List.length_cons, List.length_nil]; done))), trivial⟩
theorem rdGain_ge (a b : Int) (ha : -10000 ≤ a ∧ a ≤ 10000) (hb : -10000 ≤ b ∧ b ≤ 10000) (h1 : 0 ≤ a - b) (hq : 0 ≤ (a - b).tdiv 100 ∧ (a - b).tdiv 100 ≤ 200) (hl : M.gz.length = 20) : Ret cfx 21 [.raw (.int .i64 a), .raw (.int .i64 b), .raw (.bool true)] (.raw (.int .i64 (at' M.gz ((if 19 < (a - b).tdiv 100 then 19 else (a - b).tdiv 100).toNat * 1)))) := by
  have e : (.raw (.int .i64 (at' M.gz ((if 19 < (a - b).tdiv 100 then 19 else (a - b).tdiv 100).toNat * 1))) : V) = (iV (at' M.gz ((if (19 : Int) < (a - b).tdiv (100 : Int) then (19 : Int) else (a - b).tdiv (100 : Int)).toNat * (1 : Nat)))) := by rfl
  rw [e]
  exact rdGain_ge_1 a b ha hb h1 hq hl
theorem rdGain_lt_1 (a b : Int) (ha : -10000 ≤ a ∧ a ≤ 10000) (hb : -10000 ≤ b ∧ b ≤ 10000) (h1 : a - b < 0) (hq : 0 ≤ (-(a - b)).tdiv 100 ∧ (-(a - b)).tdiv 100 ≤ 200) (hk : 1 ≤ at' M.gz ((if 19 < (-(a - b)).tdiv 100 then 19 else (-(a - b)).tdiv 100).toNat * 1) ∧ at' M.gz ((if 19 < (-(a - b)).tdiv 100 then 19 else (-(a - b)).tdiv 100).toNat * 1) ≤ 10) (hl : M.gz.length = 20)  : Ret cfx 21 [.raw (.int .i64 a), .raw (.int .i64 b), .raw (.bool true)] (iV ((20 : Int) - at' M.gz ((if (19 : Int) < (-(a - b)).tdiv (100 : Int) then (19 : Int) else (-(a - b)).tdiv (100 : Int)).toNat * (1 : Nat)))) := by
  exact fn_of cfx_mixed cfx_call cfx_base.1 cfx_base.2.1 cfx_base.2.2 (n := 40) (ans := [Ans.go, Ans.br false, Ans.br false, Ans.val (0 : Nat) (iV (at' M.gz ((if (19 : Int) < (-(a - b)).tdiv (100 : Int) then (19 : Int) else (-(a - b)).tdiv (100 : Int)).toNat * (1 : Nat))))]) (cons := [((20 : Nat) ≤ (9223372036854775807 : Nat)), (inR IntKind.i64 (a - b)), (false = false), (decide ((0 : Int) ≤ a - b) = false), (inR IntKind.i64 (-(a - b))), ((100 : Int) ≠ (0 : Int)), (inR IntKind.i64 ((-(a - b)).tdiv (100 : Int))), (((0 : Int) ≤ if (19 : Int) < (-(a - b)).tdiv (100 : Int) then (19 : Int) else (-(a - b)).tdiv (100 : Int)) ∧ (if (19 : Int) < (-(a - b)).tdiv (100 : Int) then (19 : Int) else (-(a - b)).tdiv (100 : Int)) < (20 : Int)), (loadRow cfx (2 : Nat) (ints M.gz) ((if (19 : Int) < (-(a - b)).tdiv (100 : Int) then (19 : Int) else (-(a - b)).tdiv (100 : Int)).toNat * (1 : Nat)) = some (iV (at' M.gz ((if (19 : Int) < (-(a - b)).tdiv (100 : Int) then (19 : Int) else (-(a - b)).tdiv (100 : Int)).toNat * (1 : Nat))))), (inR IntKind.i64 ((20 : Int) - at' M.gz ((if (19 : Int) < (-(a - b)).tdiv (100 : Int) then (19 : Int) else (-(a - b)).tdiv (100 : Int)).toNat * (1 : Nat))))]) (by kernel_rfl) rfl rfl
    ⟨(by first | assumption | omega | (simp_all; done) | (simp_all; omega)), inR_i64 (by omega) (by omega), rfl, (by first | omega | (simp; omega) | (simp_all; omega)), inR_i64 (by omega) (by omega), (by first | assumption | omega | (simp_all; done) | (simp_all; omega)), inR_i64 (by omega) (by omega), (by first | assumption | omega | (simp_all; done) | (simp_all; omega)), (load_one (by kernel_rfl) (by first | omega | (simp only [ints_len, putI_length, List.length_append, List.length_replicate, List.length_take, List.length_drop, List.length_cons, List.length_nil]; omega) | (simp only [ints_len, putI_length, List.length_append, List.length_replicate, List.length_take, List.length_drop, List.length_cons, List.length_nil]; done))), inR_i64 (by omega) (by omega), trivial⟩
theorem rdGain_lt (a b : Int) (ha : -10000 ≤ a ∧ a ≤ 10000) (hb : -10000 ≤ b ∧ b ≤ 10000) (h1 : a - b < 0) (hq : 0 ≤ (-(a - b)).tdiv 100 ∧ (-(a - b)).tdiv 100 ≤ 200) (hk : 1 ≤ at' M.gz ((if 19 < (-(a - b)).tdiv 100 then 19 else (-(a - b)).tdiv 100).toNat * 1) ∧ at' M.gz ((if 19 < (-(a - b)).tdiv 100 then 19 else (-(a - b)).tdiv 100).toNat * 1) ≤ 10) (hl : M.gz.length = 20) : Ret cfx 21 [.raw (.int .i64 a), .raw (.int .i64 b), .raw (.bool true)] (.raw (.int .i64 (20 - at' M.gz ((if 19 < (-(a - b)).tdiv 100 then 19 else (-(a - b)).tdiv 100).toNat * 1)))) := by
  have e : (.raw (.int .i64 (20 - at' M.gz ((if 19 < (-(a - b)).tdiv 100 then 19 else (-(a - b)).tdiv 100).toNat * 1))) : V) = (iV ((20 : Int) - at' M.gz ((if (19 : Int) < (-(a - b)).tdiv (100 : Int) then (19 : Int) else (-(a - b)).tdiv (100 : Int)).toNat * (1 : Nat)))) := by rfl
  rw [e]
  exact rdGain_lt_1 a b ha hb h1 hq hk hl
end Go.Proofs.YtkkgmodladgonaaGreatDoor
end
section
set_option maxRecDepth 100000
namespace Go.Proofs.YtkkgmodladgonaaGreatDoor
open Go Go.RowKit Go.Proofs.YtkkgmodladgonaaGreatDoor.E2
def rmu_T (s : ByteArray) (i g : Int) (n : Int) (R : Int) (x p : Int) : List V := [V.raw (.agg { toList := [Value.string s, .int .i64 i, .int .i64 g] }), iV n, .ptr 0 0, uV, .ptr 1 0, .ptr 0 1, iV i, iV n, iV (i + n), iV (if (10000 : Int) < i + n then (10000 : Int) else i + n), iV (if (if (10000 : Int) < i + n then (10000 : Int) else i + n) > (-10000 : Int) then if (10000 : Int) < i + n then (10000 : Int) else i + n else (-10000 : Int)), .ptr 0 1, .any 12, .any 13, .any 14, .any 15, .any 16, .any 17, .any 18, .any 19, .any 20, .any 21, .any 22, .any 23, .any 24, .any 25, .any 26, .any 27, .any 28, .any 29, .any 30, .any 31, .any 32, .any 33, .any 34, .any 35, .any 36, .any 37, .any 38, .any 39, .any 40, .any 41, .any 42, .any 43, uV]
def rmu_H (s : ByteArray) (i g : Int) (n : Int) (R : Int) (x p : Int) : Heap := [some (.cells [V.raw (Value.string s), iV x, iV p] 23 .rw), some (.cells [V.raw (Value.string { data := #[] }), iV (0 : Int), iV (0 : Int)] 23 .rw)]
theorem rmu_1 (s : ByteArray) (i g : Int) (h1 : -12 ≤ g) (h2 : g ≤ 48) (n : Int) (hi : -10000 ≤ i ∧ i ≤ 10000) (hn : -20 ≤ n ∧ n ≤ 20) (R : Int) (hr1 : -12 ≤ R) (hr2 : R ≤ 48) (hR : Runs cfx 0 2 none (.loop (loopOf cfx.P 46 0)) (rmd_T s i g n (if (if 10000 < i + n then 10000 else i + n) > -10000 then (if 10000 < i + n then 10000 else i + n) else -10000) g) (rmd_H s i g n (if (if 10000 < i + n then 10000 else i + n) > -10000 then (if 10000 < i + n then 10000 else i + n) else -10000) g) (.exit 0) (rmd_T2 s i g n (if (if 10000 < i + n then 10000 else i + n) > -10000 then (if 10000 < i + n then 10000 else i + n) else -10000) R) (rmd_H2 s i g n (if (if 10000 < i + n then 10000 else i + n) > -10000 then (if 10000 < i + n then 10000 else i + n) else -10000) R)) (x p : Int) (hp1 : -12 ≤ p) (hp2 : p ≤ 48) (f0 : p < (48 : Int)) (f1 : x ≤ M.trig (p + (1 : Int))) : Runs cfx 0 2 none (loopOf cfx.P 46 1) (rmu_T s i g n R x p) (rmu_H s i g n R x p) (Ex.normal) (rmu_T s i g n R x (p + (1 : Int))) (rmu_H s i g n R x (p + (1 : Int))) := by
  refine Runs.post (t1 := [V.raw (.agg { toList := [Value.string s, .int .i64 i, .int .i64 g] }), iV n, .ptr 0 0, uV, .ptr 1 0, .ptr 0 1, iV i, iV n, iV (i + n), iV (if (10000 : Int) < i + n then (10000 : Int) else i + n), iV (if (if (10000 : Int) < i + n then (10000 : Int) else i + n) > (-10000 : Int) then if (10000 : Int) < i + n then (10000 : Int) else i + n else (-10000 : Int)), .ptr 0 1, .any 12, .any 13, .any 14, .any 15, .any 16, .any 17, .any 18, .any 19, .any 20, .any 21, .any 22, .any 23, .any 24, .any 25, .any 26, .any 27, .ptr 0 2, iV p, V.raw (.bool (decide (p < (48 : Int)))), V.raw (.bool (decide (p < (48 : Int)))), .ptr 0 1, iV x, .ptr 0 2, iV p, iV (p + (1 : Int)), iV (M.trig (p + (1 : Int))), V.raw (.bool (decide (x ≤ M.trig (p + (1 : Int))))), V.raw (.bool (decide (x ≤ M.trig (p + (1 : Int))))), .ptr 0 2, iV p, iV (p + (1 : Int)), .ptr 0 2, uV]) (h1 := [some (.cells [V.raw (Value.string s), iV x, iV (p + (1 : Int))] 23 .rw), some (.cells [V.raw (Value.string { data := #[] }), iV (0 : Int), iV (0 : Int)] 23 .rw)]) (body_of cfx_mixed cfx_call (Nat.zero_le _) (rnd := none) (fi := 0) (k := 0) (n := 40) (n0 := 2) (ans := [Ans.olds [], Ans.br true, Ans.br true, Ans.br true, Ans.br true, Ans.br true, Ans.br true, Ans.ret (iV (M.trig (p + (1 : Int)))), Ans.br true, Ans.br true, Ans.br true]) (cons := [(decide (p < (48 : Int)) = true), (decide (p < (48 : Int)) = true), (decide (p < (48 : Int)) = true), (decide (p < (48 : Int)) = true), (decide (p < (48 : Int)) = true), (inR IntKind.i64 (p + (1 : Int))), (decide (p < (48 : Int)) = true), (Ret cfx (24 : Nat) [iV (p + (1 : Int))] (iV (M.trig (p + (1 : Int))))), (decide (p < (48 : Int)) = true), (decide (p < (48 : Int)) = true), (decide (x ≤ M.trig (p + (1 : Int))) = true), (inR IntKind.i64 (p + (1 : Int)))]) (by kernel_rfl)
    ⟨(by first | omega | (simp; omega) | (simp_all; omega)), (by first | omega | (simp; omega) | (simp_all; omega)), (by first | omega | (simp; omega) | (simp_all; omega)), (by first | omega | (simp; omega) | (simp_all; omega)), (by first | omega | (simp; omega) | (simp_all; omega)), inR_i64 (by omega) (by omega), (by first | omega | (simp; omega) | (simp_all; omega)), (rdTrig _ (by omega) (by omega)), (by first | omega | (simp; omega) | (simp_all; omega)), (by first | omega | (simp; omega) | (simp_all; omega)), (by first | omega | (simp; omega) | (simp_all; omega)), inR_i64 (by omega) (by omega), trivial⟩ (Nat.le_of_ble_eq_true rfl) (Nat.le_of_ble_eq_true rfl) noRnd (noRanges (by kernel_rfl))) (fun RT RH => reshape2 (lim := 0) 2 cfx_G rfl [] (by kernel_rfl) (by kernel_rfl) (by exact (ents_say rfl rfl rfl rfl (ents_say rfl rfl rfl rfl (ents_nil)))) RT RH)
def rmu_T2 (s : ByteArray) (i g : Int) (n : Int) (R : Int) (x p : Int) : List V := [V.raw (.agg { toList := [Value.string s, .int .i64 i, .int .i64 g] }), iV n, .ptr 0 0, uV, .ptr 1 0, .ptr 0 1, iV i, iV n, iV (i + n), iV (if (10000 : Int) < i + n then (10000 : Int) else i + n), iV (if (if (10000 : Int) < i + n then (10000 : Int) else i + n) > (-10000 : Int) then if (10000 : Int) < i + n then (10000 : Int) else i + n else (-10000 : Int)), .ptr 0 1, .any 12, .any 13, .any 14, .any 15, .any 16, .any 17, .any 18, .any 19, .any 20, .any 21, .any 22, .any 23, .any 24, .any 25, .any 26, .any 27, .any 28, .any 29, .any 30, .any 31, .any 32, .any 33, .any 34, .any 35, .any 36, .any 37, .any 38, .any 39, .any 40, .any 41, .any 42, .any 43, uV]
def rmu_H2 (s : ByteArray) (i g : Int) (n : Int) (R : Int) (x p : Int) : Heap := [some (.cells [V.raw (Value.string s), iV x, iV p] 23 .rw), some (.cells [V.raw (Value.string { data := #[] }), iV (0 : Int), iV (0 : Int)] 23 .rw)]
theorem rmu_2 (s : ByteArray) (i g : Int) (h1 : -12 ≤ g) (h2 : g ≤ 48) (n : Int) (hi : -10000 ≤ i ∧ i ≤ 10000) (hn : -20 ≤ n ∧ n ≤ 20) (R : Int) (hr1 : -12 ≤ R) (hr2 : R ≤ 48) (hR : Runs cfx 0 2 none (.loop (loopOf cfx.P 46 0)) (rmd_T s i g n (if (if 10000 < i + n then 10000 else i + n) > -10000 then (if 10000 < i + n then 10000 else i + n) else -10000) g) (rmd_H s i g n (if (if 10000 < i + n then 10000 else i + n) > -10000 then (if 10000 < i + n then 10000 else i + n) else -10000) g) (.exit 0) (rmd_T2 s i g n (if (if 10000 < i + n then 10000 else i + n) > -10000 then (if 10000 < i + n then 10000 else i + n) else -10000) R) (rmd_H2 s i g n (if (if 10000 < i + n then 10000 else i + n) > -10000 then (if 10000 < i + n then 10000 else i + n) else -10000) R)) (x p : Int) (hp1 : -12 ≤ p) (hp2 : p ≤ 48) (f0 : p < (48 : Int)) (f1 : ¬x ≤ M.trig (p + (1 : Int))) : Runs cfx 0 2 none (loopOf cfx.P 46 1) (rmu_T s i g n R x p) (rmu_H s i g n R x p) (Ex.exit (2 : Nat)) (rmu_T2 s i g n R x p) (rmu_H2 s i g n R x p) := by
  refine Runs.post (t1 := [V.raw (.agg { toList := [Value.string s, .int .i64 i, .int .i64 g] }), iV n, .ptr 0 0, uV, .ptr 1 0, .ptr 0 1, iV i, iV n, iV (i + n), iV (if (10000 : Int) < i + n then (10000 : Int) else i + n), iV (if (if (10000 : Int) < i + n then (10000 : Int) else i + n) > (-10000 : Int) then if (10000 : Int) < i + n then (10000 : Int) else i + n else (-10000 : Int)), .ptr 0 1, .any 12, .any 13, .any 14, .any 15, .any 16, .any 17, .any 18, .any 19, .any 20, .any 21, .any 22, .any 23, .any 24, .any 25, .any 26, .any 27, .ptr 0 2, iV p, V.raw (.bool (decide (p < (48 : Int)))), V.raw (.bool (decide (p < (48 : Int)))), .ptr 0 1, iV x, .ptr 0 2, iV p, iV (p + (1 : Int)), iV (M.trig (p + (1 : Int))), V.raw (.bool (decide (x ≤ M.trig (p + (1 : Int))))), V.raw (.bool (decide (x ≤ M.trig (p + (1 : Int))))), .any 40, .any 41, .any 42, .any 43, uV]) (h1 := [some (.cells [V.raw (Value.string s), iV x, iV p] 23 .rw), some (.cells [V.raw (Value.string { data := #[] }), iV (0 : Int), iV (0 : Int)] 23 .rw)]) (body_of cfx_mixed cfx_call (Nat.zero_le _) (rnd := none) (fi := 0) (k := 0) (n := 40) (n0 := 2) (ans := [Ans.olds [], Ans.br true, Ans.br true, Ans.br true, Ans.br true, Ans.br true, Ans.br true, Ans.ret (iV (M.trig (p + (1 : Int)))), Ans.br true, Ans.br true, Ans.br false]) (cons := [(decide (p < (48 : Int)) = true), (decide (p < (48 : Int)) = true), (decide (p < (48 : Int)) = true), (decide (p < (48 : Int)) = true), (decide (p < (48 : Int)) = true), (inR IntKind.i64 (p + (1 : Int))), (decide (p < (48 : Int)) = true), (Ret cfx (24 : Nat) [iV (p + (1 : Int))] (iV (M.trig (p + (1 : Int))))), (decide (p < (48 : Int)) = true), (decide (p < (48 : Int)) = true), (decide (x ≤ M.trig (p + (1 : Int))) = false)]) (by kernel_rfl)
    ⟨(by first | omega | (simp; omega) | (simp_all; omega)), (by first | omega | (simp; omega) | (simp_all; omega)), (by first | omega | (simp; omega) | (simp_all; omega)), (by first | omega | (simp; omega) | (simp_all; omega)), (by first | omega | (simp; omega) | (simp_all; omega)), inR_i64 (by omega) (by omega), (by first | omega | (simp; omega) | (simp_all; omega)), (rdTrig _ (by omega) (by omega)), (by first | omega | (simp; omega) | (simp_all; omega)), (by first | omega | (simp; omega) | (simp_all; omega)), (by first | omega | (simp; omega) | (simp_all; omega)), trivial⟩ (Nat.le_of_ble_eq_true rfl) (Nat.le_of_ble_eq_true rfl) noRnd (noRanges (by kernel_rfl))) (fun RT RH => reshape2 (lim := 0) 2 cfx_G rfl [] (by kernel_rfl) (by kernel_rfl) (by exact (ents_say rfl rfl rfl rfl (ents_say rfl rfl rfl rfl (ents_nil)))) RT RH)
def rmu_T3 (s : ByteArray) (i g : Int) (n : Int) (R : Int) (x p : Int) : List V := [V.raw (.agg { toList := [Value.string s, .int .i64 i, .int .i64 g] }), iV n, .ptr 0 0, uV, .ptr 1 0, .ptr 0 1, iV i, iV n, iV (i + n), iV (if (10000 : Int) < i + n then (10000 : Int) else i + n), iV (if (if (10000 : Int) < i + n then (10000 : Int) else i + n) > (-10000 : Int) then if (10000 : Int) < i + n then (10000 : Int) else i + n else (-10000 : Int)), .ptr 0 1, .any 12, .any 13, .any 14, .any 15, .any 16, .any 17, .any 18, .any 19, .any 20, .any 21, .any 22, .any 23, .any 24, .any 25, .any 26, .any 27, .any 28, .any 29, .any 30, .any 31, .any 32, .any 33, .any 34, .any 35, .any 36, .any 37, .any 38, .any 39, .any 40, .any 41, .any 42, .any 43, uV]
def rmu_H3 (s : ByteArray) (i g : Int) (n : Int) (R : Int) (x p : Int) : Heap := [some (.cells [V.raw (Value.string s), iV x, iV p] 23 .rw), some (.cells [V.raw (Value.string { data := #[] }), iV (0 : Int), iV (0 : Int)] 23 .rw)]
theorem rmu_3 (s : ByteArray) (i g : Int) (h1 : -12 ≤ g) (h2 : g ≤ 48) (n : Int) (hi : -10000 ≤ i ∧ i ≤ 10000) (hn : -20 ≤ n ∧ n ≤ 20) (R : Int) (hr1 : -12 ≤ R) (hr2 : R ≤ 48) (hR : Runs cfx 0 2 none (.loop (loopOf cfx.P 46 0)) (rmd_T s i g n (if (if 10000 < i + n then 10000 else i + n) > -10000 then (if 10000 < i + n then 10000 else i + n) else -10000) g) (rmd_H s i g n (if (if 10000 < i + n then 10000 else i + n) > -10000 then (if 10000 < i + n then 10000 else i + n) else -10000) g) (.exit 0) (rmd_T2 s i g n (if (if 10000 < i + n then 10000 else i + n) > -10000 then (if 10000 < i + n then 10000 else i + n) else -10000) R) (rmd_H2 s i g n (if (if 10000 < i + n then 10000 else i + n) > -10000 then (if 10000 < i + n then 10000 else i + n) else -10000) R)) (x p : Int) (hp1 : -12 ≤ p) (hp2 : p ≤ 48) (f0 : ¬p < (48 : Int)) : Runs cfx 0 2 none (loopOf cfx.P 46 1) (rmu_T s i g n R x p) (rmu_H s i g n R x p) (Ex.exit (2 : Nat)) (rmu_T3 s i g n R x p) (rmu_H3 s i g n R x p) := by
  refine Runs.post (t1 := [V.raw (.agg { toList := [Value.string s, .int .i64 i, .int .i64 g] }), iV n, .ptr 0 0, uV, .ptr 1 0, .ptr 0 1, iV i, iV n, iV (i + n), iV (if (10000 : Int) < i + n then (10000 : Int) else i + n), iV (if (if (10000 : Int) < i + n then (10000 : Int) else i + n) > (-10000 : Int) then if (10000 : Int) < i + n then (10000 : Int) else i + n else (-10000 : Int)), .ptr 0 1, .any 12, .any 13, .any 14, .any 15, .any 16, .any 17, .any 18, .any 19, .any 20, .any 21, .any 22, .any 23, .any 24, .any 25, .any 26, .any 27, .ptr 0 2, iV p, V.raw (.bool (decide (p < (48 : Int)))), V.raw (.bool (decide (p < (48 : Int)))), uV, uV, uV, uV, uV, uV, uV, V.raw (.bool false), .any 40, .any 41, .any 42, .any 43, uV]) (h1 := [some (.cells [V.raw (Value.string s), iV x, iV p] 23 .rw), some (.cells [V.raw (Value.string { data := #[] }), iV (0 : Int), iV (0 : Int)] 23 .rw)]) (body_of cfx_mixed cfx_call (Nat.zero_le _) (rnd := none) (fi := 0) (k := 0) (n := 40) (n0 := 2) (ans := [Ans.olds [], Ans.br false, Ans.br false, Ans.br false, Ans.br false, Ans.br false, Ans.br false, Ans.br false, Ans.br false, Ans.br false]) (cons := [(decide (p < (48 : Int)) = false), (decide (p < (48 : Int)) = false), (decide (p < (48 : Int)) = false), (decide (p < (48 : Int)) = false), (decide (p < (48 : Int)) = false), (decide (p < (48 : Int)) = false), (decide (p < (48 : Int)) = false), (decide (p < (48 : Int)) = false), (false = false)]) (by kernel_rfl)
    ⟨(by first | omega | (simp; omega) | (simp_all; omega)), (by first | omega | (simp; omega) | (simp_all; omega)), (by first | omega | (simp; omega) | (simp_all; omega)), (by first | omega | (simp; omega) | (simp_all; omega)), (by first | omega | (simp; omega) | (simp_all; omega)), (by first | omega | (simp; omega) | (simp_all; omega)), (by first | omega | (simp; omega) | (simp_all; omega)), (by first | omega | (simp; omega) | (simp_all; omega)), rfl, trivial⟩ (Nat.le_of_ble_eq_true rfl) (Nat.le_of_ble_eq_true rfl) noRnd (noRanges (by kernel_rfl))) (fun RT RH => reshape2 (lim := 0) 2 cfx_G rfl [] (by kernel_rfl) (by kernel_rfl) (by exact (ents_say rfl rfl rfl rfl (ents_say rfl rfl rfl rfl (ents_nil)))) RT RH)
end Go.Proofs.YtkkgmodladgonaaGreatDoor
end
section
set_option maxRecDepth 100000
namespace Go.Proofs.YtkkgmodladgonaaGreatDoor
open Go Go.RowKit Go.Proofs.YtkkgmodladgonaaGreatDoor.E2
theorem rmd_rounds (s : ByteArray) (i g : Int) (h1 : -12 ≤ g) (h2 : g ≤ 48) (n : Int) (hi : -10000 ≤ i ∧ i ≤ 10000) (hn : -20 ≤ n ∧ n ≤ 20) (x : Int) : ∀ (k : Nat) (p : Int), -12 ≤ p → p ≤ 48 → p + 13 ≤ k → ∃ m, Rounds cfx 0 2 none (loopOf cfx.P 46 0) m (rmd_T s i g n x p) (rmd_H s i g n x p) (.exit 0) (rmd_T2 s i g n x (M.downN k x p)) (rmd_H2 s i g n x (M.downN k x p)) := by
  intro k
  induction k with
  | zero => intro p hp1 hp2 hk; omega
  | succ k ih =>
    intro p hp1 hp2 hk
    by_cases c1 : -12 < p
    · by_cases c2 : M.trig (p - 1) ≤ x
      · have e : M.betG x p = p - 1 := by unfold M.betG; rw [if_pos ⟨c1, c2⟩]
        have e2 : M.downN (k + 1) x p = M.downN k x (p - 1) := by simp only [M.downN, e]; rw [if_neg (by omega)]
        rw [e2]
        obtain ⟨m, hm⟩ := ih (p - 1) (by omega) (by omega) (by omega)
        exact ⟨m + 1, rounds_more noRnd (rmd_1 s i g h1 h2 n hi hn x p hp1 hp2 c1 c2) hm⟩
      · have e : M.betG x p = p := by unfold M.betG; rw [if_neg (fun h => c2 h.2)]
        have e2 : M.downN (k + 1) x p = p := by simp only [M.downN, e, if_true]
        rw [e2]
        exact ⟨1, rounds_done (rmd_2 s i g h1 h2 n hi hn x p hp1 hp2 c1 c2) (by simp)⟩
    · have e : M.betG x p = p := by unfold M.betG; rw [if_neg (fun h => c1 h.1)]
      have e2 : M.downN (k + 1) x p = p := by simp only [M.downN, e, if_true]
      rw [e2]
      exact ⟨1, rounds_done (rmd_3 s i g h1 h2 n hi hn x p hp1 hp2 c1) (by simp)⟩
theorem rmu_rounds (s : ByteArray) (i g : Int) (h1 : -12 ≤ g) (h2 : g ≤ 48) (n : Int) (hi : -10000 ≤ i ∧ i ≤ 10000) (hn : -20 ≤ n ∧ n ≤ 20) (R : Int) (hr1 : -12 ≤ R) (hr2 : R ≤ 48) (hR : Runs cfx 0 2 none (.loop (loopOf cfx.P 46 0)) (rmd_T s i g n (if (if 10000 < i + n then 10000 else i + n) > -10000 then (if 10000 < i + n then 10000 else i + n) else -10000) g) (rmd_H s i g n (if (if 10000 < i + n then 10000 else i + n) > -10000 then (if 10000 < i + n then 10000 else i + n) else -10000) g) (.exit 0) (rmd_T2 s i g n (if (if 10000 < i + n then 10000 else i + n) > -10000 then (if 10000 < i + n then 10000 else i + n) else -10000) R) (rmd_H2 s i g n (if (if 10000 < i + n then 10000 else i + n) > -10000 then (if 10000 < i + n then 10000 else i + n) else -10000) R)) (x : Int) : ∀ (k : Nat) (p : Int), -12 ≤ p → p ≤ 48 → 49 - p ≤ k → ∃ m, Rounds cfx 0 2 none (loopOf cfx.P 46 1) m (rmu_T s i g n R x p) (rmu_H s i g n R x p) (.exit 2) (rmu_T2 s i g n R x (M.upN k x p)) (rmu_H2 s i g n R x (M.upN k x p)) := by
  intro k
  induction k with
  | zero => intro p hp1 hp2 hk; omega
  | succ k ih =>
    intro p hp1 hp2 hk
    by_cases c1 : p < 48
    · by_cases c2 : x ≤ M.trig (p + 1)
      · have e : M.worG x p = p + 1 := by unfold M.worG; rw [if_pos ⟨c1, c2⟩]
        have e2 : M.upN (k + 1) x p = M.upN k x (p + 1) := by simp only [M.upN, e]; rw [if_neg (by omega)]
        rw [e2]
        obtain ⟨m, hm⟩ := ih (p + 1) (by omega) (by omega) (by omega)
        exact ⟨m + 1, rounds_more noRnd (rmu_1 s i g h1 h2 n hi hn R hr1 hr2 hR x p hp1 hp2 c1 c2) hm⟩
      · have e : M.worG x p = p := by unfold M.worG; rw [if_neg (fun h => c2 h.2)]
        have e2 : M.upN (k + 1) x p = p := by simp only [M.upN, e, if_true]
        rw [e2]
        exact ⟨1, rounds_done (rmu_2 s i g h1 h2 n hi hn R hr1 hr2 hR x p hp1 hp2 c1 c2) (by simp)⟩
    · have e : M.worG x p = p := by unfold M.worG; rw [if_neg (fun h => c1 h.1)]
      have e2 : M.upN (k + 1) x p = p := by simp only [M.upN, e, if_true]
      rw [e2]
      exact ⟨1, rounds_done (rmu_3 s i g h1 h2 n hi hn R hr1 hr2 hR x p hp1 hp2 c1) (by simp)⟩
end Go.Proofs.YtkkgmodladgonaaGreatDoor
end
section
set_option maxRecDepth 100000
namespace Go.Proofs.YtkkgmodladgonaaGreatDoor
open Go Go.RowKit Go.Proofs.YtkkgmodladgonaaGreatDoor.E2
theorem rdMoved_ev (s : ByteArray) (i g : Int) (h1 : -12 ≤ g) (h2 : g ≤ 48) (n : Int) (hi : -10000 ≤ i ∧ i ≤ 10000) (hn : -20 ≤ n ∧ n ≤ 20) (R U : Int) (hR : Runs cfx 0 2 none (.loop (loopOf cfx.P 46 0)) (rmd_T s i g n (if (if 10000 < i + n then 10000 else i + n) > -10000 then (if 10000 < i + n then 10000 else i + n) else -10000) g) (rmd_H s i g n (if (if 10000 < i + n then 10000 else i + n) > -10000 then (if 10000 < i + n then 10000 else i + n) else -10000) g) (.exit 0) (rmd_T2 s i g n (if (if 10000 < i + n then 10000 else i + n) > -10000 then (if 10000 < i + n then 10000 else i + n) else -10000) R) (rmd_H2 s i g n (if (if 10000 < i + n then 10000 else i + n) > -10000 then (if 10000 < i + n then 10000 else i + n) else -10000) R)) (hU : Runs cfx 0 2 none (.loop (loopOf cfx.P 46 1)) (rmu_T s i g n R (if (if 10000 < i + n then 10000 else i + n) > -10000 then (if 10000 < i + n then 10000 else i + n) else -10000) R) (rmu_H s i g n R (if (if 10000 < i + n then 10000 else i + n) > -10000 then (if 10000 < i + n then 10000 else i + n) else -10000) R) (.exit 2) (rmu_T2 s i g n R (if (if 10000 < i + n then 10000 else i + n) > -10000 then (if 10000 < i + n then 10000 else i + n) else -10000) U) (rmu_H2 s i g n R (if (if 10000 < i + n then 10000 else i + n) > -10000 then (if 10000 < i + n then 10000 else i + n) else -10000) U))  : Ret cfx 46 [.raw (.agg #[.string s, .int .i64 i, .int .i64 g]), .raw (.int .i64 n)] (V.raw (.agg { toList := [Value.string s, .int .i64 (if (if (10000 : Int) < i + n then (10000 : Int) else i + n) > (-10000 : Int) then if (10000 : Int) < i + n then (10000 : Int) else i + n else (-10000 : Int)), .int .i64 U] })) := by
  exact fn_of cfx_mixed cfx_call cfx_base.1 cfx_base.2.1 cfx_base.2.2 (n := 40) (ans := [Ans.go, Ans.loop (Ex.exit (0 : Nat)) [V.raw (.agg { toList := [Value.string s, .int .i64 i, .int .i64 g] }), iV n, .ptr 0 0, uV, .ptr 1 0, .ptr 0 1, iV i, iV n, iV (i + n), iV (if (10000 : Int) < i + n then (10000 : Int) else i + n), iV (if (if (10000 : Int) < i + n then (10000 : Int) else i + n) > (-10000 : Int) then if (10000 : Int) < i + n then (10000 : Int) else i + n else (-10000 : Int)), .ptr 0 1, .any 12, .any 13, .any 14, .any 15, .any 16, .any 17, .any 18, .any 19, .any 20, .any 21, .any 22, .any 23, .any 24, .any 25, .any 26, .any 27, uV, uV, uV, uV, uV, uV, uV, uV, uV, uV, uV, uV, uV, uV, uV, uV, uV] [some (.cells [V.raw (Value.string s), iV (if (if (10000 : Int) < i + n then (10000 : Int) else i + n) > (-10000 : Int) then if (10000 : Int) < i + n then (10000 : Int) else i + n else (-10000 : Int)), iV R] 23 .rw), some (.cells [V.raw (Value.string { data := #[] }), iV (0 : Int), iV (0 : Int)] 23 .rw)], Ans.loop (Ex.exit (2 : Nat)) [V.raw (.agg { toList := [Value.string s, .int .i64 i, .int .i64 g] }), iV n, .ptr 0 0, uV, .ptr 1 0, .ptr 0 1, iV i, iV n, iV (i + n), iV (if (10000 : Int) < i + n then (10000 : Int) else i + n), iV (if (if (10000 : Int) < i + n then (10000 : Int) else i + n) > (-10000 : Int) then if (10000 : Int) < i + n then (10000 : Int) else i + n else (-10000 : Int)), .ptr 0 1, .any 12, .any 13, .any 14, .any 15, .any 16, .any 17, .any 18, .any 19, .any 20, .any 21, .any 22, .any 23, .any 24, .any 25, .any 26, .any 27, .any 28, .any 29, .any 30, .any 31, .any 32, .any 33, .any 34, .any 35, .any 36, .any 37, .any 38, .any 39, .any 40, .any 41, .any 42, .any 43, uV] [some (.cells [V.raw (Value.string s), iV (if (if (10000 : Int) < i + n then (10000 : Int) else i + n) > (-10000 : Int) then if (10000 : Int) < i + n then (10000 : Int) else i + n else (-10000 : Int)), iV U] 23 .rw), some (.cells [V.raw (Value.string { data := #[] }), iV (0 : Int), iV (0 : Int)] 23 .rw)]]) (cons := [(inR IntKind.i64 (i + n)), (Runs cfx 0 (2 : Nat) none (.loop (loopOf cfx.P 46 0)) [V.raw (.agg { toList := [Value.string s, .int .i64 i, .int .i64 g] }), iV n, .ptr 0 0, uV, .ptr 1 0, .ptr 0 1, iV i, iV n, iV (i + n), iV (if (10000 : Int) < i + n then (10000 : Int) else i + n), iV (if (if (10000 : Int) < i + n then (10000 : Int) else i + n) > (-10000 : Int) then if (10000 : Int) < i + n then (10000 : Int) else i + n else (-10000 : Int)), .ptr 0 1, uV, uV, uV, uV, uV, uV, uV, uV, uV, uV, uV, uV, uV, uV, uV, uV, uV, uV, uV, uV, uV, uV, uV, uV, uV, uV, uV, uV, uV, uV, uV, uV, uV] [some (.cells [V.raw (Value.string s), iV (if (if (10000 : Int) < i + n then (10000 : Int) else i + n) > (-10000 : Int) then if (10000 : Int) < i + n then (10000 : Int) else i + n else (-10000 : Int)), iV g] 23 .rw), some (.cells [V.raw (Value.string { data := #[] }), iV (0 : Int), iV (0 : Int)] 23 .rw)] (Ex.exit (0 : Nat)) [V.raw (.agg { toList := [Value.string s, .int .i64 i, .int .i64 g] }), iV n, .ptr 0 0, uV, .ptr 1 0, .ptr 0 1, iV i, iV n, iV (i + n), iV (if (10000 : Int) < i + n then (10000 : Int) else i + n), iV (if (if (10000 : Int) < i + n then (10000 : Int) else i + n) > (-10000 : Int) then if (10000 : Int) < i + n then (10000 : Int) else i + n else (-10000 : Int)), .ptr 0 1, .any 12, .any 13, .any 14, .any 15, .any 16, .any 17, .any 18, .any 19, .any 20, .any 21, .any 22, .any 23, .any 24, .any 25, .any 26, .any 27, uV, uV, uV, uV, uV, uV, uV, uV, uV, uV, uV, uV, uV, uV, uV, uV, uV] [some (.cells [V.raw (Value.string s), iV (if (if (10000 : Int) < i + n then (10000 : Int) else i + n) > (-10000 : Int) then if (10000 : Int) < i + n then (10000 : Int) else i + n else (-10000 : Int)), iV R] 23 .rw), some (.cells [V.raw (Value.string { data := #[] }), iV (0 : Int), iV (0 : Int)] 23 .rw)]), (Runs cfx 0 (2 : Nat) none (.loop (loopOf cfx.P 46 1)) [V.raw (.agg { toList := [Value.string s, .int .i64 i, .int .i64 g] }), iV n, .ptr 0 0, uV, .ptr 1 0, .ptr 0 1, iV i, iV n, iV (i + n), iV (if (10000 : Int) < i + n then (10000 : Int) else i + n), iV (if (if (10000 : Int) < i + n then (10000 : Int) else i + n) > (-10000 : Int) then if (10000 : Int) < i + n then (10000 : Int) else i + n else (-10000 : Int)), .ptr 0 1, .any 12, .any 13, .any 14, .any 15, .any 16, .any 17, .any 18, .any 19, .any 20, .any 21, .any 22, .any 23, .any 24, .any 25, .any 26, .any 27, uV, uV, uV, uV, uV, uV, uV, uV, uV, uV, uV, uV, uV, uV, uV, uV, uV] [some (.cells [V.raw (Value.string s), iV (if (if (10000 : Int) < i + n then (10000 : Int) else i + n) > (-10000 : Int) then if (10000 : Int) < i + n then (10000 : Int) else i + n else (-10000 : Int)), iV R] 23 .rw), some (.cells [V.raw (Value.string { data := #[] }), iV (0 : Int), iV (0 : Int)] 23 .rw)] (Ex.exit (2 : Nat)) [V.raw (.agg { toList := [Value.string s, .int .i64 i, .int .i64 g] }), iV n, .ptr 0 0, uV, .ptr 1 0, .ptr 0 1, iV i, iV n, iV (i + n), iV (if (10000 : Int) < i + n then (10000 : Int) else i + n), iV (if (if (10000 : Int) < i + n then (10000 : Int) else i + n) > (-10000 : Int) then if (10000 : Int) < i + n then (10000 : Int) else i + n else (-10000 : Int)), .ptr 0 1, .any 12, .any 13, .any 14, .any 15, .any 16, .any 17, .any 18, .any 19, .any 20, .any 21, .any 22, .any 23, .any 24, .any 25, .any 26, .any 27, .any 28, .any 29, .any 30, .any 31, .any 32, .any 33, .any 34, .any 35, .any 36, .any 37, .any 38, .any 39, .any 40, .any 41, .any 42, .any 43, uV] [some (.cells [V.raw (Value.string s), iV (if (if (10000 : Int) < i + n then (10000 : Int) else i + n) > (-10000 : Int) then if (10000 : Int) < i + n then (10000 : Int) else i + n else (-10000 : Int)), iV U] 23 .rw), some (.cells [V.raw (Value.string { data := #[] }), iV (0 : Int), iV (0 : Int)] 23 .rw)])]) (by kernel_rfl) rfl rfl
    ⟨inR_i64 (by omega) (by omega), (by
      refine Runs.pre (fun b e => by cases e) (fun RT RH => ?_) (hR)
      exact reshape2 (lim := 0) 2 (t := [V.raw (.agg { toList := [Value.string s, .int .i64 i, .int .i64 g] }), iV n, .ptr 0 0, uV, .ptr 1 0, .ptr 0 1, iV i, iV n, iV (i + n), iV (if (10000 : Int) < i + n then (10000 : Int) else i + n), iV (if (if (10000 : Int) < i + n then (10000 : Int) else i + n) > (-10000 : Int) then if (10000 : Int) < i + n then (10000 : Int) else i + n else (-10000 : Int)), .ptr 0 1, uV, uV, uV, uV, uV, uV, uV, uV, uV, uV, uV, uV, uV, uV, uV, uV, uV, uV, uV, uV, uV, uV, uV, uV, uV, uV, uV, uV, uV, uV, uV, uV, uV]) (h := [some (.cells [V.raw (Value.string s), iV (if (if (10000 : Int) < i + n then (10000 : Int) else i + n) > (-10000 : Int) then if (10000 : Int) < i + n then (10000 : Int) else i + n else (-10000 : Int)), iV g] 23 .rw), some (.cells [V.raw (Value.string { data := #[] }), iV (0 : Int), iV (0 : Int)] 23 .rw)]) cfx_G rfl [] (by kernel_rfl) (by kernel_rfl) (by repeat first | exact ents_nil | refine ents_none ?_ | refine ents_raw (ints_all _) rfl rfl ?_ | refine ents_raw (bools_all _) rfl rfl ?_ | refine ents_raw (mix_all _ _) rfl rfl ?_ | refine ents_say rfl rfl rfl rfl ?_ | refine ents_nilC rfl rfl ?_) RT RH), (by
      refine Runs.pre (fun b e => by cases e) (fun RT RH => ?_) (hU)
      exact reshape2 (lim := 0) 2 (t := [V.raw (.agg { toList := [Value.string s, .int .i64 i, .int .i64 g] }), iV n, .ptr 0 0, uV, .ptr 1 0, .ptr 0 1, iV i, iV n, iV (i + n), iV (if (10000 : Int) < i + n then (10000 : Int) else i + n), iV (if (if (10000 : Int) < i + n then (10000 : Int) else i + n) > (-10000 : Int) then if (10000 : Int) < i + n then (10000 : Int) else i + n else (-10000 : Int)), .ptr 0 1, .any 12, .any 13, .any 14, .any 15, .any 16, .any 17, .any 18, .any 19, .any 20, .any 21, .any 22, .any 23, .any 24, .any 25, .any 26, .any 27, uV, uV, uV, uV, uV, uV, uV, uV, uV, uV, uV, uV, uV, uV, uV, uV, uV]) (h := [some (.cells [V.raw (Value.string s), iV (if (if (10000 : Int) < i + n then (10000 : Int) else i + n) > (-10000 : Int) then if (10000 : Int) < i + n then (10000 : Int) else i + n else (-10000 : Int)), iV R] 23 .rw), some (.cells [V.raw (Value.string { data := #[] }), iV (0 : Int), iV (0 : Int)] 23 .rw)]) cfx_G rfl [] (by kernel_rfl) (by kernel_rfl) (by repeat first | exact ents_nil | refine ents_none ?_ | refine ents_raw (ints_all _) rfl rfl ?_ | refine ents_raw (bools_all _) rfl rfl ?_ | refine ents_raw (mix_all _ _) rfl rfl ?_ | refine ents_say rfl rfl rfl rfl ?_ | refine ents_nilC rfl rfl ?_) RT RH), trivial⟩
theorem rdMoved (s : ByteArray) (i g n : Int) (h1 : -12 ≤ g) (h2 : g ≤ 48) (hi : -10000 ≤ i ∧ i ≤ 10000) (hn : -20 ≤ n ∧ n ≤ 20) : Ret cfx 46 [.raw (.agg #[.string s, .int .i64 i, .int .i64 g]), .raw (.int .i64 n)] (.raw (.agg #[.string s, .int .i64 (M.clampI (i + n)), .int .i64 (M.newG (M.clampI (i + n)) g)])) := by
  have e : (if (if 10000 < i + n then 10000 else i + n) > -10000 then (if 10000 < i + n then 10000 else i + n) else -10000) = M.clampI (i + n) := by unfold M.clampI; split <;> split <;> split <;> omega
  obtain ⟨m, hm⟩ := rmd_rounds s i g h1 h2 n hi hn (if (if 10000 < i + n then 10000 else i + n) > -10000 then (if 10000 < i + n then 10000 else i + n) else -10000) 61 g h1 h2 (by omega)
  have hR := runs_loop hm
  have r := M.downN_rng (i := (if (if 10000 < i + n then 10000 else i + n) > -10000 then (if 10000 < i + n then 10000 else i + n) else -10000)) (n := 61) h1 h2
  obtain ⟨m2, hm2⟩ := rmu_rounds s i g h1 h2 n hi hn _ r.1 r.2 hR (if (if 10000 < i + n then 10000 else i + n) > -10000 then (if 10000 < i + n then 10000 else i + n) else -10000) 61 _ r.1 r.2 (by omega)
  have hU := runs_loop hm2
  have := rdMoved_ev s i g h1 h2 n hi hn _ _ hR hU
  rw [e] at this
  exact this
end Go.Proofs.YtkkgmodladgonaaGreatDoor
end
section
set_option maxRecDepth 100000
namespace Go.Proofs.YtkkgmodladgonaaGreatDoor
open Go Go.RowKit Go.Proofs.YtkkgmodladgonaaGreatDoor.E2
def codesL : List Value := [.int .i64 12, .int .i64 0, .int .i64 0, .bool true, .bool true, .bool false, .int .i64 12, .int .i64 7, .int .i64 10, .bool true, .bool false, .bool false, .int .i64 6, .int .i64 0, .int .i64 0, .bool true, .bool true, .bool false, .int .i64 12, .int .i64 0, .int .i64 0, .bool false, .bool false, .bool true]
noncomputable def cfxe : Cfg := cfxl [0, 1]
theorem cfxe_mixed : cfxe.P.follows .mixedOrders = true := cfxl_mixed
theorem cfxe_call : ∀ f, cfxe.fns f = true → Callable cfxe.P f := cfxl_call
theorem up_e {f : FuncId} {args : List V} {v : V} (hr : Ret cfx f args v) : Ret cfxe f args v := up_retl hr
theorem reshape2e {lim : Nat} (n0 : Nat) (h0 : 1 < n0) (ks : List (Option Nat)) {t T : List V} {h H : Heap} (hq : (Nat.ble n0 h.length && Nat.beq H.length (n0 + ks.length) && Nat.ble lim n0 && Nat.beq T.length t.length && (anyOwn 0 T && T.all (·.slotOk H.length) && nilOks (nlOf n0 ks) T) && keysOk lim n0 h.length H ks) = true)
    (hT : mvs (tauOf n0 ks) (nlOf n0 ks) T = hideBy T t) (hE : Paid (entries (tauOf n0 ks) (nlOf n0 ks) h H.length 0 H))
    {ρ : Ren} {a : Act} {w : World} (RT : RelT ρ h.length t a) (RH : RelH cfxe ρ h w) : ∃ ρ', RelT ρ' H.length T a ∧ RelH cfxe ρ' H w ∧ Fr lim n0 ρ h w ρ' H w := by
  obtain ⟨ρ', a1, a2, a3⟩ := reshape2 (c := cfx) (lim := lim) n0 cfx_G rfl ks hq hT hE RT (relH_upl RH)
  exact ⟨ρ', a1, relH_dnl RH a2 a3 h0, a3⟩
theorem ret_sub {gs gs0 : List Nat} (hsub : ∀ p ∈ varsG gs0, p ∈ varsG gs) {f : FuncId} {args : List V} {v : Value} {H : Heap} (hm : Meets (cfxl gs0) 0 f args H (.raw v) H) (hro : ∀ (i : Nat) (B : Blk), H[i]? = some (some B) → ∃ cs T, B = .cells cs T .ro ∧ cs.all isRawV = true)
    (hgl : gs0.length ≤ H.length) (ha : args.all isRawV = true) {h : Heap} {lim : Nat} (h0 : ∀ (i : Nat) (B : Blk), H[i]? = some (some B) → h[i]? = some (some B)) (hl : lim ≤ h.length) : Meets (cfxl gs) lim f args h (.raw v) h := by
  intro ρ w RH hu
  have R0 : RelH (cfxl gs0) ρ H w := by
    refine ⟨fun i B hB => RH.cell i B (h0 i B hB), fun i j hi hj he => ?_, fun i B hB => ?_, fun p hp => ?_, Nat.zero_le _, fun i hi => absurd hi (Nat.not_lt_zero _)⟩
    · obtain ⟨B, a1, a2, a3⟩ := hi
      obtain ⟨cs, T, rfl, _⟩ := hro i B a1
      cases a2
    · obtain ⟨cs, T, rfl, h1⟩ := hro i B hB
      exact unders_raws _ _ h1
    · obtain ⟨a1, a2, a3⟩ := RH.glob p (hsub p hp)
      exact ⟨a1, a2, Nat.lt_of_lt_of_le (varsG_lt hp) hgl⟩
  refine Calls.mono (hm ρ w R0 (unders_raws _ _ ha)) fun e w' ⟨ρ1, k1, k2, RH1, F1, k5⟩ => ?_
  have hb : Below w.heap.size w w' := ⟨F1.os, F1.tape, F1.output, F1.size, fun k hk => F1.blk k hk fun i _ h2 => by
    obtain ⟨B, a1, a2, a3⟩ := h2
    obtain ⟨cs, T, rfl, _⟩ := hro i B a1
    cases a2⟩
  exact ⟨ρ, rfl, by rw [k2]; rfl, below_rel RH hb.block, below_fr hl hb, rfl⟩
theorem ro_1 {A : List V} {T : TypeId} (hA : A.all isRawV = true) : ∀ (i : Nat) (B : Blk), ([some (.cells A T .ro)] : Heap)[i]? = some (some B) → ∃ cs T, B = .cells cs T .ro ∧ cs.all isRawV = true := fun i B h => by
  match i with
  | 0 => simp only [List.getElem?_cons_zero, Option.some.injEq] at h; exact ⟨A, T, h.symm, hA⟩
  | i + 1 => simp at h
theorem ro_2 {A C : List V} {T U : TypeId} (hA : A.all isRawV = true) (hC : C.all isRawV = true) : ∀ (i : Nat) (B : Blk), ([some (.cells A T .ro), some (.cells C U .ro)] : Heap)[i]? = some (some B) → ∃ cs T, B = .cells cs T .ro ∧ cs.all isRawV = true := fun i B h => by
  match i with
  | 0 => simp only [List.getElem?_cons_zero, Option.some.injEq] at h; exact ⟨A, T, h.symm, hA⟩
  | 1 => simp only [List.getElem?_cons_succ, List.getElem?_cons_zero, Option.some.injEq] at h; exact ⟨C, U, h.symm, hC⟩
  | i + 2 => simp at h
theorem ret_de {f : FuncId} {args : List V} {v : Value} {A : List V} {T : TypeId} (hm : Meets cfxd 0 f args [some (.cells A T .ro)] (.raw v) [some (.cells A T .ro)]) (hA : A.all isRawV = true) (ha : args.all isRawV = true) {h : Heap} {lim : Nat} (h0 : h[0]? = some (some (.cells A T .ro))) (hl : lim ≤ h.length) : Meets cfxe lim f args h (.raw v) h :=
  ret_sub (gs := [0, 1]) (gs0 := [0]) (fun p hp => by simp [varsG] at hp ⊢; exact .inl hp) hm (ro_1 hA) (Nat.le_refl _) ha (fun i B hB => by
    match i with
    | 0 => simp only [List.getElem?_cons_zero, Option.some.injEq] at hB; subst hB; exact h0
    | i + 1 => simp at hB) hl
theorem ret_ee {f : FuncId} {args : List V} {v : Value} {A C : List V} {T U : TypeId} (hm : Meets cfxe 0 f args [some (.cells A T .ro), some (.cells C U .ro)] (.raw v) [some (.cells A T .ro), some (.cells C U .ro)]) (hA : A.all isRawV = true) (hC : C.all isRawV = true) (ha : args.all isRawV = true) {h : Heap} {lim : Nat} (h0 : h[0]? = some (some (.cells A T .ro))) (h1 : h[1]? = some (some (.cells C U .ro))) (hl : lim ≤ h.length) : Meets cfxe lim f args h (.raw v) h :=
  ret_sub (gs := [0, 1]) (gs0 := [0, 1]) (fun p hp => hp) hm (ro_2 hA hC) (Nat.le_refl _) ha (fun i B hB => by
    match i with
    | 0 => simp only [List.getElem?_cons_zero, Option.some.injEq] at hB; subst hB; exact h0
    | 1 => simp only [List.getElem?_cons_succ, List.getElem?_cons_zero, Option.some.injEq] at hB; subst hB; exact h1
    | i + 2 => simp at hB) hl
end Go.Proofs.YtkkgmodladgonaaGreatDoor
end
section
set_option maxRecDepth 100000
namespace Go.Proofs.YtkkgmodladgonaaGreatDoor
open Go Go.RowKit Go.Proofs.YtkkgmodladgonaaGreatDoor.E2
theorem rdGainV (a b : Int) (lv : Bool) (ha : -10000 ≤ a ∧ a ≤ 10000) (hb : -10000 ≤ b ∧ b ≤ 10000) : Ret cfx 21 [.raw (.int .i64 a), .raw (.int .i64 b), .raw (.bool lv)] (.raw (.int .i64 (M.gainV a b lv))) := by
  have q := M.gq_rng ha hb
  have k := M.gz_rng _ (M.gk_lt q.1)
  unfold M.gainV
  cases lv with
  | false => exact rdGain_no a b ha hb
  | true =>
    by_cases h : a < b
    · have e1 : M.gq a b = (-(a - b)).tdiv 100 := by unfold M.gq; rw [if_pos (by omega)]; congr 1; omega
      have e2 : M.gk a b = (if 19 < (-(a - b)).tdiv 100 then 19 else (-(a - b)).tdiv 100).toNat * 1 := by unfold M.gk; rw [e1]; omega
      rw [e1] at q
      rw [e2] at k
      rw [if_pos rfl, if_pos h, e2]
      exact rdGain_lt a b ha hb (by omega) q k rfl
    · have e1 : M.gq a b = (a - b).tdiv 100 := by unfold M.gq; rw [if_neg (by omega)]
      have e2 : M.gk a b = (if 19 < (a - b).tdiv 100 then 19 else (a - b).tdiv 100).toNat * 1 := by unfold M.gk; rw [e1]; omega
      rw [e1] at q
      rw [if_pos rfl, if_neg h, e2]
      exact rdGain_ge a b ha hb (by omega) q rfl
def M.half (x : Int) : Int := if 40 < (if 0 > x then 0 else x) then 40 else (if 0 > x then 0 else x)
theorem M.half2 (x : Int) : (if (if x > 0 then x else 0) < 40 then (if x > 0 then x else 0) else 40) = M.half x := by unfold M.half; split <;> split <;> (try split) <;> (try split) <;> omega
theorem M.half_rng (x : Int) : 0 ≤ M.half x ∧ M.half x ≤ 40 := by unfold M.half; split <;> split <;> omega
end Go.Proofs.YtkkgmodladgonaaGreatDoor
end
section
set_option maxRecDepth 100000
namespace Go.Proofs.YtkkgmodladgonaaGreatDoor
open Go Go.RowKit Go.Proofs.YtkkgmodladgonaaGreatDoor.E2
theorem rdCount (a b : ByteArray) (ia ga ib gb : Int) (lv : Bool) (hia : -10000 ≤ ia ∧ ia ≤ 10000) (hib : -10000 ≤ ib ∧ ib ≤ 10000) (hga : -12 ≤ ga ∧ ga ≤ 48) (hgb : -12 ≤ gb ∧ gb ≤ 48) (hn : 1 ≤ M.gainV ia ib lv ∧ M.gainV ia ib lv ≤ 19)  : Ret cfx 28 [.raw (.agg #[.string a, .int .i64 ia, .int .i64 ga]), .raw (.agg #[.string b, .int .i64 ib, .int .i64 gb]), .raw (.bool lv)] (V.raw (.tuple { toList := [.agg { toList := [Value.string a, .int .i64 (M.clampI (ia + M.gainV ia ib lv)), .int .i64 (M.newG (M.clampI (ia + M.gainV ia ib lv)) ga)] }, .agg { toList := [Value.string b, .int .i64 (M.clampI (ib + -M.gainV ia ib lv)), .int .i64 (M.newG (M.clampI (ib + -M.gainV ia ib lv)) gb)] }] })) := by
  exact fn_of cfx_mixed cfx_call cfx_base.1 cfx_base.2.1 cfx_base.2.2 (n := 40) (ans := [Ans.go, Ans.ret (iV (M.gainV ia ib lv)), Ans.olds [((8 : Nat), (6 : Nat)), ((7 : Nat), (4 : Nat))], Ans.ret (V.raw (.agg { toList := [Value.string a, .int .i64 (M.clampI (ia + M.gainV ia ib lv)), .int .i64 (M.newG (M.clampI (ia + M.gainV ia ib lv)) ga)] })), Ans.ret (V.raw (.agg { toList := [Value.string b, .int .i64 (M.clampI (ib + -M.gainV ia ib lv)), .int .i64 (M.newG (M.clampI (ib + -M.gainV ia ib lv)) gb)] }))]) (cons := [(Ret cfx (21 : Nat) [iV ia, iV ib, V.raw (.bool lv)] (iV (M.gainV ia ib lv))), (Ret cfx (46 : Nat) [V.raw (.agg { toList := [Value.string a, .int .i64 ia, .int .i64 ga] }), iV (M.gainV ia ib lv)] (V.raw (.agg { toList := [Value.string a, .int .i64 (M.clampI (ia + M.gainV ia ib lv)), .int .i64 (M.newG (M.clampI (ia + M.gainV ia ib lv)) ga)] }))), (inR IntKind.i64 (-M.gainV ia ib lv)), (Ret cfx (46 : Nat) [V.raw (.agg { toList := [Value.string b, .int .i64 ib, .int .i64 gb] }), iV (-M.gainV ia ib lv)] (V.raw (.agg { toList := [Value.string b, .int .i64 (M.clampI (ib + -M.gainV ia ib lv)), .int .i64 (M.newG (M.clampI (ib + -M.gainV ia ib lv)) gb)] })))]) (by kernel_rfl) rfl rfl
    ⟨(rdGainV _ _ _ (by omega) (by omega)), (rdMoved _ _ _ _ (by omega) (by omega) (by omega) (by omega)), inR_i64 (by omega) (by omega), (rdMoved _ _ _ _ (by omega) (by omega) (by omega) (by omega)), trivial⟩
theorem rdGainX (x y : Int) (lv : Bool) (hx : -10000 ≤ x ∧ x ≤ 10000) (hy : -10000 ≤ y ∧ y ≤ 10000)  : Ret cfx 6 [.raw (.int .i64 x), .raw (.int .i64 y), .raw (.bool lv)] (V.raw (.tuple { toList := [.int .i64 (M.gainV x y lv), .int .i64 (0 : Int)] })) := by
  exact fn_of cfx_mixed cfx_call cfx_base.1 cfx_base.2.1 cfx_base.2.2 (n := 40) (ans := [Ans.go, Ans.ret (V.raw (.bool (decide ((-10000 : Int) ≤ x ∧ x ≤ (10000 : Int))))), Ans.br false, Ans.ret (V.raw (.bool (decide ((-10000 : Int) ≤ y ∧ y ≤ (10000 : Int))))), Ans.br false, Ans.br false, Ans.ret (iV (M.gainV x y lv))]) (cons := [(Ret cfx (20 : Nat) [iV x, iV (-10000 : Int), iV (10000 : Int)] (V.raw (.bool (decide ((-10000 : Int) ≤ x ∧ x ≤ (10000 : Int)))))), ((!decide ((-10000 : Int) ≤ x ∧ x ≤ (10000 : Int))) = false), (Ret cfx (20 : Nat) [iV y, iV (-10000 : Int), iV (10000 : Int)] (V.raw (.bool (decide ((-10000 : Int) ≤ y ∧ y ≤ (10000 : Int)))))), (false = false), ((!decide ((-10000 : Int) ≤ y ∧ y ≤ (10000 : Int))) = false), (Ret cfx (21 : Nat) [iV x, iV y, V.raw (.bool lv)] (iV (M.gainV x y lv)))]) (by kernel_rfl) rfl rfl
    ⟨(rdWithin _ _ _), (by first | assumption | (simp only [decide_eq_true_eq, decide_eq_false_iff_not, Bool.not_eq_true', Bool.not_eq_false']; first | assumption | omega) | (simp only [decide_eq_true_eq, decide_eq_false_iff_not, Bool.not_eq_true', Bool.not_eq_false']; done) | omega | (simp_all; done) | (simp_all; omega)), (rdWithin _ _ _), rfl, (by first | assumption | (simp only [decide_eq_true_eq, decide_eq_false_iff_not, Bool.not_eq_true', Bool.not_eq_false']; first | assumption | omega) | (simp only [decide_eq_true_eq, decide_eq_false_iff_not, Bool.not_eq_true', Bool.not_eq_false']; done) | omega | (simp_all; done) | (simp_all; omega)), (rdGainV _ _ _ (by omega) (by omega)), trivial⟩
theorem rdGainX1 (x y : Int) (lv : Bool) (hx : ¬ (-10000 ≤ x ∧ x ≤ 10000))  : Ret cfx 6 [.raw (.int .i64 x), .raw (.int .i64 y), .raw (.bool lv)] (V.raw (.tuple { toList := [.int .i64 (0 : Int), .int .i64 (3 : Int)] })) := by
  exact fn_of cfx_mixed cfx_call cfx_base.1 cfx_base.2.1 cfx_base.2.2 (n := 40) (ans := [Ans.go, Ans.ret (V.raw (.bool (decide ((-10000 : Int) ≤ x ∧ x ≤ (10000 : Int))))), Ans.br true, Ans.br true, Ans.br true]) (cons := [(Ret cfx (20 : Nat) [iV x, iV (-10000 : Int), iV (10000 : Int)] (V.raw (.bool (decide ((-10000 : Int) ≤ x ∧ x ≤ (10000 : Int)))))), ((!decide ((-10000 : Int) ≤ x ∧ x ≤ (10000 : Int))) = true), (true = true), (true = true)]) (by kernel_rfl) rfl rfl
    ⟨(rdWithin _ _ _), (by first | assumption | (simp only [decide_eq_true_eq, decide_eq_false_iff_not, Bool.not_eq_true', Bool.not_eq_false']; first | assumption | omega) | (simp only [decide_eq_true_eq, decide_eq_false_iff_not, Bool.not_eq_true', Bool.not_eq_false']; done) | omega | (simp_all; done) | (simp_all; omega)), rfl, rfl, trivial⟩
theorem rdGainX2 (x y : Int) (lv : Bool) (hx : -10000 ≤ x ∧ x ≤ 10000) (hy : ¬ (-10000 ≤ y ∧ y ≤ 10000))  : Ret cfx 6 [.raw (.int .i64 x), .raw (.int .i64 y), .raw (.bool lv)] (V.raw (.tuple { toList := [.int .i64 (0 : Int), .int .i64 (3 : Int)] })) := by
  exact fn_of cfx_mixed cfx_call cfx_base.1 cfx_base.2.1 cfx_base.2.2 (n := 40) (ans := [Ans.go, Ans.ret (V.raw (.bool (decide ((-10000 : Int) ≤ x ∧ x ≤ (10000 : Int))))), Ans.br false, Ans.ret (V.raw (.bool (decide ((-10000 : Int) ≤ y ∧ y ≤ (10000 : Int))))), Ans.br false, Ans.br true]) (cons := [(Ret cfx (20 : Nat) [iV x, iV (-10000 : Int), iV (10000 : Int)] (V.raw (.bool (decide ((-10000 : Int) ≤ x ∧ x ≤ (10000 : Int)))))), ((!decide ((-10000 : Int) ≤ x ∧ x ≤ (10000 : Int))) = false), (Ret cfx (20 : Nat) [iV y, iV (-10000 : Int), iV (10000 : Int)] (V.raw (.bool (decide ((-10000 : Int) ≤ y ∧ y ≤ (10000 : Int)))))), (false = false), ((!decide ((-10000 : Int) ≤ y ∧ y ≤ (10000 : Int))) = true)]) (by kernel_rfl) rfl rfl
    ⟨(rdWithin _ _ _), (by first | assumption | (simp only [decide_eq_true_eq, decide_eq_false_iff_not, Bool.not_eq_true', Bool.not_eq_false']; first | assumption | omega) | (simp only [decide_eq_true_eq, decide_eq_false_iff_not, Bool.not_eq_true', Bool.not_eq_false']; done) | omega | (simp_all; done) | (simp_all; omega)), (rdWithin _ _ _), rfl, (by first | assumption | (simp only [decide_eq_true_eq, decide_eq_false_iff_not, Bool.not_eq_true', Bool.not_eq_false']; first | assumption | omega) | (simp only [decide_eq_true_eq, decide_eq_false_iff_not, Bool.not_eq_true', Bool.not_eq_false']; done) | omega | (simp_all; done) | (simp_all; omega)), trivial⟩
theorem tdGainX1 (x y : Int) (lv : Bool) (hx : ¬ (-10000 ≤ x ∧ x ≤ 10000))  : Ret cfx 5 [.raw (.int .i64 x), .raw (.int .i64 y), .raw (.bool lv)] (V.raw (.tuple { toList := [.int .i64 (0 : Int), .int .i64 (3 : Int)] })) := by
  exact fn_of cfx_mixed cfx_call cfx_base.1 cfx_base.2.1 cfx_base.2.2 (n := 40) (ans := [Ans.go, Ans.ret (V.raw (.bool (decide ((-10000 : Int) ≤ x ∧ x ≤ (10000 : Int))))), Ans.br true, Ans.br true, Ans.br true]) (cons := [(Ret cfx (18 : Nat) [iV x] (V.raw (.bool (decide ((-10000 : Int) ≤ x ∧ x ≤ (10000 : Int)))))), ((!decide ((-10000 : Int) ≤ x ∧ x ≤ (10000 : Int))) = true), (true = true), (true = true)]) (by kernel_rfl) rfl rfl
    ⟨(tdIsIndex _), (by first | assumption | (simp only [decide_eq_true_eq, decide_eq_false_iff_not, Bool.not_eq_true', Bool.not_eq_false']; first | assumption | omega) | (simp only [decide_eq_true_eq, decide_eq_false_iff_not, Bool.not_eq_true', Bool.not_eq_false']; done) | omega | (simp_all; done) | (simp_all; omega)), rfl, rfl, trivial⟩
theorem tdGainX2 (x y : Int) (lv : Bool) (hx : -10000 ≤ x ∧ x ≤ 10000) (hy : ¬ (-10000 ≤ y ∧ y ≤ 10000))  : Ret cfx 5 [.raw (.int .i64 x), .raw (.int .i64 y), .raw (.bool lv)] (V.raw (.tuple { toList := [.int .i64 (0 : Int), .int .i64 (3 : Int)] })) := by
  exact fn_of cfx_mixed cfx_call cfx_base.1 cfx_base.2.1 cfx_base.2.2 (n := 40) (ans := [Ans.go, Ans.ret (V.raw (.bool (decide ((-10000 : Int) ≤ x ∧ x ≤ (10000 : Int))))), Ans.br false, Ans.ret (V.raw (.bool (decide ((-10000 : Int) ≤ y ∧ y ≤ (10000 : Int))))), Ans.br false, Ans.br true]) (cons := [(Ret cfx (18 : Nat) [iV x] (V.raw (.bool (decide ((-10000 : Int) ≤ x ∧ x ≤ (10000 : Int)))))), ((!decide ((-10000 : Int) ≤ x ∧ x ≤ (10000 : Int))) = false), (Ret cfx (18 : Nat) [iV y] (V.raw (.bool (decide ((-10000 : Int) ≤ y ∧ y ≤ (10000 : Int)))))), (false = false), ((!decide ((-10000 : Int) ≤ y ∧ y ≤ (10000 : Int))) = true)]) (by kernel_rfl) rfl rfl
    ⟨(tdIsIndex _), (by first | assumption | (simp only [decide_eq_true_eq, decide_eq_false_iff_not, Bool.not_eq_true', Bool.not_eq_false']; first | assumption | omega) | (simp only [decide_eq_true_eq, decide_eq_false_iff_not, Bool.not_eq_true', Bool.not_eq_false']; done) | omega | (simp_all; done) | (simp_all; omega)), (tdIsIndex _), rfl, (by first | assumption | (simp only [decide_eq_true_eq, decide_eq_false_iff_not, Bool.not_eq_true', Bool.not_eq_false']; first | assumption | omega) | (simp only [decide_eq_true_eq, decide_eq_false_iff_not, Bool.not_eq_true', Bool.not_eq_false']; done) | omega | (simp_all; done) | (simp_all; omega)), trivial⟩
theorem rdHalves_1 (a b : ByteArray) (ia ga ib gb : Int) (hga : -12 ≤ ga ∧ ga ≤ 48) (hgb : -12 ≤ gb ∧ gb ≤ 48)  : Ret cfx 30 [.raw (.agg #[.string a, .int .i64 ia, .int .i64 ga]), .raw (.agg #[.string b, .int .i64 ib, .int .i64 gb])] (V.raw (.agg { toList := [.int .i64 (if (if ga - gb > (0 : Int) then ga - gb else (0 : Int)) < (40 : Int) then if ga - gb > (0 : Int) then ga - gb else (0 : Int) else (40 : Int)), .int .i64 (if (if gb - ga > (0 : Int) then gb - ga else (0 : Int)) < (40 : Int) then if gb - ga > (0 : Int) then gb - ga else (0 : Int) else (40 : Int))] })) := by
  exact fn_of cfx_mixed cfx_call cfx_base.1 cfx_base.2.1 cfx_base.2.2 (n := 40) (ans := [Ans.go]) (cons := [(inR IntKind.i64 (ga - gb)), (inR IntKind.i64 (gb - ga))]) (by kernel_rfl) rfl rfl
    ⟨inR_i64 (by omega) (by omega), inR_i64 (by omega) (by omega), trivial⟩
theorem rdHalves (a b : ByteArray) (ia ga ib gb : Int) (hga : -12 ≤ ga ∧ ga ≤ 48) (hgb : -12 ≤ gb ∧ gb ≤ 48) : Ret cfx 30 [.raw (.agg #[.string a, .int .i64 ia, .int .i64 ga]), .raw (.agg #[.string b, .int .i64 ib, .int .i64 gb])] (.raw (.agg #[.int .i64 (M.half (ga - gb)), .int .i64 (M.half (gb - ga))])) := by
  have e : (.raw (.agg #[.int .i64 (M.half (ga - gb)), .int .i64 (M.half (gb - ga))]) : V) = V.raw (.agg { toList := [.int .i64 (if (if ga - gb > (0 : Int) then ga - gb else (0 : Int)) < (40 : Int) then if ga - gb > (0 : Int) then ga - gb else (0 : Int) else (40 : Int)), .int .i64 (if (if gb - ga > (0 : Int) then gb - ga else (0 : Int)) < (40 : Int) then if gb - ga > (0 : Int) then gb - ga else (0 : Int) else (40 : Int))] }) := by (rw [← M.half2 (ga - gb), ← M.half2 (gb - ga)])
  rw [e]
  exact rdHalves_1 a b ia ga ib gb hga hgb
theorem tdHalf_1 (a b : ByteArray) (ia ga ib gb : Int) (hga : -12 ≤ ga ∧ ga ≤ 48) (hgb : -12 ≤ gb ∧ gb ≤ 48)  : Ret cfx 29 [.raw (.agg #[.string a, .int .i64 ia, .int .i64 ga]), .raw (.agg #[.string b, .int .i64 ib, .int .i64 gb])] (iV (if (40 : Int) < if (0 : Int) > ga - gb then (0 : Int) else ga - gb then (40 : Int) else if (0 : Int) > ga - gb then (0 : Int) else ga - gb)) := by
  exact fn_of cfx_mixed cfx_call cfx_base.1 cfx_base.2.1 cfx_base.2.2 (n := 40) (ans := [Ans.go]) (cons := [(inR IntKind.i64 (ga - gb))]) (by kernel_rfl) rfl rfl
    ⟨inR_i64 (by omega) (by omega), trivial⟩
theorem tdHalf (a b : ByteArray) (ia ga ib gb : Int) (hga : -12 ≤ ga ∧ ga ≤ 48) (hgb : -12 ≤ gb ∧ gb ≤ 48) : Ret cfx 29 [.raw (.agg #[.string a, .int .i64 ia, .int .i64 ga]), .raw (.agg #[.string b, .int .i64 ib, .int .i64 gb])] (.raw (.int .i64 (M.half (ga - gb)))) := by
  have e : (.raw (.int .i64 (M.half (ga - gb))) : V) = (iV (if (40 : Int) < if (0 : Int) > ga - gb then (0 : Int) else ga - gb then (40 : Int) else if (0 : Int) > ga - gb then (0 : Int) else ga - gb)) := by (unfold M.half; first | rfl | (congr 2; split <;> split <;> split <;> split <;> omega))
  rw [e]
  exact tdHalf_1 a b ia ga ib gb hga hgb
end Go.Proofs.YtkkgmodladgonaaGreatDoor
end
section
namespace Go.Proofs.YtkkgmodladgonaaGreatDoor
open Go.ChangeShapes Go.WideShapes Go.ChangeAt Go.RowKit
def M.nameC (n : Nat) : Prop := (97 ≤ n ∧ n ≤ 122) ∨ (48 ≤ n ∧ n ≤ 57)
def M.nameP (s : ByteArray) : Prop := 1 ≤ s.size ∧ s.size ≤ 20 ∧ ∀ k (h : k < s.size), M.nameC s[k].toNat
theorem M.name_step {s : ByteArray} {k : Nat} (hlt : k < s.size) (h : ∀ j (h : j < s.size), j < k → M.nameC s[j].toNat) (hc : M.nameC s[k].toNat) : ∀ j (h : j < s.size), j < k + 1 → M.nameC s[j].toNat := fun j hj hk => by
  rcases Nat.lt_or_ge j k with q | q
  · exact h j hj q
  · obtain rfl : j = k := by omega
    exact hc
set_option maxHeartbeats 4000000 in
theorem rNamed_any (s : ByteArray) (b : Bool) (w : World) (hs : s.size ≤ 100) (hb : b = true ↔ M.nameP s) :
    Calls Tryz.prog 61 #[.string s] w fun e w' => e = .returned (.bool b) ∧ Below w.heap.size w w' := by
  have HB := Lib.hid hb
  by_cases h1 : 1 ≤ s.size
  · by_cases h2 : s.size ≤ 20
    · have i1 : ¬ (s.size : Int) < 1 := by omega
      have i2 : ¬ 20 < (s.size : Int) := by omega
      go_enter Tryz.func61, Tryz.ntmps61
      go_wp2
      go_loopw [3] (fun i wr => ∃ k : Nat, k ≤ s.size ∧ i = .int .i64 k ∧ Below w.heap.size w wr ∧ ∀ j (h : j < s.size), j < k → M.nameC s[j].toNat) (fun i _ => s.size - (intOf i).toNat)
      case atStart => exact ⟨0, by omega, rfl, Below.refl _ _, fun j _ h => absurd h (by omega)⟩
      case round =>
        obtain ⟨k, hk, rfl, hBr, hpre⟩ := hrel
        have HP := Lib.hid hpre
        clear hpre
        by_cases hlt : k < s.size
        · have hlt1 : (k : Int) < s.size := by omega
          have HX := Lib.hid (fun h : M.nameC s[k].toNat => M.name_step hlt HP.out h)
          have HY := Lib.hid (fun h : M.nameP s => h.2.2 k hlt)
          rcases (by omega : (97 ≤ s[k].toNat ∧ s[k].toNat ≤ 122) ∨ 122 < s[k].toNat ∨ (s[k].toNat < 97 ∧ 48 ≤ s[k].toNat ∧ s[k].toNat ≤ 57) ∨ s[k].toNat < 48 ∨ (57 < s[k].toNat ∧ s[k].toNat < 97)) with ⟨c1, c2⟩ | c1 | ⟨c1, c2, c3⟩ | c1 | ⟨c1, c2⟩
          · have d1 : (97 : Int) ≤ (s[k].toNat : Int) := by omega
            have d2 : (s[k].toNat : Int) ≤ 122 := by omega
            have HC := Lib.hid (HX.out (.inl ⟨c1, c2⟩))
            clear c1 c2
            go_wp2
            exact ⟨⟨k + 1, by omega, by go_num, hBr, HC.out⟩, by simp [intOf]; omega⟩
          · have d1 : (97 : Int) ≤ (s[k].toNat : Int) := by omega
            have d2 : ¬ (s[k].toNat : Int) ≤ 122 := by omega
            have d3 : (48 : Int) ≤ (s[k].toNat : Int) := by omega
            have d4 : ¬ (s[k].toNat : Int) ≤ 57 := by omega
            have hF := Lib.hid (show b = false by cases b with | false => rfl | true => exact absurd (HY.out (HB.out.1 rfl)) (by unfold M.nameC; omega))
            clear c1
            go_wp2
            go_returns
            exact ⟨by rw [hF.out]; rfl, hBr⟩
          · have d1 : ¬ (97 : Int) ≤ (s[k].toNat : Int) := by omega
            have d3 : (48 : Int) ≤ (s[k].toNat : Int) := by omega
            have d4 : (s[k].toNat : Int) ≤ 57 := by omega
            have HC := Lib.hid (HX.out (.inr ⟨c2, c3⟩))
            clear c1 c2 c3
            go_wp2
            exact ⟨⟨k + 1, by omega, by go_num, hBr, HC.out⟩, by simp [intOf]; omega⟩
          · have d1 : ¬ (97 : Int) ≤ (s[k].toNat : Int) := by omega
            have d3 : ¬ (48 : Int) ≤ (s[k].toNat : Int) := by omega
            have hF := Lib.hid (show b = false by cases b with | false => rfl | true => exact absurd (HY.out (HB.out.1 rfl)) (by unfold M.nameC; omega))
            clear c1
            go_wp2
            go_returns
            exact ⟨by rw [hF.out]; rfl, hBr⟩
          · have d1 : ¬ (97 : Int) ≤ (s[k].toNat : Int) := by omega
            have d3 : (48 : Int) ≤ (s[k].toNat : Int) := by omega
            have d4 : ¬ (s[k].toNat : Int) ≤ 57 := by omega
            have hF := Lib.hid (show b = false by cases b with | false => rfl | true => exact absurd (HY.out (HB.out.1 rfl)) (by unfold M.nameC; omega))
            clear c1 c2
            go_wp2
            go_returns
            exact ⟨by rw [hF.out]; rfl, hBr⟩
        · have hlt1 : ¬ (k : Int) < s.size := by omega
          have hT := Lib.hid (show b = true from HB.out.2 ⟨h1, h2, fun j hj => HP.out j hj (by omega)⟩)
          clear hlt
          go_wp2
          go_returns
          exact ⟨by rw [hT.out]; rfl, hBr⟩
    · have i2 : 20 < (s.size : Int) := by omega
      have i1 : ¬ (s.size : Int) < 1 := by omega
      have hF := Lib.hid (show b = false by cases b with | false => rfl | true => exact absurd (hb.1 rfl).2.1 h2)
      clear h2 hb
      go_enter Tryz.func61, Tryz.ntmps61
      go_wp2
      go_returns
      exact ⟨by rw [hF.out]; rfl, by go_grown⟩
  · have i1 : (s.size : Int) < 1 := by omega
    have hF := Lib.hid (show b = false by cases b with | false => rfl | true => exact absurd (hb.1 rfl).1 h1)
    clear h1 hb
    go_enter Tryz.func61, Tryz.ntmps61
    go_wp2
    go_returns
    exact ⟨by rw [hF.out]; rfl, by go_grown⟩
end Go.Proofs.YtkkgmodladgonaaGreatDoor
end
section
set_option maxRecDepth 100000
namespace Go.Proofs.YtkkgmodladgonaaGreatDoor
open Go Go.RowKit Go.Proofs.YtkkgmodladgonaaGreatDoor.E2
theorem zb_at (s : ByteArray) {k : Nat} (h : k < s.size) : at' (zb s) k = (s[k].toNat : Int) := by
  have h2 : k < s.data.toList.length := h
  simp only [at', zb, List.getD, List.getElem?_map, List.getElem?_eq_getElem h2, Option.map_some, Option.getD]
  rfl
theorem M.nameB_iff2 (s : ByteArray) : M.nameB s = true ↔ M.nameP s := by
  unfold M.nameB M.nameP
  simp only [Bool.and_eq_true, decide_eq_true_eq, List.all_eq_true, List.mem_range, and_assoc]
  refine and_congr_right fun _ => and_congr_right fun _ => ⟨fun h k hk => ?_, fun h k hk => ?_⟩
  · have := h k hk
    rw [zb_at s hk] at this
    simp only [M.charB, Bool.or_eq_true, decide_eq_true_eq] at this
    unfold M.nameC
    omega
  · have := h k hk
    unfold M.nameC at this
    rw [zb_at s hk]
    simp only [M.charB, Bool.or_eq_true, decide_eq_true_eq]
    omega
theorem rdNamed (s : ByteArray) (hs : s.size ≤ 100) : Ret cfx 61 [.raw (.string s)] (.raw (.bool (M.nameB s))) :=
  fn_of_calls (args := [.string s]) fun w => rNamed_any s _ w hs (M.nameB_iff2 s)
theorem M.toList_beq (a b : ByteArray) : (a.toList == b.toList) = (b == a) := by
  have e : ∀ x : ByteArray, x.toList = x.data.toList := fun x => Lib.toList_data x
  cases h : (b == a) with
  | true =>
    have := M.beq_of h
    subst this
    simp
  | false =>
    rw [Bool.eq_false_iff]
    intro h2
    have h3 := eq_of_beq h2
    rw [e, e] at h3
    have h4 : a.data = b.data := Array.toList_inj.1 h3
    cases a with
    | mk x => cases b with
      | mk y =>
        have h5 : x = y := h4
        subst h5
        rw [M.self] at h
        cases h
end Go.Proofs.YtkkgmodladgonaaGreatDoor
end
section
set_option maxRecDepth 100000
namespace Go.Proofs.YtkkgmodladgonaaGreatDoor
open Go Go.RowKit Go.Proofs.YtkkgmodladgonaaGreatDoor.E2
theorem rdPlayer_1 (s : ByteArray) (i g : Int) (hs : s.size ≤ 100) (f0 : M.nameB s = true) (f1 : (-10000 : Int) ≤ i ∧ i ≤ (10000 : Int)) (f2 : (-12 : Int) ≤ g) : Ret cfx 45 [.raw (.agg #[.string s, .int .i64 i, .int .i64 g])] (V.raw (.bool (decide (g ≤ (48 : Int))))) := by
  exact fn_of cfx_mixed cfx_call cfx_base.1 cfx_base.2.1 cfx_base.2.2 (n := 40) (ans := [Ans.go, Ans.ret (V.raw (.bool (M.nameB s))), Ans.br true, Ans.ret (V.raw (.bool (decide ((-10000 : Int) ≤ i ∧ i ≤ (10000 : Int))))), Ans.br true, Ans.br true, Ans.br true, Ans.br true, Ans.br true]) (cons := [(Ret cfx (61 : Nat) [V.raw (Value.string s)] (V.raw (.bool (M.nameB s)))), (M.nameB s = true), (Ret cfx (20 : Nat) [iV i, iV (-10000 : Int), iV (10000 : Int)] (V.raw (.bool (decide ((-10000 : Int) ≤ i ∧ i ≤ (10000 : Int)))))), (true = true), (decide ((-10000 : Int) ≤ i ∧ i ≤ (10000 : Int)) = true), (true = true), (decide ((-12 : Int) ≤ g) = true), (true = true)]) (by kernel_rfl) rfl rfl
    ⟨(rdNamed _ (by assumption)), (by first | assumption | (simp only [decide_eq_true_eq, decide_eq_false_iff_not, Bool.not_eq_true', Bool.not_eq_false']; first | assumption | omega) | (simp only [decide_eq_true_eq, decide_eq_false_iff_not, Bool.not_eq_true', Bool.not_eq_false']; done) | omega | (simp_all; done) | (simp_all; omega)), (rdWithin _ _ _), rfl, (by first | omega | (simp; omega) | (simp_all; omega)), rfl, (by first | omega | (simp; omega) | (simp_all; omega)), rfl, trivial⟩
theorem rdPlayer_2 (s : ByteArray) (i g : Int) (hs : s.size ≤ 100) (f0 : M.nameB s = true) (f1 : (-10000 : Int) ≤ i ∧ i ≤ (10000 : Int)) (f2 : ¬(-12 : Int) ≤ g) : Ret cfx 45 [.raw (.agg #[.string s, .int .i64 i, .int .i64 g])] (V.raw (.bool false)) := by
  exact fn_of cfx_mixed cfx_call cfx_base.1 cfx_base.2.1 cfx_base.2.2 (n := 40) (ans := [Ans.go, Ans.ret (V.raw (.bool (M.nameB s))), Ans.br true, Ans.ret (V.raw (.bool (decide ((-10000 : Int) ≤ i ∧ i ≤ (10000 : Int))))), Ans.br true, Ans.br true, Ans.br true, Ans.br false, Ans.br false]) (cons := [(Ret cfx (61 : Nat) [V.raw (Value.string s)] (V.raw (.bool (M.nameB s)))), (M.nameB s = true), (Ret cfx (20 : Nat) [iV i, iV (-10000 : Int), iV (10000 : Int)] (V.raw (.bool (decide ((-10000 : Int) ≤ i ∧ i ≤ (10000 : Int)))))), (true = true), (decide ((-10000 : Int) ≤ i ∧ i ≤ (10000 : Int)) = true), (true = true), (decide ((-12 : Int) ≤ g) = false), (false = false)]) (by kernel_rfl) rfl rfl
    ⟨(rdNamed _ (by assumption)), (by first | assumption | (simp only [decide_eq_true_eq, decide_eq_false_iff_not, Bool.not_eq_true', Bool.not_eq_false']; first | assumption | omega) | (simp only [decide_eq_true_eq, decide_eq_false_iff_not, Bool.not_eq_true', Bool.not_eq_false']; done) | omega | (simp_all; done) | (simp_all; omega)), (rdWithin _ _ _), rfl, (by first | omega | (simp; omega) | (simp_all; omega)), rfl, (by first | omega | (simp; omega) | (simp_all; omega)), rfl, trivial⟩
theorem rdPlayer_3 (s : ByteArray) (i g : Int) (hs : s.size ≤ 100) (f0 : M.nameB s = true) (f1 : ¬((-10000 : Int) ≤ i ∧ i ≤ (10000 : Int))) : Ret cfx 45 [.raw (.agg #[.string s, .int .i64 i, .int .i64 g])] (V.raw (.bool false)) := by
  exact fn_of cfx_mixed cfx_call cfx_base.1 cfx_base.2.1 cfx_base.2.2 (n := 40) (ans := [Ans.go, Ans.ret (V.raw (.bool (M.nameB s))), Ans.br true, Ans.ret (V.raw (.bool (decide ((-10000 : Int) ≤ i ∧ i ≤ (10000 : Int))))), Ans.br true, Ans.br false, Ans.br false, Ans.br false, Ans.br false]) (cons := [(Ret cfx (61 : Nat) [V.raw (Value.string s)] (V.raw (.bool (M.nameB s)))), (M.nameB s = true), (Ret cfx (20 : Nat) [iV i, iV (-10000 : Int), iV (10000 : Int)] (V.raw (.bool (decide ((-10000 : Int) ≤ i ∧ i ≤ (10000 : Int)))))), (true = true), (decide ((-10000 : Int) ≤ i ∧ i ≤ (10000 : Int)) = false), (false = false), (false = false), (false = false)]) (by kernel_rfl) rfl rfl
    ⟨(rdNamed _ (by assumption)), (by first | assumption | (simp only [decide_eq_true_eq, decide_eq_false_iff_not, Bool.not_eq_true', Bool.not_eq_false']; first | assumption | omega) | (simp only [decide_eq_true_eq, decide_eq_false_iff_not, Bool.not_eq_true', Bool.not_eq_false']; done) | omega | (simp_all; done) | (simp_all; omega)), (rdWithin _ _ _), rfl, (by first | omega | (simp; omega) | (simp_all; omega)), rfl, rfl, rfl, trivial⟩
theorem rdPlayer_4 (s : ByteArray) (i g : Int) (hs : s.size ≤ 100) (f0 : M.nameB s = false) : Ret cfx 45 [.raw (.agg #[.string s, .int .i64 i, .int .i64 g])] (V.raw (.bool false)) := by
  exact fn_of cfx_mixed cfx_call cfx_base.1 cfx_base.2.1 cfx_base.2.2 (n := 40) (ans := [Ans.go, Ans.ret (V.raw (.bool (M.nameB s))), Ans.br false, Ans.br false, Ans.br false, Ans.br false, Ans.br false, Ans.br false]) (cons := [(Ret cfx (61 : Nat) [V.raw (Value.string s)] (V.raw (.bool (M.nameB s)))), (M.nameB s = false), (false = false), (false = false), (false = false), (false = false), (false = false)]) (by kernel_rfl) rfl rfl
    ⟨(rdNamed _ (by assumption)), (by first | assumption | (simp only [decide_eq_true_eq, decide_eq_false_iff_not, Bool.not_eq_true', Bool.not_eq_false']; first | assumption | omega) | (simp only [decide_eq_true_eq, decide_eq_false_iff_not, Bool.not_eq_true', Bool.not_eq_false']; done) | omega | (simp_all; done) | (simp_all; omega)), rfl, rfl, rfl, rfl, rfl, trivial⟩
theorem rdPlayer (s : ByteArray) (i g : Int) (hs : s.size ≤ 100) : Ret cfx 45 [.raw (.agg #[.string s, .int .i64 i, .int .i64 g])] (.raw (.bool (M.okP s i g))) := by
  by_cases f0 : M.nameB s = true
  ·
    by_cases f1 : (-10000 : Int) ≤ i ∧ i ≤ (10000 : Int)
    ·
      by_cases f2 : (-12 : Int) ≤ g
      ·
        have e : (.raw (.bool (M.okP s i g)) : V) = V.raw (.bool (decide (g ≤ (48 : Int)))) := by (congr 2; unfold M.okP; rw [Bool.eq_iff_iff]; first | (simp_all; done) | (simp_all; intros; omega))
        rw [e]
        exact rdPlayer_1 s i g hs f0 f1 f2
      ·
        have e : (.raw (.bool (M.okP s i g)) : V) = V.raw (.bool false) := by (congr 2; unfold M.okP; rw [Bool.eq_iff_iff]; first | (simp_all; done) | (simp_all; intros; omega))
        rw [e]
        exact rdPlayer_2 s i g hs f0 f1 f2
    ·
      have e : (.raw (.bool (M.okP s i g)) : V) = V.raw (.bool false) := by (congr 2; unfold M.okP; rw [Bool.eq_iff_iff]; first | (simp_all; done) | (simp_all; intros; omega))
      rw [e]
      exact rdPlayer_3 s i g hs f0 f1
  ·
    replace f0 : M.nameB s = false := by simpa using f0
    have e : (.raw (.bool (M.okP s i g)) : V) = V.raw (.bool false) := by (congr 2; unfold M.okP; rw [Bool.eq_iff_iff]; first | (simp_all; done) | (simp_all; intros; omega))
    rw [e]
    exact rdPlayer_4 s i g hs f0
end Go.Proofs.YtkkgmodladgonaaGreatDoor
end
section
set_option maxRecDepth 100000
namespace Go.Proofs.YtkkgmodladgonaaGreatDoor
open Go Go.RowKit Go.Proofs.YtkkgmodladgonaaGreatDoor.E2
theorem rdTwo_1 (a b : ByteArray) (ia ga ib gb : Int) (hsa : a.size ≤ 100) (hsb : b.size ≤ 100) (f0 : M.okP a ia ga = false) : Ret cfx 27 [.raw (.agg #[.string a, .int .i64 ia, .int .i64 ga]), .raw (.agg #[.string b, .int .i64 ib, .int .i64 gb])] (iV (2 : Int)) := by
  exact fn_of cfx_mixed cfx_call cfx_base.1 cfx_base.2.1 cfx_base.2.2 (n := 40) (ans := [Ans.go, Ans.ret (V.raw (.bool (M.okP a ia ga))), Ans.br true, Ans.br true, Ans.br true]) (cons := [(Ret cfx (45 : Nat) [V.raw (.agg { toList := [Value.string a, .int .i64 ia, .int .i64 ga] })] (V.raw (.bool (M.okP a ia ga)))), ((!M.okP a ia ga) = true), (true = true), (true = true)]) (by kernel_rfl) rfl rfl
    ⟨(rdPlayer _ _ _ (by assumption)), (by first | assumption | (simp only [decide_eq_true_eq, decide_eq_false_iff_not, Bool.not_eq_true', Bool.not_eq_false']; first | assumption | omega) | (simp only [decide_eq_true_eq, decide_eq_false_iff_not, Bool.not_eq_true', Bool.not_eq_false']; done) | omega | (simp_all; done) | (simp_all; omega)), rfl, rfl, trivial⟩
theorem rdTwo_2 (a b : ByteArray) (ia ga ib gb : Int) (hsa : a.size ≤ 100) (hsb : b.size ≤ 100) (f0 : M.okP a ia ga = true) (f1 : M.okP b ib gb = false) : Ret cfx 27 [.raw (.agg #[.string a, .int .i64 ia, .int .i64 ga]), .raw (.agg #[.string b, .int .i64 ib, .int .i64 gb])] (iV (2 : Int)) := by
  exact fn_of cfx_mixed cfx_call cfx_base.1 cfx_base.2.1 cfx_base.2.2 (n := 40) (ans := [Ans.go, Ans.ret (V.raw (.bool (M.okP a ia ga))), Ans.br false, Ans.ret (V.raw (.bool (M.okP b ib gb))), Ans.br false, Ans.br true]) (cons := [(Ret cfx (45 : Nat) [V.raw (.agg { toList := [Value.string a, .int .i64 ia, .int .i64 ga] })] (V.raw (.bool (M.okP a ia ga)))), ((!M.okP a ia ga) = false), (Ret cfx (45 : Nat) [V.raw (.agg { toList := [Value.string b, .int .i64 ib, .int .i64 gb] })] (V.raw (.bool (M.okP b ib gb)))), (false = false), ((!M.okP b ib gb) = true)]) (by kernel_rfl) rfl rfl
    ⟨(rdPlayer _ _ _ (by assumption)), (by first | assumption | (simp only [decide_eq_true_eq, decide_eq_false_iff_not, Bool.not_eq_true', Bool.not_eq_false']; first | assumption | omega) | (simp only [decide_eq_true_eq, decide_eq_false_iff_not, Bool.not_eq_true', Bool.not_eq_false']; done) | omega | (simp_all; done) | (simp_all; omega)), (rdPlayer _ _ _ (by assumption)), rfl, (by first | assumption | (simp only [decide_eq_true_eq, decide_eq_false_iff_not, Bool.not_eq_true', Bool.not_eq_false']; first | assumption | omega) | (simp only [decide_eq_true_eq, decide_eq_false_iff_not, Bool.not_eq_true', Bool.not_eq_false']; done) | omega | (simp_all; done) | (simp_all; omega)), trivial⟩
theorem rdTwo_3 (a b : ByteArray) (ia ga ib gb : Int) (hsa : a.size ≤ 100) (hsb : b.size ≤ 100) (f0 : M.okP a ia ga = true) (f1 : M.okP b ib gb = true) (f2 : (a.toList == b.toList) = true) : Ret cfx 27 [.raw (.agg #[.string a, .int .i64 ia, .int .i64 ga]), .raw (.agg #[.string b, .int .i64 ib, .int .i64 gb])] (iV (12 : Int)) := by
  exact fn_of cfx_mixed cfx_call cfx_base.1 cfx_base.2.1 cfx_base.2.2 (n := 40) (ans := [Ans.go, Ans.ret (V.raw (.bool (M.okP a ia ga))), Ans.br false, Ans.ret (V.raw (.bool (M.okP b ib gb))), Ans.br false, Ans.br false, Ans.br true]) (cons := [(Ret cfx (45 : Nat) [V.raw (.agg { toList := [Value.string a, .int .i64 ia, .int .i64 ga] })] (V.raw (.bool (M.okP a ia ga)))), ((!M.okP a ia ga) = false), (Ret cfx (45 : Nat) [V.raw (.agg { toList := [Value.string b, .int .i64 ib, .int .i64 gb] })] (V.raw (.bool (M.okP b ib gb)))), (false = false), ((!M.okP b ib gb) = false), ((a.toList == b.toList) = true)]) (by kernel_rfl) rfl rfl
    ⟨(rdPlayer _ _ _ (by assumption)), (by first | assumption | (simp only [decide_eq_true_eq, decide_eq_false_iff_not, Bool.not_eq_true', Bool.not_eq_false']; first | assumption | omega) | (simp only [decide_eq_true_eq, decide_eq_false_iff_not, Bool.not_eq_true', Bool.not_eq_false']; done) | omega | (simp_all; done) | (simp_all; omega)), (rdPlayer _ _ _ (by assumption)), rfl, (by first | assumption | (simp only [decide_eq_true_eq, decide_eq_false_iff_not, Bool.not_eq_true', Bool.not_eq_false']; first | assumption | omega) | (simp only [decide_eq_true_eq, decide_eq_false_iff_not, Bool.not_eq_true', Bool.not_eq_false']; done) | omega | (simp_all; done) | (simp_all; omega)), (by first | assumption | (simp only [decide_eq_true_eq, decide_eq_false_iff_not, Bool.not_eq_true', Bool.not_eq_false']; first | assumption | omega) | (simp only [decide_eq_true_eq, decide_eq_false_iff_not, Bool.not_eq_true', Bool.not_eq_false']; done) | omega | (simp_all; done) | (simp_all; omega)), trivial⟩
theorem rdTwo_4 (a b : ByteArray) (ia ga ib gb : Int) (hsa : a.size ≤ 100) (hsb : b.size ≤ 100) (f0 : M.okP a ia ga = true) (f1 : M.okP b ib gb = true) (f2 : (a.toList == b.toList) = false) : Ret cfx 27 [.raw (.agg #[.string a, .int .i64 ia, .int .i64 ga]), .raw (.agg #[.string b, .int .i64 ib, .int .i64 gb])] (iV (0 : Int)) := by
  exact fn_of cfx_mixed cfx_call cfx_base.1 cfx_base.2.1 cfx_base.2.2 (n := 40) (ans := [Ans.go, Ans.ret (V.raw (.bool (M.okP a ia ga))), Ans.br false, Ans.ret (V.raw (.bool (M.okP b ib gb))), Ans.br false, Ans.br false, Ans.br false]) (cons := [(Ret cfx (45 : Nat) [V.raw (.agg { toList := [Value.string a, .int .i64 ia, .int .i64 ga] })] (V.raw (.bool (M.okP a ia ga)))), ((!M.okP a ia ga) = false), (Ret cfx (45 : Nat) [V.raw (.agg { toList := [Value.string b, .int .i64 ib, .int .i64 gb] })] (V.raw (.bool (M.okP b ib gb)))), (false = false), ((!M.okP b ib gb) = false), ((a.toList == b.toList) = false)]) (by kernel_rfl) rfl rfl
    ⟨(rdPlayer _ _ _ (by assumption)), (by first | assumption | (simp only [decide_eq_true_eq, decide_eq_false_iff_not, Bool.not_eq_true', Bool.not_eq_false']; first | assumption | omega) | (simp only [decide_eq_true_eq, decide_eq_false_iff_not, Bool.not_eq_true', Bool.not_eq_false']; done) | omega | (simp_all; done) | (simp_all; omega)), (rdPlayer _ _ _ (by assumption)), rfl, (by first | assumption | (simp only [decide_eq_true_eq, decide_eq_false_iff_not, Bool.not_eq_true', Bool.not_eq_false']; first | assumption | omega) | (simp only [decide_eq_true_eq, decide_eq_false_iff_not, Bool.not_eq_true', Bool.not_eq_false']; done) | omega | (simp_all; done) | (simp_all; omega)), (by first | assumption | (simp only [decide_eq_true_eq, decide_eq_false_iff_not, Bool.not_eq_true', Bool.not_eq_false']; first | assumption | omega) | (simp only [decide_eq_true_eq, decide_eq_false_iff_not, Bool.not_eq_true', Bool.not_eq_false']; done) | omega | (simp_all; done) | (simp_all; omega)), trivial⟩
theorem rdTwo (a b : ByteArray) (ia ga ib gb : Int) (hsa : a.size ≤ 100) (hsb : b.size ≤ 100) : Ret cfx 27 [.raw (.agg #[.string a, .int .i64 ia, .int .i64 ga]), .raw (.agg #[.string b, .int .i64 ib, .int .i64 gb])] (.raw (.int .i64 (M.chk2 a ia ga b ib gb))) := by
  by_cases f0 : M.okP a ia ga = false
  ·
    have e : (.raw (.int .i64 (M.chk2 a ia ga b ib gb)) : V) = (iV (2 : Int)) := by (simp only [M.chk2, ← M.toList_beq]; simp_all)
    rw [e]
    exact rdTwo_1 a b ia ga ib gb hsa hsb f0
  ·
    replace f0 : M.okP a ia ga = true := by simpa using f0
    by_cases f1 : M.okP b ib gb = false
    ·
      have e : (.raw (.int .i64 (M.chk2 a ia ga b ib gb)) : V) = (iV (2 : Int)) := by (simp only [M.chk2, ← M.toList_beq]; simp_all)
      rw [e]
      exact rdTwo_2 a b ia ga ib gb hsa hsb f0 f1
    ·
      replace f1 : M.okP b ib gb = true := by simpa using f1
      by_cases f2 : (a.toList == b.toList) = true
      ·
        have e : (.raw (.int .i64 (M.chk2 a ia ga b ib gb)) : V) = (iV (12 : Int)) := by (simp only [M.chk2, ← M.toList_beq]; simp_all)
        rw [e]
        exact rdTwo_3 a b ia ga ib gb hsa hsb f0 f1 f2
      ·
        replace f2 : (a.toList == b.toList) = false := by simpa using f2
        have e : (.raw (.int .i64 (M.chk2 a ia ga b ib gb)) : V) = (iV (0 : Int)) := by (simp only [M.chk2, ← M.toList_beq]; simp_all)
        rw [e]
        exact rdTwo_4 a b ia ga ib gb hsa hsb f0 f1 f2
end Go.Proofs.YtkkgmodladgonaaGreatDoor
end
section
set_option maxRecDepth 100000
namespace Go.Proofs.YtkkgmodladgonaaGreatDoor
open Go Go.RowKit Go.Proofs.YtkkgmodladgonaaGreatDoor.E2
theorem rdCount_bad (a b : ByteArray) (ia ga ib gb : Int) (lv : Bool) (hsa : a.size ≤ 100) (hsb : b.size ≤ 100) (hE : ¬ M.chk2 a ia ga b ib gb = 0)  : Ret cfx 10 [.raw (.agg #[.string a, .int .i64 ia, .int .i64 ga]), .raw (.agg #[.string b, .int .i64 ib, .int .i64 gb]), .raw (.bool lv)] (V.raw (.tuple { toList := [.agg { toList := [Value.string { data := #[] }, .int .i64 (0 : Int), .int .i64 (0 : Int)] }, .agg { toList := [Value.string { data := #[] }, .int .i64 (0 : Int), .int .i64 (0 : Int)] }, .int .i64 (M.chk2 a ia ga b ib gb)] })) := by
  exact fn_of cfx_mixed cfx_call cfx_base.1 cfx_base.2.1 cfx_base.2.2 (n := 40) (ans := [Ans.go, Ans.ret (iV (M.chk2 a ia ga b ib gb)), Ans.br true, Ans.ret (iV (M.chk2 a ia ga b ib gb))]) (cons := [(Ret cfx (27 : Nat) [V.raw (.agg { toList := [Value.string a, .int .i64 ia, .int .i64 ga] }), V.raw (.agg { toList := [Value.string b, .int .i64 ib, .int .i64 gb] })] (iV (M.chk2 a ia ga b ib gb))), ((!decide (M.chk2 a ia ga b ib gb = (0 : Int))) = true), (Ret cfx (27 : Nat) [V.raw (.agg { toList := [Value.string a, .int .i64 ia, .int .i64 ga] }), V.raw (.agg { toList := [Value.string b, .int .i64 ib, .int .i64 gb] })] (iV (M.chk2 a ia ga b ib gb)))]) (by kernel_rfl) rfl rfl
    ⟨(rdTwo _ _ _ _ _ _ (by assumption) (by assumption)), (by first | assumption | (simp only [decide_eq_true_eq, decide_eq_false_iff_not, Bool.not_eq_true', Bool.not_eq_false']; first | assumption | omega) | (simp only [decide_eq_true_eq, decide_eq_false_iff_not, Bool.not_eq_true', Bool.not_eq_false']; done) | omega | (simp_all; done) | (simp_all; omega)), (rdTwo _ _ _ _ _ _ (by assumption) (by assumption)), trivial⟩
theorem rdCount_ok (a b : ByteArray) (ia ga ib gb : Int) (lv : Bool) (hsa : a.size ≤ 100) (hsb : b.size ≤ 100) (hE : M.chk2 a ia ga b ib gb = 0) (hia : -10000 ≤ ia ∧ ia ≤ 10000) (hib : -10000 ≤ ib ∧ ib ≤ 10000) (hga : -12 ≤ ga ∧ ga ≤ 48) (hgb : -12 ≤ gb ∧ gb ≤ 48) (hn : 1 ≤ M.gainV ia ib lv ∧ M.gainV ia ib lv ≤ 19)  : Ret cfx 10 [.raw (.agg #[.string a, .int .i64 ia, .int .i64 ga]), .raw (.agg #[.string b, .int .i64 ib, .int .i64 gb]), .raw (.bool lv)] (V.raw (.tuple { toList := [.agg { toList := [Value.string a, .int .i64 (M.clampI (ia + M.gainV ia ib lv)), .int .i64 (M.newG (M.clampI (ia + M.gainV ia ib lv)) ga)] }, .agg { toList := [Value.string b, .int .i64 (M.clampI (ib + -M.gainV ia ib lv)), .int .i64 (M.newG (M.clampI (ib + -M.gainV ia ib lv)) gb)] }, .int .i64 (0 : Int)] })) := by
  exact fn_of cfx_mixed cfx_call cfx_base.1 cfx_base.2.1 cfx_base.2.2 (n := 40) (ans := [Ans.go, Ans.ret (iV (M.chk2 a ia ga b ib gb)), Ans.br false, Ans.ret (V.raw (.tuple { toList := [.agg { toList := [Value.string a, .int .i64 (M.clampI (ia + M.gainV ia ib lv)), .int .i64 (M.newG (M.clampI (ia + M.gainV ia ib lv)) ga)] }, .agg { toList := [Value.string b, .int .i64 (M.clampI (ib + -M.gainV ia ib lv)), .int .i64 (M.newG (M.clampI (ib + -M.gainV ia ib lv)) gb)] }] })), Ans.olds [((3 : Nat), (6 : Nat)), ((2 : Nat), (4 : Nat))]]) (cons := [(Ret cfx (27 : Nat) [V.raw (.agg { toList := [Value.string a, .int .i64 ia, .int .i64 ga] }), V.raw (.agg { toList := [Value.string b, .int .i64 ib, .int .i64 gb] })] (iV (M.chk2 a ia ga b ib gb))), ((!decide (M.chk2 a ia ga b ib gb = (0 : Int))) = false), (Ret cfx (28 : Nat) [V.raw (.agg { toList := [Value.string a, .int .i64 ia, .int .i64 ga] }), V.raw (.agg { toList := [Value.string b, .int .i64 ib, .int .i64 gb] }), V.raw (.bool lv)] (V.raw (.tuple { toList := [.agg { toList := [Value.string a, .int .i64 (M.clampI (ia + M.gainV ia ib lv)), .int .i64 (M.newG (M.clampI (ia + M.gainV ia ib lv)) ga)] }, .agg { toList := [Value.string b, .int .i64 (M.clampI (ib + -M.gainV ia ib lv)), .int .i64 (M.newG (M.clampI (ib + -M.gainV ia ib lv)) gb)] }] })))]) (by kernel_rfl) rfl rfl
    ⟨(rdTwo _ _ _ _ _ _ (by assumption) (by assumption)), (by first | assumption | (simp only [decide_eq_true_eq, decide_eq_false_iff_not, Bool.not_eq_true', Bool.not_eq_false']; first | assumption | omega) | (simp only [decide_eq_true_eq, decide_eq_false_iff_not, Bool.not_eq_true', Bool.not_eq_false']; done) | omega | (simp_all; done) | (simp_all; omega)), (rdCount a b ia ga ib gb lv hia hib hga hgb hn), trivial⟩
theorem rdHalves_bad (a b : ByteArray) (ia ga ib gb : Int) (hsa : a.size ≤ 100) (hsb : b.size ≤ 100) (hE : ¬ M.chk2 a ia ga b ib gb = 0)  : Ret cfx 12 [.raw (.agg #[.string a, .int .i64 ia, .int .i64 ga]), .raw (.agg #[.string b, .int .i64 ib, .int .i64 gb])] (V.raw (.tuple { toList := [.agg { toList := [.int .i64 (0 : Int), .int .i64 (0 : Int)] }, .int .i64 (M.chk2 a ia ga b ib gb)] })) := by
  exact fn_of cfx_mixed cfx_call cfx_base.1 cfx_base.2.1 cfx_base.2.2 (n := 40) (ans := [Ans.go, Ans.ret (iV (M.chk2 a ia ga b ib gb)), Ans.br true, Ans.ret (iV (M.chk2 a ia ga b ib gb))]) (cons := [(Ret cfx (27 : Nat) [V.raw (.agg { toList := [Value.string a, .int .i64 ia, .int .i64 ga] }), V.raw (.agg { toList := [Value.string b, .int .i64 ib, .int .i64 gb] })] (iV (M.chk2 a ia ga b ib gb))), ((!decide (M.chk2 a ia ga b ib gb = (0 : Int))) = true), (Ret cfx (27 : Nat) [V.raw (.agg { toList := [Value.string a, .int .i64 ia, .int .i64 ga] }), V.raw (.agg { toList := [Value.string b, .int .i64 ib, .int .i64 gb] })] (iV (M.chk2 a ia ga b ib gb)))]) (by kernel_rfl) rfl rfl
    ⟨(rdTwo _ _ _ _ _ _ (by assumption) (by assumption)), (by first | assumption | (simp only [decide_eq_true_eq, decide_eq_false_iff_not, Bool.not_eq_true', Bool.not_eq_false']; first | assumption | omega) | (simp only [decide_eq_true_eq, decide_eq_false_iff_not, Bool.not_eq_true', Bool.not_eq_false']; done) | omega | (simp_all; done) | (simp_all; omega)), (rdTwo _ _ _ _ _ _ (by assumption) (by assumption)), trivial⟩
theorem rdHalves_ok (a b : ByteArray) (ia ga ib gb : Int) (hsa : a.size ≤ 100) (hsb : b.size ≤ 100) (hE : M.chk2 a ia ga b ib gb = 0) (hga : -12 ≤ ga ∧ ga ≤ 48) (hgb : -12 ≤ gb ∧ gb ≤ 48)  : Ret cfx 12 [.raw (.agg #[.string a, .int .i64 ia, .int .i64 ga]), .raw (.agg #[.string b, .int .i64 ib, .int .i64 gb])] (V.raw (.tuple { toList := [.agg { toList := [.int .i64 (M.half (ga - gb)), .int .i64 (M.half (gb - ga))] }, .int .i64 (0 : Int)] })) := by
  exact fn_of cfx_mixed cfx_call cfx_base.1 cfx_base.2.1 cfx_base.2.2 (n := 40) (ans := [Ans.go, Ans.ret (iV (M.chk2 a ia ga b ib gb)), Ans.br false, Ans.ret (V.raw (.agg { toList := [.int .i64 (M.half (ga - gb)), .int .i64 (M.half (gb - ga))] }))]) (cons := [(Ret cfx (27 : Nat) [V.raw (.agg { toList := [Value.string a, .int .i64 ia, .int .i64 ga] }), V.raw (.agg { toList := [Value.string b, .int .i64 ib, .int .i64 gb] })] (iV (M.chk2 a ia ga b ib gb))), ((!decide (M.chk2 a ia ga b ib gb = (0 : Int))) = false), (Ret cfx (30 : Nat) [V.raw (.agg { toList := [Value.string a, .int .i64 ia, .int .i64 ga] }), V.raw (.agg { toList := [Value.string b, .int .i64 ib, .int .i64 gb] })] (V.raw (.agg { toList := [.int .i64 (M.half (ga - gb)), .int .i64 (M.half (gb - ga))] })))]) (by kernel_rfl) rfl rfl
    ⟨(rdTwo _ _ _ _ _ _ (by assumption) (by assumption)), (by first | assumption | (simp only [decide_eq_true_eq, decide_eq_false_iff_not, Bool.not_eq_true', Bool.not_eq_false']; first | assumption | omega) | (simp only [decide_eq_true_eq, decide_eq_false_iff_not, Bool.not_eq_true', Bool.not_eq_false']; done) | omega | (simp_all; done) | (simp_all; omega)), (rdHalves a b ia ga ib gb hga hgb), trivial⟩
theorem tdHalves_bad (a b : ByteArray) (ia ga ib gb : Int) (E : Int) (hE : ¬ E = 0) (hC : Meets cfx 0 25 [.slo 0 2] [some (.cells [.raw (.string a), .raw (.int .i64 ia), .raw (.int .i64 ga), .raw (.string b), .raw (.int .i64 ib), .raw (.int .i64 gb)] 23 .ro)] (.raw (.int .i64 E)) [some (.cells [.raw (.string a), .raw (.int .i64 ia), .raw (.int .i64 ga), .raw (.string b), .raw (.int .i64 ib), .raw (.int .i64 gb)] 23 .ro)])  : Ret cfx 11 [.raw (.agg #[.string a, .int .i64 ia, .int .i64 ga]), .raw (.agg #[.string b, .int .i64 ib, .int .i64 gb])] (V.raw (.tuple { toList := [.agg { toList := [.int .i64 (0 : Int), .int .i64 (0 : Int)] }, .int .i64 E] })) := by
  exact fn_of cfx_mixed cfx_call cfx_base.1 cfx_base.2.1 cfx_base.2.2 (n := 40) (ans := [Ans.go, Ans.reth (iV E) [some (.cells [V.raw (Value.string a), iV ia, iV ga] 23 .rw), some (.cells [V.raw (Value.string b), iV ib, iV gb] 23 .rw), some (.cells [iV (0 : Int), iV (0 : Int)] 31 .rw), some (.cells [V.raw (Value.string a), iV ia, iV ga, V.raw (Value.string b), iV ib, iV gb] 23 (.row 3))], Ans.br true]) (cons := [((2 : Nat) ≤ (9223372036854775807 : Nat)), (Meets cfx (0 : Nat) (25 : Nat) [.slo 3 (2 : Nat)] [some (.cells [V.raw (Value.string a), iV ia, iV ga] 23 .rw), some (.cells [V.raw (Value.string b), iV ib, iV gb] 23 .rw), some (.cells [iV (0 : Int), iV (0 : Int)] 31 .rw), some (.cells [V.raw (Value.string a), iV ia, iV ga, V.raw (Value.string b), iV ib, iV gb] 23 (.row 3))] (iV E) [some (.cells [V.raw (Value.string a), iV ia, iV ga] 23 .rw), some (.cells [V.raw (Value.string b), iV ib, iV gb] 23 .rw), some (.cells [iV (0 : Int), iV (0 : Int)] 31 .rw), some (.cells [V.raw (Value.string a), iV ia, iV ga, V.raw (Value.string b), iV ib, iV gb] 23 (.row 3))]), ((!decide (E = (0 : Int))) = true)]) (by kernel_rfl) rfl rfl
    ⟨(by first | assumption | omega | (simp_all; done) | (simp_all; omega)), (by exact below1 (c := cfx) (lim := 0) (N := []) rfl rfl 3 hC rfl rfl (by intro k X h; simp at h) rfl (Nat.le_of_ble_eq_true rfl)), (by first | assumption | (simp only [decide_eq_true_eq, decide_eq_false_iff_not, Bool.not_eq_true', Bool.not_eq_false']; first | assumption | omega) | (simp only [decide_eq_true_eq, decide_eq_false_iff_not, Bool.not_eq_true', Bool.not_eq_false']; done) | omega | (simp_all; done) | (simp_all; omega)), trivial⟩
theorem tdHalves_ok (a b : ByteArray) (ia ga ib gb : Int) (hga : -12 ≤ ga ∧ ga ≤ 48) (hgb : -12 ≤ gb ∧ gb ≤ 48) (hC : Meets cfx 0 25 [.slo 0 2] [some (.cells [.raw (.string a), .raw (.int .i64 ia), .raw (.int .i64 ga), .raw (.string b), .raw (.int .i64 ib), .raw (.int .i64 gb)] 23 .ro)] (.raw (.int .i64 0)) [some (.cells [.raw (.string a), .raw (.int .i64 ia), .raw (.int .i64 ga), .raw (.string b), .raw (.int .i64 ib), .raw (.int .i64 gb)] 23 .ro)])  : Ret cfx 11 [.raw (.agg #[.string a, .int .i64 ia, .int .i64 ga]), .raw (.agg #[.string b, .int .i64 ib, .int .i64 gb])] (V.raw (.tuple { toList := [.agg { toList := [.int .i64 (M.half (ga - gb)), .int .i64 (M.half (gb - ga))] }, .int .i64 (0 : Int)] })) := by
  exact fn_of cfx_mixed cfx_call cfx_base.1 cfx_base.2.1 cfx_base.2.2 (n := 40) (ans := [Ans.go, Ans.reth (iV (0 : Int)) [some (.cells [V.raw (Value.string a), iV ia, iV ga] 23 .rw), some (.cells [V.raw (Value.string b), iV ib, iV gb] 23 .rw), some (.cells [iV (0 : Int), iV (0 : Int)] 31 .rw), some (.cells [V.raw (Value.string a), iV ia, iV ga, V.raw (Value.string b), iV ib, iV gb] 23 (.row 3))], Ans.br false, Ans.olds [((7 : Nat), (4 : Nat))], Ans.ret (iV (M.half (ga - gb))), Ans.ret (iV (M.half (gb - ga)))]) (cons := [((2 : Nat) ≤ (9223372036854775807 : Nat)), (Meets cfx (0 : Nat) (25 : Nat) [.slo 3 (2 : Nat)] [some (.cells [V.raw (Value.string a), iV ia, iV ga] 23 .rw), some (.cells [V.raw (Value.string b), iV ib, iV gb] 23 .rw), some (.cells [iV (0 : Int), iV (0 : Int)] 31 .rw), some (.cells [V.raw (Value.string a), iV ia, iV ga, V.raw (Value.string b), iV ib, iV gb] 23 (.row 3))] (iV (0 : Int)) [some (.cells [V.raw (Value.string a), iV ia, iV ga] 23 .rw), some (.cells [V.raw (Value.string b), iV ib, iV gb] 23 .rw), some (.cells [iV (0 : Int), iV (0 : Int)] 31 .rw), some (.cells [V.raw (Value.string a), iV ia, iV ga, V.raw (Value.string b), iV ib, iV gb] 23 (.row 3))]), (false = false), (Ret cfx (29 : Nat) [V.raw (.agg { toList := [Value.string a, .int .i64 ia, .int .i64 ga] }), V.raw (.agg { toList := [Value.string b, .int .i64 ib, .int .i64 gb] })] (iV (M.half (ga - gb)))), (Ret cfx (29 : Nat) [V.raw (.agg { toList := [Value.string b, .int .i64 ib, .int .i64 gb] }), V.raw (.agg { toList := [Value.string a, .int .i64 ia, .int .i64 ga] })] (iV (M.half (gb - ga))))]) (by kernel_rfl) rfl rfl
    ⟨(by first | assumption | omega | (simp_all; done) | (simp_all; omega)), (by exact below1 (c := cfx) (lim := 0) (N := []) rfl rfl 3 hC rfl rfl (by intro k X h; simp at h) rfl (Nat.le_of_ble_eq_true rfl)), rfl, (tdHalf _ _ _ _ _ _ (by omega) (by omega)), (tdHalf _ _ _ _ _ _ (by omega) (by omega)), trivial⟩
end Go.Proofs.YtkkgmodladgonaaGreatDoor
end
