/-
  Layer 3: the statement ContactStraight, by the reckoner.
-/
import Derived.Test.YtlgabdamgalngaaCtNa
import Derived.Test.YtlgabdamgalngaaCtMb
set_option linter.unusedVariables false
set_option linter.unusedSimpArgs false
namespace Go.Proofs.Ytlgabdamgalngaa
open Go Go.RowKit Go.Proofs.Ytlgabdamgalngaa.E
theorem M.tmod_bd {n d : Int} (hn : 0 ≤ n) (hd : 0 < d) : 0 ≤ n.tmod d ∧ n.tmod d < d := ⟨Int.tmod_nonneg d hn, Int.tmod_lt_of_pos n hd⟩
set_option maxRecDepth 100000 in
theorem straight_ok (mass radius m rebound X : Int) (hm1 : 0 ≤ mass) (hm2 : mass ≤ 65535) (hr1 : 0 ≤ radius) (hr2 : radius ≤ 65535) (hp1 : 0 ≤ m) (hp2 : m ≤ 4294967295) (hb1 : 0 ≤ rebound) (hb2 : rebound ≤ 65535) (hz : ¬ m.tmod 16777217 = 0) (hX1 : 0 ≤ X) (hX2 : X ≤ m.tmod 16777217) (hc : 2000 * (m.tmod 16777217 - X - 24) ≤ (1000 - rebound.tmod 951) * m.tmod 16777217) (hc2 : -100000000000 ≤ (1000 - rebound.tmod 951) * m.tmod 16777217) (hc3 : (1000 - rebound.tmod 951) * m.tmod 16777217 ≤ 100000000000) (hB : Ret cfg 28 [.raw (.agg #[.int .i64 (400 + mass.tmod 101), .int .i64 (1000 + radius.tmod 3097)]), .raw (.agg #[.int .i64 0, .int .i64 0, .int .i64 (m.tmod 16777217), .int .i64 0, .int .i64 0, .int .i64 0]), .raw (.agg #[.int .i64 (400 + mass.tmod 101), .int .i64 (1000 + radius.tmod 3097)]), .raw (.agg #[.int .i64 (2 * (1000 + radius.tmod 3097)), .int .i64 0, .int .i64 0, .int .i64 0, .int .i64 0, .int .i64 0]), .raw (.agg #[.int .i64 (rebound.tmod 951), .int .i64 0])] (.raw (.tuple #[.agg #[.int .i64 0, .int .i64 0, .int .i64 (m.tmod 16777217 - X), .int .i64 0, .int .i64 0, .int .i64 0], .agg #[.int .i64 (2 * (1000 + radius.tmod 3097)), .int .i64 0, .int .i64 X, .int .i64 0, .int .i64 0, .int .i64 0], .int .i64 0])))  : Ret cfg 9 [.raw (.int .u16 mass), .raw (.int .u16 radius), .raw (.int .u32 m), .raw (.int .u16 rebound)] (V.raw (Value.bool true)) := by
  have t1 := M.tmod_bd (d := 101) hm1 (by decide)
  have t2 := M.tmod_bd (d := 3097) hr1 (by decide)
  have t3 := M.tmod_bd (d := 16777217) hp1 (by decide)
  have t4 := M.tmod_bd (d := 951) hb1 (by decide)
  exact fn_of cfg_mixed cfg_call cfg_base.1 cfg_base.2.1 cfg_base.2.2 (n := 40) (ans := [Ans.go, Ans.ret (V.raw (Value.tuple { toList := [Value.agg { toList := [Value.int IntKind.i64 (0 : Int), Value.int IntKind.i64 (0 : Int), Value.int IntKind.i64 (m.tmod (16777217 : Int) - X), Value.int IntKind.i64 (0 : Int), Value.int IntKind.i64 (0 : Int), Value.int IntKind.i64 (0 : Int)] }, Value.agg { toList := [Value.int IntKind.i64 ((2 : Int) * ((1000 : Int) + radius.tmod (3097 : Int))), Value.int IntKind.i64 (0 : Int), Value.int IntKind.i64 X, Value.int IntKind.i64 (0 : Int), Value.int IntKind.i64 (0 : Int), Value.int IntKind.i64 (0 : Int)] }, Value.int IntKind.i64 (0 : Int)] })), Ans.br false, Ans.br true, Ans.br true, Ans.br true, Ans.br true, Ans.br true, Ans.br true, Ans.br true, Ans.br true, Ans.br true, Ans.br true, Ans.br true, Ans.ret (V.raw (Value.bool true)), Ans.br true]) (cons := [(inR IntKind.i64 mass), ((101 : Int) ≠ (0 : Int)), (inR IntKind.i64 ((400 : Int) + mass.tmod (101 : Int))), (inR IntKind.i64 radius), ((3097 : Int) ≠ (0 : Int)), (inR IntKind.i64 ((1000 : Int) + radius.tmod (3097 : Int))), (inR IntKind.i64 m), ((16777217 : Int) ≠ (0 : Int)), (inR IntKind.i64 rebound), ((951 : Int) ≠ (0 : Int)), (inR IntKind.i64 ((2 : Int) * ((1000 : Int) + radius.tmod (3097 : Int)))), (Ret cfg (28 : Nat) [V.raw (Value.agg { toList := [Value.int IntKind.i64 ((400 : Int) + mass.tmod (101 : Int)), Value.int IntKind.i64 ((1000 : Int) + radius.tmod (3097 : Int))] }), V.raw (Value.agg { toList := [Value.int IntKind.i64 (0 : Int), Value.int IntKind.i64 (0 : Int), Value.int IntKind.i64 (m.tmod (16777217 : Int)), Value.int IntKind.i64 (0 : Int), Value.int IntKind.i64 (0 : Int), Value.int IntKind.i64 (0 : Int)] }), V.raw (Value.agg { toList := [Value.int IntKind.i64 ((400 : Int) + mass.tmod (101 : Int)), Value.int IntKind.i64 ((1000 : Int) + radius.tmod (3097 : Int))] }), V.raw (Value.agg { toList := [Value.int IntKind.i64 ((2 : Int) * ((1000 : Int) + radius.tmod (3097 : Int))), Value.int IntKind.i64 (0 : Int), Value.int IntKind.i64 (0 : Int), Value.int IntKind.i64 (0 : Int), Value.int IntKind.i64 (0 : Int), Value.int IntKind.i64 (0 : Int)] }), V.raw (Value.agg { toList := [Value.int IntKind.i64 (rebound.tmod (951 : Int)), Value.int IntKind.i64 (0 : Int)] })] (V.raw (Value.tuple { toList := [Value.agg { toList := [Value.int IntKind.i64 (0 : Int), Value.int IntKind.i64 (0 : Int), Value.int IntKind.i64 (m.tmod (16777217 : Int) - X), Value.int IntKind.i64 (0 : Int), Value.int IntKind.i64 (0 : Int), Value.int IntKind.i64 (0 : Int)] }, Value.agg { toList := [Value.int IntKind.i64 ((2 : Int) * ((1000 : Int) + radius.tmod (3097 : Int))), Value.int IntKind.i64 (0 : Int), Value.int IntKind.i64 X, Value.int IntKind.i64 (0 : Int), Value.int IntKind.i64 (0 : Int), Value.int IntKind.i64 (0 : Int)] }, Value.int IntKind.i64 (0 : Int)] }))), (decide (m.tmod (16777217 : Int) = (0 : Int)) = false), (true = true), (true = true), (true = true), (true = true), (true = true), (inR IntKind.i64 (m.tmod (16777217 : Int) - X + X)), (true = true), (decide (m.tmod (16777217 : Int) - X + X = m.tmod (16777217 : Int)) = true), (true = true), (decide ((0 : Int) ≤ m.tmod (16777217 : Int) - X) = true), (inR IntKind.i64 (m.tmod (16777217 : Int) - X - (24 : Int))), (inR IntKind.i64 ((2000 : Int) * (m.tmod (16777217 : Int) - X - (24 : Int)))), (inR IntKind.i64 ((1000 : Int) - rebound.tmod (951 : Int))), (inR IntKind.i64 (((1000 : Int) - rebound.tmod (951 : Int)) * m.tmod (16777217 : Int))), (true = true), (decide ((2000 : Int) * (m.tmod (16777217 : Int) - X - (24 : Int)) ≤ ((1000 : Int) - rebound.tmod (951 : Int)) * m.tmod (16777217 : Int)) = true), (Ret cfg (13 : Nat) [] (V.raw (Value.bool true))), (true = true)]) (by kernel_rfl) rfl rfl
    ⟨inR_i64 (by omega) (by omega), (by first | assumption | omega | (simp; omega) | (simp_all; done) | (simp_all; omega)), inR_i64 (by omega) (by omega), inR_i64 (by omega) (by omega), (by first | assumption | omega | (simp; omega) | (simp_all; done) | (simp_all; omega)), inR_i64 (by omega) (by omega), inR_i64 (by omega) (by omega), (by first | assumption | omega | (simp; omega) | (simp_all; done) | (simp_all; omega)), inR_i64 (by omega) (by omega), (by first | assumption | omega | (simp; omega) | (simp_all; done) | (simp_all; omega)), inR_i64 (by omega) (by omega), (hB), (by first | assumption | omega | (simp; omega) | (simp_all; done) | (simp_all; omega)), rfl, rfl, rfl, rfl, rfl, inR_i64 (by omega) (by omega), rfl, (by first | assumption | omega | (simp; omega) | (simp_all; done) | (simp_all; omega)), rfl, (by first | assumption | omega | (simp; omega) | (simp_all; done) | (simp_all; omega)), inR_i64 (by omega) (by omega), inR_i64 (by omega) (by omega), inR_i64 (by omega) (by omega), inR_i64 (by omega) (by omega), rfl, (by first | assumption | omega | (simp; omega) | (simp_all; done) | (simp_all; omega)), (fine), rfl, trivial⟩
set_option maxRecDepth 100000 in
theorem straight_no (mass radius m rebound  : Int) (hm1 : 0 ≤ mass) (hm2 : mass ≤ 65535) (hr1 : 0 ≤ radius) (hr2 : radius ≤ 65535) (hp1 : 0 ≤ m) (hp2 : m ≤ 4294967295) (hb1 : 0 ≤ rebound) (hb2 : rebound ≤ 65535) (hz : m.tmod 16777217 = 0) (hB : Ret cfg 28 [.raw (.agg #[.int .i64 (400 + mass.tmod 101), .int .i64 (1000 + radius.tmod 3097)]), .raw (.agg #[.int .i64 0, .int .i64 0, .int .i64 (m.tmod 16777217), .int .i64 0, .int .i64 0, .int .i64 0]), .raw (.agg #[.int .i64 (400 + mass.tmod 101), .int .i64 (1000 + radius.tmod 3097)]), .raw (.agg #[.int .i64 (2 * (1000 + radius.tmod 3097)), .int .i64 0, .int .i64 0, .int .i64 0, .int .i64 0, .int .i64 0]), .raw (.agg #[.int .i64 (rebound.tmod 951), .int .i64 0])] (.raw (.tuple #[.agg #[.int .i64 0, .int .i64 0, .int .i64 0, .int .i64 0, .int .i64 0, .int .i64 0], .agg #[.int .i64 0, .int .i64 0, .int .i64 0, .int .i64 0, .int .i64 0, .int .i64 0], .int .i64 10])))  : Ret cfg 9 [.raw (.int .u16 mass), .raw (.int .u16 radius), .raw (.int .u32 m), .raw (.int .u16 rebound)] (V.raw (Value.bool true)) := by
  have t1 := M.tmod_bd (d := 101) hm1 (by decide)
  have t2 := M.tmod_bd (d := 3097) hr1 (by decide)
  have t3 := M.tmod_bd (d := 16777217) hp1 (by decide)
  have t4 := M.tmod_bd (d := 951) hb1 (by decide)
  exact fn_of cfg_mixed cfg_call cfg_base.1 cfg_base.2.1 cfg_base.2.2 (n := 40) (ans := [Ans.go, Ans.ret (V.raw (Value.tuple { toList := [Value.agg { toList := [Value.int IntKind.i64 (0 : Int), Value.int IntKind.i64 (0 : Int), Value.int IntKind.i64 (0 : Int), Value.int IntKind.i64 (0 : Int), Value.int IntKind.i64 (0 : Int), Value.int IntKind.i64 (0 : Int)] }, Value.agg { toList := [Value.int IntKind.i64 (0 : Int), Value.int IntKind.i64 (0 : Int), Value.int IntKind.i64 (0 : Int), Value.int IntKind.i64 (0 : Int), Value.int IntKind.i64 (0 : Int), Value.int IntKind.i64 (0 : Int)] }, Value.int IntKind.i64 (10 : Int)] })), Ans.br true, Ans.br true, Ans.ret (V.raw (Value.bool true)), Ans.br true]) (cons := [(inR IntKind.i64 mass), ((101 : Int) ≠ (0 : Int)), (inR IntKind.i64 ((400 : Int) + mass.tmod (101 : Int))), (inR IntKind.i64 radius), ((3097 : Int) ≠ (0 : Int)), (inR IntKind.i64 ((1000 : Int) + radius.tmod (3097 : Int))), (inR IntKind.i64 m), ((16777217 : Int) ≠ (0 : Int)), (inR IntKind.i64 rebound), ((951 : Int) ≠ (0 : Int)), (inR IntKind.i64 ((2 : Int) * ((1000 : Int) + radius.tmod (3097 : Int)))), (Ret cfg (28 : Nat) [V.raw (Value.agg { toList := [Value.int IntKind.i64 ((400 : Int) + mass.tmod (101 : Int)), Value.int IntKind.i64 ((1000 : Int) + radius.tmod (3097 : Int))] }), V.raw (Value.agg { toList := [Value.int IntKind.i64 (0 : Int), Value.int IntKind.i64 (0 : Int), Value.int IntKind.i64 (m.tmod (16777217 : Int)), Value.int IntKind.i64 (0 : Int), Value.int IntKind.i64 (0 : Int), Value.int IntKind.i64 (0 : Int)] }), V.raw (Value.agg { toList := [Value.int IntKind.i64 ((400 : Int) + mass.tmod (101 : Int)), Value.int IntKind.i64 ((1000 : Int) + radius.tmod (3097 : Int))] }), V.raw (Value.agg { toList := [Value.int IntKind.i64 ((2 : Int) * ((1000 : Int) + radius.tmod (3097 : Int))), Value.int IntKind.i64 (0 : Int), Value.int IntKind.i64 (0 : Int), Value.int IntKind.i64 (0 : Int), Value.int IntKind.i64 (0 : Int), Value.int IntKind.i64 (0 : Int)] }), V.raw (Value.agg { toList := [Value.int IntKind.i64 (rebound.tmod (951 : Int)), Value.int IntKind.i64 (0 : Int)] })] (V.raw (Value.tuple { toList := [Value.agg { toList := [Value.int IntKind.i64 (0 : Int), Value.int IntKind.i64 (0 : Int), Value.int IntKind.i64 (0 : Int), Value.int IntKind.i64 (0 : Int), Value.int IntKind.i64 (0 : Int), Value.int IntKind.i64 (0 : Int)] }, Value.agg { toList := [Value.int IntKind.i64 (0 : Int), Value.int IntKind.i64 (0 : Int), Value.int IntKind.i64 (0 : Int), Value.int IntKind.i64 (0 : Int), Value.int IntKind.i64 (0 : Int), Value.int IntKind.i64 (0 : Int)] }, Value.int IntKind.i64 (10 : Int)] }))), (decide (m.tmod (16777217 : Int) = (0 : Int)) = true), (true = true), (Ret cfg (13 : Nat) [] (V.raw (Value.bool true))), (true = true)]) (by kernel_rfl) rfl rfl
    ⟨inR_i64 (by omega) (by omega), (by first | assumption | omega | (simp; omega) | (simp_all; done) | (simp_all; omega)), inR_i64 (by omega) (by omega), inR_i64 (by omega) (by omega), (by first | assumption | omega | (simp; omega) | (simp_all; done) | (simp_all; omega)), inR_i64 (by omega) (by omega), inR_i64 (by omega) (by omega), (by first | assumption | omega | (simp; omega) | (simp_all; done) | (simp_all; omega)), inR_i64 (by omega) (by omega), (by first | assumption | omega | (simp; omega) | (simp_all; done) | (simp_all; omega)), inR_i64 (by omega) (by omega), (hB), (by first | assumption | omega | (simp; omega) | (simp_all; done) | (simp_all; omega)), rfl, (fine), rfl, trivial⟩

theorem M.straight_all {N R p rb : Int} (hM : 400 ≤ N ∧ N ≤ 500) (hR : 1000 ≤ R ∧ R ≤ 4096) (hp : 0 ≤ p ∧ p ≤ 16777216) (hr : 0 ≤ rb ∧ rb ≤ 950) :
    (p = 0 → M.BE N R 0 0 p 0 0 0 N R (2 * R) 0 0 0 0 0 rb 0 = 10) ∧ (0 < p → ∃ X, M.BE N R 0 0 p 0 0 0 N R (2 * R) 0 0 0 0 0 rb 0 = 0 ∧ M.KX N R 0 0 p 0 0 0 N R (2 * R) 0 0 0 0 0 rb 0 = X ∧ M.KY N R 0 0 p 0 0 0 N R (2 * R) 0 0 0 0 0 rb 0 = 0 ∧ 0 ≤ X ∧ X ≤ p ∧ (1000 + rb) * p ≤ 2000 * X + 48000) := by
  have h1 : M.motB N R 0 0 p 0 0 0 = true := by simp only [M.motB, M.ballB, M.placeB, M.momB, M.restB, Bool.and_eq_true, M.btw_iff]; omega
  have h2 : M.motB N R (2 * R) 0 0 0 0 0 = true := by simp only [M.motB, M.ballB, M.placeB, M.momB, M.restB, Bool.and_eq_true, M.btw_iff]; omega
  have hx : M.bncB rb 0 = true := by simp only [M.bncB, Bool.and_eq_true, M.btw_iff]; omega
  have hg := M.KE_good h1 h2 hx
  have es : M.sq 0 0 (2 * R) 0 = 4 * (R * R) := by unfold M.sq; grind
  have hn : M.nearB (M.sq 0 0 (2 * R) 0) (R + R) = true := by
    have e1 : (R + R) * (R + R) = 4 * (R * R) := by grind
    have e2 : 225 * (R + R) * (R + R) = 900 * (R * R) := by grind
    have e3 := M.sq_nonneg R
    simp only [M.nearB, Bool.and_eq_true, decide_eq_true_eq]
    rw [es, e1, e2]
    omega
  rw [hn] at hg
  have ed : (N * p - N * 0) * (2 * R - 0) + (N * 0 - N * 0) * (0 - 0) = 2 * R * (N * p) := by grind
  rw [ed] at hg
  constructor
  · intro h0
    subst h0
    have : M.KE N R 0 0 0 0 0 0 N R (2 * R) 0 0 0 0 0 rb 0 = 10 := by rw [hg]; simp [M.kickE]
    unfold M.BE
    rw [this]
    rfl
  · intro h0
    have hpos : 0 < 2 * R * (N * p) := Int.mul_pos (by omega) (Int.mul_pos (by omega) h0)
    have hk : M.KE N R 0 0 p 0 0 0 N R (2 * R) 0 0 0 0 0 rb 0 = 0 := by rw [hg]; unfold M.kickE; rw [if_pos rfl, if_pos hpos]
    obtain ⟨X, eX, eY, x0, x1, x2⟩ := M.straight hM hR ⟨h0, hp.2⟩ hr
    have kX : M.KX N R 0 0 p 0 0 0 N R (2 * R) 0 0 0 0 0 rb 0 = X := by unfold M.KX; rw [if_pos hk]; exact eX
    have kY : M.KY N R 0 0 p 0 0 0 N R (2 * R) 0 0 0 0 0 rb 0 = 0 := by unfold M.KY; rw [if_pos hk]; exact eY
    refine ⟨X, ?_, kX, kY, x0, x1, x2⟩
    unfold M.BE
    rw [if_pos hk, kX, kY, if_pos]
    simp only [M.momB, Bool.and_eq_true, M.btw_iff]
    omega
theorem contactStraight (mass radius m rebound : Int) (hm1 : 0 ≤ mass) (hm2 : mass ≤ 65535) (hr1 : 0 ≤ radius) (hr2 : radius ≤ 65535) (hp1 : 0 ≤ m) (hp2 : m ≤ 4294967295) (hb1 : 0 ≤ rebound) (hb2 : rebound ≤ 65535) :
    Ret cfg 9 [.raw (.int .u16 mass), .raw (.int .u16 radius), .raw (.int .u32 m), .raw (.int .u16 rebound)] (.raw (.bool true)) := by
  have t1 := M.tmod_bd (d := 101) hm1 (by decide)
  have t2 := M.tmod_bd (d := 3097) hr1 (by decide)
  have t3 := M.tmod_bd (d := 16777217) hp1 (by decide)
  have t4 := M.tmod_bd (d := 951) hb1 (by decide)
  obtain ⟨g1, g2⟩ := M.straight_all (N := 400 + mass.tmod 101) (R := 1000 + radius.tmod 3097) (p := m.tmod 16777217) (rb := rebound.tmod 951) (by omega) (by omega) (by omega) (by omega)
  by_cases hz : m.tmod 16777217 = 0
  · have hE := g1 hz
    have hB := bounce_bad (show ¬ M.BE (400 + mass.tmod 101) (1000 + radius.tmod 3097) 0 0 (m.tmod 16777217) 0 0 0 (400 + mass.tmod 101) (1000 + radius.tmod 3097) (2 * (1000 + radius.tmod 3097)) 0 0 0 0 0 (rebound.tmod 951) 0 = 0 by rw [hE]; decide)
    rw [hE] at hB
    exact straight_no mass radius m rebound hm1 hm2 hr1 hr2 hp1 hp2 hb1 hb2 hz hB
  · obtain ⟨X, hE, kX, kY, x0, x1, x2⟩ := g2 (by omega)
    have hB := bounce_ok hE
    rw [kX, kY, Int.sub_zero, Int.zero_add, Int.add_zero] at hB
    have e1 : (1000 - rebound.tmod 951) * m.tmod 16777217 = 2000 * m.tmod 16777217 - (1000 + rebound.tmod 951) * m.tmod 16777217 := by grind
    have b1 : 0 ≤ (1000 + rebound.tmod 951) * m.tmod 16777217 ∧ (1000 + rebound.tmod 951) * m.tmod 16777217 ≤ 1950 * 16777216 := M.mul_range _ _ _ _ (by omega) (by omega) (by omega) (by omega)
    exact straight_ok mass radius m rebound X hm1 hm2 hr1 hr2 hp1 hp2 hb1 hb2 hz x0 x1 (by omega) (by omega) (by omega) hB

end Go.Proofs.Ytlgabdamgalngaa
