/-
  TurfTowards: whatever the spots, the scale and the length, the law returns true (its walk).
-/
import Derived.Test.YtfcjdmpfoogljaaDoorTwA
import Derived.Test.YtfcjdmpfoogljaaDoorTwB
import Derived.Test.YtfcjdmpfoogljaaDoorTwC
import Derived.Test.YtfcjdmpfoogljaaDoorTwD
import Derived.Test.YtfcjdmpfoogljaaDoorTwE
set_option linter.unusedVariables false
set_option linter.unusedSimpArgs false
namespace Go.Proofs.YtfcjdmpfoogljaaDoor
open Go.ChangeShapes Go.WideShapes Go.ChangeAt Go.RowKit

theorem towards_walk (s0 s1 t0 t1 m l : Int) (w : World) (ht : Tab w) (a1 : -32768 ≤ s0) (a2 : s0 ≤ 32767) (a3 : -32768 ≤ s1) (a4 : s1 ≤ 32767) (b1 : -32768 ≤ t0) (b2 : t0 ≤ 32767) (b3 : -32768 ≤ t1) (b4 : t1 ≤ 32767) (m1 : 0 ≤ m) (m2 : m ≤ 255) (l1 : 0 ≤ l) (l2 : l ≤ 4294967295) :
    Calls Tryd.prog 12 #[.agg #[.int .i16 s0, .int .i16 s1], .agg #[.int .i16 t0, .int .i16 t1], .int .u8 m, .int .u32 l] w fun e w' => e = .returned (.bool true) ∧ Below w.heap.size w w' := by
  have hP := M.at_in s0 s1 m a1 a2 a3 a4
  have hQ := M.at_in t0 t1 m b1 b2 b3 b4
  have AT1 := fun w => at_any s0 s1 m w a1 a2 a3 a4 m1 m2
  have AT2 := fun w => at_any t0 t1 m w b1 b2 b3 b4 m1 m2
  have N1 : 0 ≤ l % 2097152 := by omega
  have N2 : l % 2097152 ≤ 4194304 := by omega
  generalize s0 * M.scale m = P0 at *
  generalize s1 * M.scale m = P1 at *
  generalize t0 * M.scale m = Q0 at *
  generalize t1 * M.scale m = Q1 at *
  by_cases he : P0 = Q0 ∧ P1 = Q1
  · obtain ⟨rfl, rfl⟩ := he
    exact tw_zero s0 s1 t0 t1 m l P0 P1 0 0 w ht l1 l2 AT1 AT2 (fun w => Towards_zero P0 P1 _ w hP N1 N2)
  · have hS := M.sq_bd hP hQ
    obtain ⟨d, hd⟩ := M.root_ex (4096 * M.sq P0 P1 Q0 Q1) (by omega)
    have SQ := fun w => Square_ok P0 P1 Q0 Q1 w hP hQ
    rcases towards_mid P0 P1 Q0 Q1 (l % 2097152) d hP hQ N1 N2 he hd with ⟨hX, b⟩ | b
    · by_cases h256 : 256 * M.sq P0 P1 Q0 Q1 < (l % 2097152) * (l % 2097152)
      · by_cases hp : P0 = Q0
        · subst hp
          exact tw_near0 s0 s1 t0 t1 m l P0 P1 Q1 _ _ _ 0 w ht l1 l2 AT1 AT2 b.1 (fun h => he ⟨rfl, h⟩) SQ hS.1 hS.2 h256
        · exact tw_near s0 s1 t0 t1 m l P0 P1 Q0 Q1 _ _ _ 0 w ht l1 l2 AT1 AT2 b.1 hp SQ hS.1 hS.2 h256
      · have h256' : (l % 2097152) * (l % 2097152) ≤ 256 * M.sq P0 P1 Q0 Q1 := by omega
        obtain ⟨f1, f2, f3⟩ := M.tow_facts P0 P1 Q0 Q1 (l % 2097152) d hP hQ he hd N1 h256'
        have SX := fun w => Square_ok _ _ Q0 Q1 w hX hQ
        by_cases h4 : l % 2097152 < 4
        · by_cases hp : P0 = Q0
          · subst hp
            exact tw_small0 s0 s1 t0 t1 m l P0 P1 Q1 _ _ _ _ w ht l1 l2 AT1 AT2 b.1 (fun h => he ⟨rfl, h⟩) SQ hS.1 hS.2 h256' SX f1 f2 h4
          · exact tw_small s0 s1 t0 t1 m l P0 P1 Q0 Q1 _ _ _ _ w ht l1 l2 AT1 AT2 b.1 hp SQ hS.1 hS.2 h256' SX f1 f2 h4
        · have f4 := f3.resolve_left h4
          by_cases hp : P0 = Q0
          · subst hp
            exact tw_large0 s0 s1 t0 t1 m l P0 P1 Q1 _ _ _ _ w ht l1 l2 AT1 AT2 b.1 (fun h => he ⟨rfl, h⟩) SQ hS.1 hS.2 h256' SX f1 f2 (by omega) (by rw [show P0 - P0 = 0 by omega, Int.mul_zero, Int.zero_add] at f4; exact f4) hP hQ hX
          · exact tw_large s0 s1 t0 t1 m l P0 P1 Q0 Q1 _ _ _ _ w ht l1 l2 AT1 AT2 b.1 hp SQ hS.1 hS.2 h256' SX f1 f2 (by omega) f4 hP hQ hX
    · by_cases hp : P0 = Q0
      · subst hp
        exact tw_over0 s0 s1 t0 t1 m l P0 P1 Q1 0 0 _ 0 w ht l1 l2 AT1 AT2 b.1 (fun h => he ⟨rfl, h⟩) SQ hS.1 hS.2
      · exact tw_over s0 s1 t0 t1 m l P0 P1 Q0 Q1 0 0 _ 0 w ht l1 l2 AT1 AT2 b.1 hp SQ hS.1 hS.2
end Go.Proofs.YtfcjdmpfoogljaaDoor
