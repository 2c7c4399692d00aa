/-
  TurfContact: whatever the spots, the law returns true (its walk).
-/
import Derived.Test.YtfcjdmpfoogljaaDoorContactA
import Derived.Test.YtfcjdmpfoogljaaDoorContactB
set_option linter.unusedVariables false
set_option linter.unusedSimpArgs false
namespace Go.Proofs.YtfcjdmpfoogljaaDoor
open Go.ChangeShapes Go.WideShapes Go.ChangeAt Go.RowKit

theorem contact_walk (p0 p1 v0 v1 q0 q1 u0 u1 s r n : Int) (w : World) (ht : Tab w) (a1 : -32768 ≤ p0) (a2 : p0 ≤ 32767) (a3 : -32768 ≤ p1) (a4 : p1 ≤ 32767) (b1 : -32768 ≤ v0) (b2 : v0 ≤ 32767) (b3 : -32768 ≤ v1) (b4 : v1 ≤ 32767) (c1 : -32768 ≤ q0) (c2 : q0 ≤ 32767) (c3 : -32768 ≤ q1) (c4 : q1 ≤ 32767) (d1 : -32768 ≤ u0) (d2 : u0 ≤ 32767) (d3 : -32768 ≤ u1) (d4 : u1 ≤ 32767) (s1 : 0 ≤ s) (s2 : s ≤ 255) (r1 : 0 ≤ r) (r2 : r ≤ 65535) (n1 : 0 ≤ n) (n2 : n ≤ 255) :
    Calls Tryd.prog 11 #[.agg #[.int .i16 p0, .int .i16 p1], .agg #[.int .i16 v0, .int .i16 v1], .agg #[.int .i16 q0, .int .i16 q1], .agg #[.int .i16 u0, .int .i16 u1], .int .u8 s, .int .u16 r, .int .u8 n] w fun e w' => e = .returned (.bool true) ∧ Below w.heap.size w w' := by
  obtain ⟨m, hm⟩ := M.first_ex (q0 * M.scale s - p0 * M.scale s) (u0 * M.scale s - v0 * M.scale s) (q1 * M.scale s - p1 * M.scale s) (u1 * M.scale s - v1 * M.scale s) r (1 + n % 100) (by omega)
  by_cases h : (m : Int) ≤ 1 + n % 100
  · exact contact_in p0 p1 v0 v1 q0 q1 u0 u1 s r n w ht a1 a2 a3 a4 b1 b2 b3 b4 c1 c2 c3 c4 d1 d2 d3 d4 s1 s2 r1 r2 n1 n2 m hm h
  · exact contact_out p0 p1 v0 v1 q0 q1 u0 u1 s r n w ht a1 a2 a3 a4 b1 b2 b3 b4 c1 c2 c3 c4 d1 d2 d3 d4 s1 s2 r1 r2 n1 n2 m hm (by have := hm.1; omega)
end Go.Proofs.YtfcjdmpfoogljaaDoor
