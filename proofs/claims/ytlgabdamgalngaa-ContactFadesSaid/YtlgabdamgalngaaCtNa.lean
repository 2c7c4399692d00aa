/-
  Layer 3: a bounce, done or refused; the checks.
-/
import Derived.Test.YtlgabdamgalngaaCtFi
import Derived.Test.YtlgabdamgalngaaCtV
import Derived.Test.YtlgabdamgalngaaCtX
import Derived.Test.YtlgabdamgalngaaCtZ
import Derived.Test.YtlgabdamgalngaaCtMa
set_option linter.unusedVariables false
set_option linter.unusedSimpArgs false
namespace Go.Proofs.Ytlgabdamgalngaa
open Go Go.RowKit Go.Proofs.Ytlgabdamgalngaa.E

theorem bounce_ok {m1 r1 a1 b1 u1 v1 p1 q1 m2 r2 a2 b2 u2 v2 p2 q2 rb dg : Int} (h : M.BE m1 r1 a1 b1 u1 v1 p1 q1 m2 r2 a2 b2 u2 v2 p2 q2 rb dg = 0) : Ret cfg 28 [.raw (.agg #[.int .i64 m1, .int .i64 r1]), .raw (.agg #[.int .i64 a1, .int .i64 b1, .int .i64 u1, .int .i64 v1, .int .i64 p1, .int .i64 q1]), .raw (.agg #[.int .i64 m2, .int .i64 r2]), .raw (.agg #[.int .i64 a2, .int .i64 b2, .int .i64 u2, .int .i64 v2, .int .i64 p2, .int .i64 q2]), .raw (.agg #[.int .i64 rb, .int .i64 dg])] (.raw (.tuple #[.agg #[.int .i64 a1, .int .i64 b1, .int .i64 (u1 - M.KX m1 r1 a1 b1 u1 v1 p1 q1 m2 r2 a2 b2 u2 v2 p2 q2 rb dg), .int .i64 (v1 - M.KY m1 r1 a1 b1 u1 v1 p1 q1 m2 r2 a2 b2 u2 v2 p2 q2 rb dg), .int .i64 p1, .int .i64 q1], .agg #[.int .i64 a2, .int .i64 b2, .int .i64 (u2 + M.KX m1 r1 a1 b1 u1 v1 p1 q1 m2 r2 a2 b2 u2 v2 p2 q2 rb dg), .int .i64 (v2 + M.KY m1 r1 a1 b1 u1 v1 p1 q1 m2 r2 a2 b2 u2 v2 p2 q2 rb dg), .int .i64 p2, .int .i64 q2], .int .i64 0])) := by
  have h' := bounceAny m1 r1 a1 b1 u1 v1 p1 q1 m2 r2 a2 b2 u2 v2 p2 q2 rb dg
  have e : ∀ x, M.sel (M.BE m1 r1 a1 b1 u1 v1 p1 q1 m2 r2 a2 b2 u2 v2 p2 q2 rb dg) x = x := fun x => if_pos h
  simp only [e] at h'
  rw [h] at h'
  exact h'
theorem bounce_bad {m1 r1 a1 b1 u1 v1 p1 q1 m2 r2 a2 b2 u2 v2 p2 q2 rb dg : Int} (h : ¬ M.BE m1 r1 a1 b1 u1 v1 p1 q1 m2 r2 a2 b2 u2 v2 p2 q2 rb dg = 0) : Ret cfg 28 [.raw (.agg #[.int .i64 m1, .int .i64 r1]), .raw (.agg #[.int .i64 a1, .int .i64 b1, .int .i64 u1, .int .i64 v1, .int .i64 p1, .int .i64 q1]), .raw (.agg #[.int .i64 m2, .int .i64 r2]), .raw (.agg #[.int .i64 a2, .int .i64 b2, .int .i64 u2, .int .i64 v2, .int .i64 p2, .int .i64 q2]), .raw (.agg #[.int .i64 rb, .int .i64 dg])] (.raw (.tuple #[.agg #[.int .i64 0, .int .i64 0, .int .i64 0, .int .i64 0, .int .i64 0, .int .i64 0], .agg #[.int .i64 0, .int .i64 0, .int .i64 0, .int .i64 0, .int .i64 0, .int .i64 0], .int .i64 (M.BE m1 r1 a1 b1 u1 v1 p1 q1 m2 r2 a2 b2 u2 v2 p2 q2 rb dg)])) := by
  have h' := bounceAny m1 r1 a1 b1 u1 v1 p1 q1 m2 r2 a2 b2 u2 v2 p2 q2 rb dg
  have e : ∀ x, M.sel (M.BE m1 r1 a1 b1 u1 v1 p1 q1 m2 r2 a2 b2 u2 v2 p2 q2 rb dg) x = 0 := fun x => if_neg h
  simp only [e] at h'
  exact h'
theorem kick_ok {m1 r1 a1 b1 u1 v1 p1 q1 m2 r2 a2 b2 u2 v2 p2 q2 rb dg : Int} (h : M.KE m1 r1 a1 b1 u1 v1 p1 q1 m2 r2 a2 b2 u2 v2 p2 q2 rb dg = 0) : Ret cfg 26 [.raw (.agg #[.int .i64 m1, .int .i64 r1]), .raw (.agg #[.int .i64 a1, .int .i64 b1, .int .i64 u1, .int .i64 v1, .int .i64 p1, .int .i64 q1]), .raw (.agg #[.int .i64 m2, .int .i64 r2]), .raw (.agg #[.int .i64 a2, .int .i64 b2, .int .i64 u2, .int .i64 v2, .int .i64 p2, .int .i64 q2]), .raw (.agg #[.int .i64 rb, .int .i64 dg])] (.raw (.tuple #[.agg #[.int .i64 (M.KX m1 r1 a1 b1 u1 v1 p1 q1 m2 r2 a2 b2 u2 v2 p2 q2 rb dg), .int .i64 (M.KY m1 r1 a1 b1 u1 v1 p1 q1 m2 r2 a2 b2 u2 v2 p2 q2 rb dg)], .int .i64 0])) := by
  have h' := kickAny m1 r1 a1 b1 u1 v1 p1 q1 m2 r2 a2 b2 u2 v2 p2 q2 rb dg
  rw [h] at h'
  exact h'
theorem work_good {m1 r1 a1 b1 u1 v1 p1 q1 m2 r2 a2 b2 u2 v2 p2 q2 : Int} (h : M.WE m1 r1 a1 b1 u1 v1 p1 q1 m2 r2 a2 b2 u2 v2 p2 q2 = 0) : Ret cfg 32 [.raw (.agg #[.int .i64 m1, .int .i64 r1]), .raw (.agg #[.int .i64 a1, .int .i64 b1, .int .i64 u1, .int .i64 v1, .int .i64 p1, .int .i64 q1]), .raw (.agg #[.int .i64 m2, .int .i64 r2]), .raw (.agg #[.int .i64 a2, .int .i64 b2, .int .i64 u2, .int .i64 v2, .int .i64 p2, .int .i64 q2])] (.raw (.tuple #[.int .i64 (M.WK m1 r1 a1 b1 u1 v1 p1 q1 m2 r2 a2 b2 u2 v2 p2 q2), .int .i64 0])) := by
  have h' := work m1 r1 a1 b1 u1 v1 p1 q1 m2 r2 a2 b2 u2 v2 p2 q2
  rw [h] at h'
  exact h'

end Go.Proofs.Ytlgabdamgalngaa
