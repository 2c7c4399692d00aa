/-
  For all balls, motions, bounces, ticks, momenta and losses: roquetlaw03.ContactSteps returns true, and leaves its arguments as they were. No condition.
-/
import Derived.Test.YtlgabdamgalngaaCtLu
import Derived.Test.YtlgabdamgalngaaKitF
import Derived.Test.YtlgabdamgalngaaOwn
set_option linter.unusedVariables false
set_option linter.unusedSimpArgs false
namespace Go.Proofs.Ytlgabdamgalngaa
open Go Go.ChangeShapes Go.WideShapes Go.ChangeAt Go.RowKit

namespace contactSteps
theorem readable : ∀ t ∈ Try.f3.params.toList, Try.prog.readableRec t = true ∧ t < Try.prog.types.size := fun t ht => by
  have h := List.all_eq_true.1 (show (Try.f3.params.toList.all fun t => Try.prog.readableRec t && decide (t < Try.prog.types.size)) = true by kernel_rfl) t ht
  rw [Bool.and_eq_true, decide_eq_true_eq] at h
  exact h
set_option maxRecDepth 100000 in
/-- From the reckoning to what the row says, for every argument and every world. -/
theorem contract (H : Type) (enc : TypeId × Value → H) (W : World) (base : Nat) (args : Array Value) (ds gs : List (DataW H)) (before : List MemPlace)
    (hval : ∀ (j : Nat) t v, Try.f3.params[j]? = some t → args[j]? = some v → Value.okWide Try.prog W .any base t v)
    (hW : DataW.Whole enc Try.prog Try.f3.params.toList Rows.contactStepsSpec.vars false W args.toList ds gs before) :
    Calls Try.prog 3 args W fun e W' => ∃ v, e = .returned v ∧ Rows.contactStepsSpec.post enc Try.prog Try.f3 false true false false W args v W' := by
  have hW' := hW
  obtain ⟨p, q, hA0, hV, rfl, hfz, hnd⟩ := hW
  have hA : DataW.TrodAll enc Try.prog W 0 (fun _ => true) true Try.f3.params.toList args.toList ds p := hA0
  rw [Try.params3] at hA hval
  obtain ⟨v0, vs0, d0, ds0, p0, q0, hargs, rfl, rfl, h0, r0⟩ := trodAll_cons hA
  obtain ⟨v1, vs1, d1, ds1, p1, q1, rfl, rfl, rfl, h1, r1⟩ := trodAll_cons r0
  obtain ⟨v2, vs2, d2, ds2, p2, q2, rfl, rfl, rfl, h2, r2⟩ := trodAll_cons r1
  obtain ⟨v3, vs3, d3, ds3, p3, q3, rfl, rfl, rfl, h3, r3⟩ := trodAll_cons r2
  obtain ⟨v4, vs4, d4, ds4, p4, q4, rfl, rfl, rfl, h4, r4⟩ := trodAll_cons r3
  obtain ⟨v5, vs5, d5, ds5, p5, q5, rfl, rfl, rfl, h5, r5⟩ := trodAll_cons r4
  obtain ⟨rfl, rfl, rfl⟩ := trodAll_nil r5
  obtain rfl : args = #[v0, v1, v2, v3, v4, v5] := by cases args; simp_all
  obtain ⟨rfl, rfl⟩ := trodVars_none hV
  obtain ⟨c0, rfl, g0⟩ := K.flat_open Try.underlying23 (show K.flatK Try.prog 9 23 = some [some .i64, some .i64] by kernel_rfl) (hval 0 23 v0 rfl rfl) h0
  obtain ⟨b0, zb0, rfl, xb0, b1, zb1, rfl, xb1, rfl⟩ := g0
  have yb0 := bounds_i64 xb0
  have yb1 := bounds_i64 xb1
  obtain ⟨c1, rfl, g1⟩ := K.flat_open Try.underlying27 (show K.flatK Try.prog 9 27 = some [some .i64, some .i64, some .i64, some .i64, some .i64, some .i64] by kernel_rfl) (hval 1 27 v1 rfl rfl) h1
  obtain ⟨s0, zs0, rfl, xs0, s1, zs1, rfl, xs1, s2, zs2, rfl, xs2, s3, zs3, rfl, xs3, s4, zs4, rfl, xs4, s5, zs5, rfl, xs5, rfl⟩ := g1
  have ys0 := bounds_i64 xs0
  have ys1 := bounds_i64 xs1
  have ys2 := bounds_i64 xs2
  have ys3 := bounds_i64 xs3
  have ys4 := bounds_i64 xs4
  have ys5 := bounds_i64 xs5
  obtain ⟨c2, rfl, g2⟩ := K.flat_open Try.underlying29 (show K.flatK Try.prog 9 29 = some [some .i64, some .i64] by kernel_rfl) (hval 2 29 v2 rfl rfl) h2
  obtain ⟨x0, zx0, rfl, xx0, x1, zx1, rfl, xx1, rfl⟩ := g2
  have yx0 := bounds_i64 xx0
  have yx1 := bounds_i64 xx1
  obtain ⟨t, rfl, _, _, xt⟩ := open_int Try.underlying3 (hval 3 3 v3 rfl rfl) h3
  have yt := bounds_i64 xt
  obtain ⟨c4, rfl, g4⟩ := K.flat_open Try.underlying25 (show K.flatK Try.prog 9 25 = some [some .i64, some .i64] by kernel_rfl) (hval 4 25 v4 rfl rfl) h4
  obtain ⟨m0, zm0, rfl, xm0, m1, zm1, rfl, xm1, rfl⟩ := g4
  have ym0 := bounds_i64 xm0
  have ym1 := bounds_i64 xm1
  obtain ⟨l, rfl, _, _, xl⟩ := open_int Try.underlying2 (hval 5 2 v5 rfl rfl) h5
  have yl := bounds_i64 xl
  clear hA0
  have hR := E.calls_of_fn (c := cfg) (args := [.agg #[.int .i64 b0, .int .i64 b1], .agg #[.int .i64 s0, .int .i64 s1, .int .i64 s2, .int .i64 s3, .int .i64 s4, .int .i64 s5], .agg #[.int .i64 x0, .int .i64 x1], .int .i64 t, .agg #[.int .i64 m0, .int .i64 m1], .int .i64 l]) (x := .bool true) rfl rfl (contactSteps b0 b1 s0 s1 s2 s3 s4 s5 x0 x1 t m0 m1 l ) W
  refine Calls.mono hR fun e W' hw => ?_
  exact ⟨_, hw.1, K.law_post laidOut readable (by kernel_rfl) Try.underlying4 rfl hW' rfl hw.2⟩

theorem laid_met (os : Os) : laidMet Try.prog Rows.contactStepsRow.laid ((laidWorld os).forCall (fun _ _ => 0) ⟨#[], #[.agg #[.int .i64 0, .int .i64 0], .agg #[.int .i64 0, .int .i64 0, .int .i64 0, .int .i64 0, .int .i64 0, .int .i64 0], .agg #[.int .i64 0, .int .i64 0], .int .i64 0, .agg #[.int .i64 0, .int .i64 0], .int .i64 0], []⟩).memory :=
  laidMet_of_run' 8 (by kernel_rfl) (by kernel_rfl)
theorem reads (os : Os) {H : Type} (enc : TypeId × Value → H) : ∃ places, DataW.whole enc Try.prog ((laidWorld os).forCall (fun _ _ => 0) ⟨#[], #[.agg #[.int .i64 0, .int .i64 0], .agg #[.int .i64 0, .int .i64 0, .int .i64 0, .int .i64 0, .int .i64 0, .int .i64 0], .agg #[.int .i64 0, .int .i64 0], .int .i64 0, .agg #[.int .i64 0, .int .i64 0], .int .i64 0], []⟩).memory Try.f3.params.toList Rows.contactStepsSpec.vars false (#[.agg #[.int .i64 0, .int .i64 0], .agg #[.int .i64 0, .int .i64 0, .int .i64 0, .int .i64 0, .int .i64 0, .int .i64 0], .agg #[.int .i64 0, .int .i64 0], .int .i64 0, .agg #[.int .i64 0, .int .i64 0], .int .i64 0] : Array Value).toList 8 = some ([.agg [.lit (.int .i64 0), .lit (.int .i64 0)], .agg [.agg [.lit (.int .i64 0), .lit (.int .i64 0)], .agg [.lit (.int .i64 0), .lit (.int .i64 0)], .agg [.lit (.int .i64 0), .lit (.int .i64 0)]], .agg [.lit (.int .i64 0), .lit (.int .i64 0)], .lit (.int .i64 0), .agg [.lit (.int .i64 0), .lit (.int .i64 0)], .lit (.int .i64 0)], [], places) :=
  ⟨[], by kernel_rfl⟩

set_option maxRecDepth 100000 in
theorem lifted (os : Os) (started : os.Started) (H : Type) (enc : TypeId × Value → H) (F : Stop.Interp) :
    ReturnsInHanded {} Try.checked os 3 .any ((OpenSpec.ofChange Rows.contactStepsSpec).preRow enc Try.prog Try.f3 Rows.contactStepsRow.domain false Rows.contactStepsRow.laid) (((OpenSpec.ofChange Rows.contactStepsSpec).at F).post enc Try.prog Try.f3 false true false false) := by
  obtain ⟨places, hx⟩ := reads os enc
  refine returnsInHanded_of_row (C := Try.checked) (s := OpenSpec.ofChange Rows.contactStepsSpec) own started (by kernel_rfl) Try.func3
    (witness_row_at (enc := enc) (C := Try.checked) false (laidWorld os) #[.agg #[.int .i64 0, .int .i64 0], .agg #[.int .i64 0, .int .i64 0, .int .i64 0, .int .i64 0, .int .i64 0, .int .i64 0], .agg #[.int .i64 0, .int .i64 0], .int .i64 0, .agg #[.int .i64 0, .int .i64 0], .int .i64 0] rfl (by kernel_rfl) (by kernel_rfl) (by kernel_rfl)
      (OpenSpec.preRow_of_cond 8 hx (by kernel_rfl) (fun k hk => by cases hk) (by kernel_rfl) (laid_met os))) ?_
  intro W base args ds gs before hval hW _ _ _ hL _ _
  exact contract H enc W base args ds gs before hval hW

/-- THE STATEMENT. -/
theorem said : Rows.ContactStepsSaid :=
  OpenClaim.holds_of_cond 3 Try.f3 rfl rfl rfl rfl rfl rfl rfl ⟨rfl, rfl, rfl, rfl, rfl⟩ rfl rfl rfl rfl rfl (by kernel_rfl) Try.func3 (by kernel_rfl)
    (of_decide_eq_true (by kernel_rfl)) (by unfold Func.isWrapper; first | (rw [if_pos (by decide +kernel)]; kernel_rfl) | (rw [if_neg (by decide +kernel)]; exact ⟨rfl, rfl⟩))
    (fun os started H enc _ F => by rw [OpenClaim.pre_eq_preRow]; exact lifted os started H enc F)
end contactSteps
end Go.Proofs.Ytlgabdamgalngaa
