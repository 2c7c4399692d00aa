/-
  For all momenta, losses, balls, motions, discs and bounces: roquetlaw03.ContactFades returns true, and leaves its arguments as they were. No condition.
-/
import Derived.Test.YtlgabdamgalngaaCtLt
import Derived.Test.YtlgabdamgalngaaKitF
import Derived.Test.YtlgabdamgalngaaOwn
set_option linter.unusedVariables false
set_option linter.unusedSimpArgs false
namespace Go.Proofs.Ytlgabdamgalngaa
open Go Go.ChangeShapes Go.WideShapes Go.ChangeAt Go.RowKit

namespace contactFades
theorem readable : ∀ t ∈ Try.f11.params.toList, Try.prog.readableRec t = true ∧ t < Try.prog.types.size := fun t ht => by
  have h := List.all_eq_true.1 (show (Try.f11.params.toList.all fun t => Try.prog.readableRec t && decide (t < Try.prog.types.size)) = true by kernel_rfl) t ht
  rw [Bool.and_eq_true, decide_eq_true_eq] at h
  exact h
set_option maxRecDepth 100000 in
/-- From the reckoning to what the row says, for every argument and every world. -/
theorem contract (H : Type) (enc : TypeId × Value → H) (W : World) (base : Nat) (args : Array Value) (ds gs : List (DataW H)) (before : List MemPlace)
    (hval : ∀ (j : Nat) t v, Try.f11.params[j]? = some t → args[j]? = some v → Value.okWide Try.prog W .any base t v)
    (hW : DataW.Whole enc Try.prog Try.f11.params.toList Rows.contactFadesSpec.vars false W args.toList ds gs before) :
    Calls Try.prog 11 args W fun e W' => ∃ v, e = .returned v ∧ Rows.contactFadesSpec.post enc Try.prog Try.f11 false true false false W args v W' := by
  have hW' := hW
  obtain ⟨p, q, hA0, hV, rfl, hfz, hnd⟩ := hW
  have hA : DataW.TrodAll enc Try.prog W 0 (fun _ => true) true Try.f11.params.toList args.toList ds p := hA0
  rw [Try.params11] at hA hval
  obtain ⟨v0, vs0, d0, ds0, p0, q0, hargs, rfl, rfl, h0, r0⟩ := trodAll_cons hA
  obtain ⟨v1, vs1, d1, ds1, p1, q1, rfl, rfl, rfl, h1, r1⟩ := trodAll_cons r0
  obtain ⟨v2, vs2, d2, ds2, p2, q2, rfl, rfl, rfl, h2, r2⟩ := trodAll_cons r1
  obtain ⟨v3, vs3, d3, ds3, p3, q3, rfl, rfl, rfl, h3, r3⟩ := trodAll_cons r2
  obtain ⟨v4, vs4, d4, ds4, p4, q4, rfl, rfl, rfl, h4, r4⟩ := trodAll_cons r3
  obtain ⟨v5, vs5, d5, ds5, p5, q5, rfl, rfl, rfl, h5, r5⟩ := trodAll_cons r4
  obtain ⟨rfl, rfl, rfl⟩ := trodAll_nil r5
  obtain rfl : args = #[v0, v1, v2, v3, v4, v5] := by cases args; simp_all
  obtain ⟨rfl, rfl⟩ := trodVars_none hV
  obtain ⟨c0, rfl, g0⟩ := K.flat_open Try.underlying25 (show K.flatK Try.prog 9 25 = some [some .i64, some .i64] by kernel_rfl) (hval 0 25 v0 rfl rfl) h0
  obtain ⟨m0, zm0, rfl, xm0, m1, zm1, rfl, xm1, rfl⟩ := g0
  have ym0 := bounds_i64 xm0
  have ym1 := bounds_i64 xm1
  obtain ⟨l, rfl, _, _, xl⟩ := open_int Try.underlying2 (hval 1 2 v1 rfl rfl) h1
  have yl := bounds_i64 xl
  obtain ⟨c2, rfl, g2⟩ := K.flat_open Try.underlying23 (show K.flatK Try.prog 9 23 = some [some .i64, some .i64] by kernel_rfl) (hval 2 23 v2 rfl rfl) h2
  obtain ⟨a0, za0, rfl, xa0, a1, za1, rfl, xa1, rfl⟩ := g2
  have ya0 := bounds_i64 xa0
  have ya1 := bounds_i64 xa1
  obtain ⟨c3, rfl, g3⟩ := K.flat_open Try.underlying27 (show K.flatK Try.prog 9 27 = some [some .i64, some .i64, some .i64, some .i64, some .i64, some .i64] by kernel_rfl) (hval 3 27 v3 rfl rfl) h3
  obtain ⟨s0, zs0, rfl, xs0, s1, zs1, rfl, xs1, s2, zs2, rfl, xs2, s3, zs3, rfl, xs3, s4, zs4, rfl, xs4, s5, zs5, rfl, xs5, rfl⟩ := g3
  have ys0 := bounds_i64 xs0
  have ys1 := bounds_i64 xs1
  have ys2 := bounds_i64 xs2
  have ys3 := bounds_i64 xs3
  have ys4 := bounds_i64 xs4
  have ys5 := bounds_i64 xs5
  obtain ⟨c4, rfl, g4⟩ := K.flat_open Try.underlying42 (show K.flatK Try.prog 9 42 = some [some .i64, some .i64, some .i64] by kernel_rfl) (hval 4 42 v4 rfl rfl) h4
  obtain ⟨d0, zd0, rfl, xd0, d1, zd1, rfl, xd1, d2, zd2, rfl, xd2, rfl⟩ := g4
  have yd0 := bounds_i64 xd0
  have yd1 := bounds_i64 xd1
  have yd2 := bounds_i64 xd2
  obtain ⟨c5, rfl, g5⟩ := K.flat_open Try.underlying29 (show K.flatK Try.prog 9 29 = some [some .i64, some .i64] by kernel_rfl) (hval 5 29 v5 rfl rfl) h5
  obtain ⟨x0, zx0, rfl, xx0, x1, zx1, rfl, xx1, rfl⟩ := g5
  have yx0 := bounds_i64 xx0
  have yx1 := bounds_i64 xx1
  clear hA0
  have hR := E.calls_of_fn (c := cfg) (args := [.agg #[.int .i64 m0, .int .i64 m1], .int .i64 l, .agg #[.int .i64 a0, .int .i64 a1], .agg #[.int .i64 s0, .int .i64 s1, .int .i64 s2, .int .i64 s3, .int .i64 s4, .int .i64 s5], .agg #[.int .i64 d0, .int .i64 d1, .int .i64 d2], .agg #[.int .i64 x0, .int .i64 x1]]) (x := .bool true) rfl rfl (contactFades m0 m1 l a0 a1 s0 s1 s2 s3 s4 s5 d0 d1 d2 x0 x1 ) W
  refine Calls.mono hR fun e W' hw => ?_
  exact ⟨_, hw.1, K.law_post laidOut readable (by kernel_rfl) Try.underlying4 rfl hW' rfl hw.2⟩

theorem laid_met (os : Os) : laidMet Try.prog Rows.contactFadesRow.laid ((laidWorld os).forCall (fun _ _ => 0) ⟨#[], #[.agg #[.int .i64 0, .int .i64 0], .int .i64 0, .agg #[.int .i64 0, .int .i64 0], .agg #[.int .i64 0, .int .i64 0, .int .i64 0, .int .i64 0, .int .i64 0, .int .i64 0], .agg #[.int .i64 0, .int .i64 0, .int .i64 0], .agg #[.int .i64 0, .int .i64 0]], []⟩).memory :=
  laidMet_of_run' 8 (by kernel_rfl) (by kernel_rfl)
theorem reads (os : Os) {H : Type} (enc : TypeId × Value → H) : ∃ places, DataW.whole enc Try.prog ((laidWorld os).forCall (fun _ _ => 0) ⟨#[], #[.agg #[.int .i64 0, .int .i64 0], .int .i64 0, .agg #[.int .i64 0, .int .i64 0], .agg #[.int .i64 0, .int .i64 0, .int .i64 0, .int .i64 0, .int .i64 0, .int .i64 0], .agg #[.int .i64 0, .int .i64 0, .int .i64 0], .agg #[.int .i64 0, .int .i64 0]], []⟩).memory Try.f11.params.toList Rows.contactFadesSpec.vars false (#[.agg #[.int .i64 0, .int .i64 0], .int .i64 0, .agg #[.int .i64 0, .int .i64 0], .agg #[.int .i64 0, .int .i64 0, .int .i64 0, .int .i64 0, .int .i64 0, .int .i64 0], .agg #[.int .i64 0, .int .i64 0, .int .i64 0], .agg #[.int .i64 0, .int .i64 0]] : Array Value).toList 8 = some ([.agg [.lit (.int .i64 0), .lit (.int .i64 0)], .lit (.int .i64 0), .agg [.lit (.int .i64 0), .lit (.int .i64 0)], .agg [.agg [.lit (.int .i64 0), .lit (.int .i64 0)], .agg [.lit (.int .i64 0), .lit (.int .i64 0)], .agg [.lit (.int .i64 0), .lit (.int .i64 0)]], .agg [.agg [.lit (.int .i64 0), .lit (.int .i64 0)], .lit (.int .i64 0)], .agg [.lit (.int .i64 0), .lit (.int .i64 0)]], [], places) :=
  ⟨[], by kernel_rfl⟩

set_option maxRecDepth 100000 in
theorem lifted (os : Os) (started : os.Started) (H : Type) (enc : TypeId × Value → H) (F : Stop.Interp) :
    ReturnsInHanded {} Try.checked os 11 .any ((OpenSpec.ofChange Rows.contactFadesSpec).preRow enc Try.prog Try.f11 Rows.contactFadesRow.domain false Rows.contactFadesRow.laid) (((OpenSpec.ofChange Rows.contactFadesSpec).at F).post enc Try.prog Try.f11 false true false false) := by
  obtain ⟨places, hx⟩ := reads os enc
  refine returnsInHanded_of_row (C := Try.checked) (s := OpenSpec.ofChange Rows.contactFadesSpec) own started (by kernel_rfl) Try.func11
    (witness_row_at (enc := enc) (C := Try.checked) false (laidWorld os) #[.agg #[.int .i64 0, .int .i64 0], .int .i64 0, .agg #[.int .i64 0, .int .i64 0], .agg #[.int .i64 0, .int .i64 0, .int .i64 0, .int .i64 0, .int .i64 0, .int .i64 0], .agg #[.int .i64 0, .int .i64 0, .int .i64 0], .agg #[.int .i64 0, .int .i64 0]] rfl (by kernel_rfl) (by kernel_rfl) (by kernel_rfl)
      (OpenSpec.preRow_of_cond 8 hx (by kernel_rfl) (fun k hk => by cases hk) (by kernel_rfl) (laid_met os))) ?_
  intro W base args ds gs before hval hW _ _ _ hL _ _
  exact contract H enc W base args ds gs before hval hW

/-- THE STATEMENT. -/
theorem said : Rows.ContactFadesSaid :=
  OpenClaim.holds_of_cond 11 Try.f11 rfl rfl rfl rfl rfl rfl rfl ⟨rfl, rfl, rfl, rfl, rfl⟩ rfl rfl rfl rfl rfl (by kernel_rfl) Try.func11 (by kernel_rfl)
    (of_decide_eq_true (by kernel_rfl)) (by unfold Func.isWrapper; first | (rw [if_pos (by decide +kernel)]; kernel_rfl) | (rw [if_neg (by decide +kernel)]; exact ⟨rfl, rfl⟩))
    (fun os started H enc _ F => by rw [OpenClaim.pre_eq_preRow]; exact lifted os started H enc F)
end contactFades
end Go.Proofs.Ytlgabdamgalngaa
