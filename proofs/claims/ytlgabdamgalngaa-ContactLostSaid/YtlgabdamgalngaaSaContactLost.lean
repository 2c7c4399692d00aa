/-
  For all balls, motions and at most 3 ticks: roquetlaw03.ContactLost returns true, and leaves its arguments as they were. No condition.
-/
import Derived.Test.YtlgabdamgalngaaCtLv
import Derived.Test.YtlgabdamgalngaaKitF
import Derived.Test.YtlgabdamgalngaaOwn
set_option linter.unusedVariables false
set_option linter.unusedSimpArgs false
namespace Go.Proofs.Ytlgabdamgalngaa
open Go Go.ChangeShapes Go.WideShapes Go.ChangeAt Go.RowKit

namespace contactLost
theorem readable : ∀ t ∈ Try.f6.params.toList, Try.prog.readableRec t = true ∧ t < Try.prog.types.size := fun t ht => by
  have h := List.all_eq_true.1 (show (Try.f6.params.toList.all fun t => Try.prog.readableRec t && decide (t < Try.prog.types.size)) = true by kernel_rfl) t ht
  rw [Bool.and_eq_true, decide_eq_true_eq] at h
  exact h
set_option maxRecDepth 100000 in
/-- From the reckoning to what the row says, for every argument and every world. -/
theorem contract (H : Type) (enc : TypeId × Value → H) (W : World) (base : Nat) (args : Array Value) (ds gs : List (DataW H)) (before : List MemPlace)
    (hval : ∀ (j : Nat) t v, Try.f6.params[j]? = some t → args[j]? = some v → Value.okWide Try.prog W .any base t v)
    (hW : DataW.Whole enc Try.prog Try.f6.params.toList Rows.contactLostSpec.vars false W args.toList ds gs before) :
    Calls Try.prog 6 args W fun e W' => ∃ v, e = .returned v ∧ Rows.contactLostSpec.post enc Try.prog Try.f6 false true false false W args v W' := by
  have hW' := hW
  obtain ⟨p, q, hA0, hV, rfl, hfz, hnd⟩ := hW
  have hA : DataW.TrodAll enc Try.prog W 0 (fun _ => true) true Try.f6.params.toList args.toList ds p := hA0
  rw [Try.params6] at hA hval
  obtain ⟨v0, vs0, d0, ds0, p0, q0, hargs, rfl, rfl, h0, r0⟩ := trodAll_cons hA
  obtain ⟨v1, vs1, d1, ds1, p1, q1, rfl, rfl, rfl, h1, r1⟩ := trodAll_cons r0
  obtain ⟨v2, vs2, d2, ds2, p2, q2, rfl, rfl, rfl, h2, r2⟩ := trodAll_cons r1
  obtain ⟨rfl, rfl, rfl⟩ := trodAll_nil r2
  obtain rfl : args = #[v0, v1, v2] := by cases args; simp_all
  obtain ⟨rfl, rfl⟩ := trodVars_none hV
  obtain ⟨c0, rfl, g0⟩ := K.flat_open Try.underlying23 (show K.flatK Try.prog 9 23 = some [some .i64, some .i64] by kernel_rfl) (hval 0 23 v0 rfl rfl) h0
  obtain ⟨b0, zb0, rfl, xb0, b1, zb1, rfl, xb1, rfl⟩ := g0
  have yb0 := bounds_i64 xb0
  have yb1 := bounds_i64 xb1
  obtain ⟨c1, rfl, g1⟩ := K.flat_open Try.underlying27 (show K.flatK Try.prog 9 27 = some [some .i64, some .i64, some .i64, some .i64, some .i64, some .i64] by kernel_rfl) (hval 1 27 v1 rfl rfl) h1
  obtain ⟨s0, zs0, rfl, xs0, s1, zs1, rfl, xs1, s2, zs2, rfl, xs2, s3, zs3, rfl, xs3, s4, zs4, rfl, xs4, s5, zs5, rfl, xs5, rfl⟩ := g1
  have ys0 := bounds_i64 xs0
  have ys1 := bounds_i64 xs1
  have ys2 := bounds_i64 xs2
  have ys3 := bounds_i64 xs3
  have ys4 := bounds_i64 xs4
  have ys5 := bounds_i64 xs5
  obtain ⟨t, rfl, _, _, xt⟩ := open_int Try.underlying5 (hval 2 5 v2 rfl rfl) h2
  have yt := bounds_u8 xt
  clear hA0
  have hR := E.calls_of_fn (c := cfg) (args := [.agg #[.int .i64 b0, .int .i64 b1], .agg #[.int .i64 s0, .int .i64 s1, .int .i64 s2, .int .i64 s3, .int .i64 s4, .int .i64 s5], .int .u8 t]) (x := .bool true) rfl rfl (lostLaw b0 b1 s0 s1 s2 s3 s4 s5 t yb0.1 yb0.2 yb1.1 yb1.2 ys0.1 ys0.2 ys1.1 ys1.2 ys2.1 ys2.2 ys3.1 ys3.2 ys4.1 ys4.2 ys5.1 ys5.2 yt.1 yt.2) W
  refine Calls.mono hR fun e W' hw => ?_
  exact ⟨_, hw.1, K.law_post laidOut readable (by kernel_rfl) Try.underlying4 rfl hW' rfl hw.2⟩

theorem laid_met (os : Os) : laidMet Try.prog Rows.contactLostRow.laid ((laidWorld os).forCall (fun _ _ => 0) ⟨#[], #[.agg #[.int .i64 0, .int .i64 0], .agg #[.int .i64 0, .int .i64 0, .int .i64 0, .int .i64 0, .int .i64 0, .int .i64 0], .int .u8 0], []⟩).memory :=
  laidMet_of_run' 8 (by kernel_rfl) (by kernel_rfl)
theorem reads (os : Os) {H : Type} (enc : TypeId × Value → H) : ∃ places, DataW.whole enc Try.prog ((laidWorld os).forCall (fun _ _ => 0) ⟨#[], #[.agg #[.int .i64 0, .int .i64 0], .agg #[.int .i64 0, .int .i64 0, .int .i64 0, .int .i64 0, .int .i64 0, .int .i64 0], .int .u8 0], []⟩).memory Try.f6.params.toList Rows.contactLostSpec.vars false (#[.agg #[.int .i64 0, .int .i64 0], .agg #[.int .i64 0, .int .i64 0, .int .i64 0, .int .i64 0, .int .i64 0, .int .i64 0], .int .u8 0] : Array Value).toList 8 = some ([.agg [.lit (.int .i64 0), .lit (.int .i64 0)], .agg [.agg [.lit (.int .i64 0), .lit (.int .i64 0)], .agg [.lit (.int .i64 0), .lit (.int .i64 0)], .agg [.lit (.int .i64 0), .lit (.int .i64 0)]], .lit (.int .u8 0)], [], places) :=
  ⟨[], by kernel_rfl⟩

set_option maxRecDepth 100000 in
theorem lifted (os : Os) (started : os.Started) (H : Type) (enc : TypeId × Value → H) (F : Stop.Interp) :
    ReturnsInHanded {} Try.checked os 6 .any ((OpenSpec.ofChange Rows.contactLostSpec).preRow enc Try.prog Try.f6 Rows.contactLostRow.domain false Rows.contactLostRow.laid) (((OpenSpec.ofChange Rows.contactLostSpec).at F).post enc Try.prog Try.f6 false true false false) := by
  obtain ⟨places, hx⟩ := reads os enc
  refine returnsInHanded_of_row (C := Try.checked) (s := OpenSpec.ofChange Rows.contactLostSpec) own started (by kernel_rfl) Try.func6
    (witness_row_at (enc := enc) (C := Try.checked) false (laidWorld os) #[.agg #[.int .i64 0, .int .i64 0], .agg #[.int .i64 0, .int .i64 0, .int .i64 0, .int .i64 0, .int .i64 0, .int .i64 0], .int .u8 0] rfl (by kernel_rfl) (by kernel_rfl) (by kernel_rfl)
      (OpenSpec.preRow_of_cond 8 hx (by kernel_rfl) (fun k hk => by cases hk) (by kernel_rfl) (laid_met os))) ?_
  intro W base args ds gs before hval hW _ _ _ hL _ _
  exact contract H enc W base args ds gs before hval hW

/-- THE STATEMENT. -/
theorem said : Rows.ContactLostSaid :=
  OpenClaim.holds_of_cond 6 Try.f6 rfl rfl rfl rfl rfl rfl rfl ⟨rfl, rfl, rfl, rfl, rfl⟩ rfl rfl rfl rfl rfl (by kernel_rfl) Try.func6 (by kernel_rfl)
    (of_decide_eq_true (by kernel_rfl)) (by unfold Func.isWrapper; first | (rw [if_pos (by decide +kernel)]; kernel_rfl) | (rw [if_neg (by decide +kernel)]; exact ⟨rfl, rfl⟩))
    (fun os started H enc _ F => by rw [OpenClaim.pre_eq_preRow]; exact lifted os started H enc F)
end contactLost
end Go.Proofs.Ytlgabdamgalngaa
