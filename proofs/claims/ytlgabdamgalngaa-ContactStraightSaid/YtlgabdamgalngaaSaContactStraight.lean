/-
  For all masses, radii, momenta and rebounds: roquetlaw03.ContactStraight returns true, and leaves its arguments as they were. No condition.
-/
import Derived.Test.YtlgabdamgalngaaCtLs
import Derived.Test.YtlgabdamgalngaaKitF
import Derived.Test.YtlgabdamgalngaaOwn
set_option linter.unusedVariables false
set_option linter.unusedSimpArgs false
namespace Go.Proofs.Ytlgabdamgalngaa
open Go Go.ChangeShapes Go.WideShapes Go.ChangeAt Go.RowKit

namespace contactStraight
theorem readable : ∀ t ∈ Try.f9.params.toList, Try.prog.readableRec t = true ∧ t < Try.prog.types.size := fun t ht => by
  have h := List.all_eq_true.1 (show (Try.f9.params.toList.all fun t => Try.prog.readableRec t && decide (t < Try.prog.types.size)) = true by kernel_rfl) t ht
  rw [Bool.and_eq_true, decide_eq_true_eq] at h
  exact h
set_option maxRecDepth 100000 in
/-- From the reckoning to what the row says, for every argument and every world. -/
theorem contract (H : Type) (enc : TypeId × Value → H) (W : World) (base : Nat) (args : Array Value) (ds gs : List (DataW H)) (before : List MemPlace)
    (hval : ∀ (j : Nat) t v, Try.f9.params[j]? = some t → args[j]? = some v → Value.okWide Try.prog W .any base t v)
    (hW : DataW.Whole enc Try.prog Try.f9.params.toList Rows.contactStraightSpec.vars false W args.toList ds gs before) :
    Calls Try.prog 9 args W fun e W' => ∃ v, e = .returned v ∧ Rows.contactStraightSpec.post enc Try.prog Try.f9 false true false false W args v W' := by
  have hW' := hW
  obtain ⟨p, q, hA0, hV, rfl, hfz, hnd⟩ := hW
  have hA : DataW.TrodAll enc Try.prog W 0 (fun _ => true) true Try.f9.params.toList args.toList ds p := hA0
  rw [Try.params9] at hA hval
  obtain ⟨v0, vs0, d0, ds0, p0, q0, hargs, rfl, rfl, h0, r0⟩ := trodAll_cons hA
  obtain ⟨v1, vs1, d1, ds1, p1, q1, rfl, rfl, rfl, h1, r1⟩ := trodAll_cons r0
  obtain ⟨v2, vs2, d2, ds2, p2, q2, rfl, rfl, rfl, h2, r2⟩ := trodAll_cons r1
  obtain ⟨v3, vs3, d3, ds3, p3, q3, rfl, rfl, rfl, h3, r3⟩ := trodAll_cons r2
  obtain ⟨rfl, rfl, rfl⟩ := trodAll_nil r3
  obtain rfl : args = #[v0, v1, v2, v3] := by cases args; simp_all
  obtain ⟨rfl, rfl⟩ := trodVars_none hV
  obtain ⟨a, rfl, _, _, xa⟩ := open_int Try.underlying62 (hval 0 62 v0 rfl rfl) h0
  have ya := bounds_u16 xa
  obtain ⟨b, rfl, _, _, xb⟩ := open_int Try.underlying62 (hval 1 62 v1 rfl rfl) h1
  have yb := bounds_u16 xb
  obtain ⟨c, rfl, _, _, xc⟩ := open_int Try.underlying63 (hval 2 63 v2 rfl rfl) h2
  have yc := bounds_u32 xc
  obtain ⟨d, rfl, _, _, xd⟩ := open_int Try.underlying62 (hval 3 62 v3 rfl rfl) h3
  have yd := bounds_u16 xd
  clear hA0
  have hR := E.calls_of_fn (c := cfg) (args := [.int .u16 a, .int .u16 b, .int .u32 c, .int .u16 d]) (x := .bool true) rfl rfl (contactStraight a b c d ya.1 ya.2 yb.1 yb.2 yc.1 yc.2 yd.1 yd.2) W
  refine Calls.mono hR fun e W' hw => ?_
  exact ⟨_, hw.1, K.law_post laidOut readable (by kernel_rfl) Try.underlying4 rfl hW' rfl hw.2⟩

theorem laid_met (os : Os) : laidMet Try.prog Rows.contactStraightRow.laid ((laidWorld os).forCall (fun _ _ => 0) ⟨#[], #[.int .u16 0, .int .u16 0, .int .u32 0, .int .u16 0], []⟩).memory :=
  laidMet_of_run' 8 (by kernel_rfl) (by kernel_rfl)
theorem reads (os : Os) {H : Type} (enc : TypeId × Value → H) : ∃ places, DataW.whole enc Try.prog ((laidWorld os).forCall (fun _ _ => 0) ⟨#[], #[.int .u16 0, .int .u16 0, .int .u32 0, .int .u16 0], []⟩).memory Try.f9.params.toList Rows.contactStraightSpec.vars false (#[.int .u16 0, .int .u16 0, .int .u32 0, .int .u16 0] : Array Value).toList 8 = some ([.lit (.int .u16 0), .lit (.int .u16 0), .lit (.int .u32 0), .lit (.int .u16 0)], [], places) :=
  ⟨[], by kernel_rfl⟩

set_option maxRecDepth 100000 in
theorem lifted (os : Os) (started : os.Started) (H : Type) (enc : TypeId × Value → H) (F : Stop.Interp) :
    ReturnsInHanded {} Try.checked os 9 .any ((OpenSpec.ofChange Rows.contactStraightSpec).preRow enc Try.prog Try.f9 Rows.contactStraightRow.domain false Rows.contactStraightRow.laid) (((OpenSpec.ofChange Rows.contactStraightSpec).at F).post enc Try.prog Try.f9 false true false false) := by
  obtain ⟨places, hx⟩ := reads os enc
  refine returnsInHanded_of_row (C := Try.checked) (s := OpenSpec.ofChange Rows.contactStraightSpec) own started (by kernel_rfl) Try.func9
    (witness_row_at (enc := enc) (C := Try.checked) false (laidWorld os) #[.int .u16 0, .int .u16 0, .int .u32 0, .int .u16 0] rfl (by kernel_rfl) (by kernel_rfl) (by kernel_rfl)
      (OpenSpec.preRow_of_cond 8 hx (by kernel_rfl) (fun k hk => by cases hk) (by kernel_rfl) (laid_met os))) ?_
  intro W base args ds gs before hval hW _ _ _ hL _ _
  exact contract H enc W base args ds gs before hval hW

/-- THE STATEMENT. -/
theorem said : Rows.ContactStraightSaid :=
  OpenClaim.holds_of_cond 9 Try.f9 rfl rfl rfl rfl rfl rfl rfl ⟨rfl, rfl, rfl, rfl, rfl⟩ rfl rfl rfl rfl rfl (by kernel_rfl) Try.func9 (by kernel_rfl)
    (of_decide_eq_true (by kernel_rfl)) (by unfold Func.isWrapper; first | (rw [if_pos (by decide +kernel)]; kernel_rfl) | (rw [if_neg (by decide +kernel)]; exact ⟨rfl, rfl⟩))
    (fun os started H enc _ F => by rw [OpenClaim.pre_eq_preRow]; exact lifted os started H enc F)
end contactStraight
end Go.Proofs.Ytlgabdamgalngaa
