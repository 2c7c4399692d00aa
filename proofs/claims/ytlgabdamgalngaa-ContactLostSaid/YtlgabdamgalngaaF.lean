/-
  Contracts of layer 1: rings, and the examples that each law ends with.
-/
import Derived.Test.YtlgabdamgalngaaE
import Derived.Test.YtlgabdamgalngaaC
set_option linter.unusedVariables false
set_option linter.unusedSimpArgs false
namespace Go.Proofs.Ytlgabdamgalngaa
open Go.ChangeShapes Go.WideShapes Go.ChangeAt Go.RowKit

/-- The points of a ring. -/
def rpt (x y r : Int) (k : Nat) : Int × Int := (x + (r * pc k).tdiv 4096, y + (r * ps k).tdiv 4096)
def ringPts (x y r : Int) : List (Int × Int) := (List.range 16).map (rpt x y r)
theorem ringPts_len (x y r : Int) : (ringPts x y r).length = 16 := by simp [ringPts]
theorem ringPts_get (x y r : Int) (k : Nat) (h : k < 16) : (ringPts x y r).getD k (0, 0) = rpt x y r k := by
  unfold ringPts
  simp [List.getD, h]
theorem pcs_bd (k : Nat) : -4096 ≤ pc k ∧ pc k ≤ 4096 ∧ -4096 ≤ ps k ∧ ps k ≤ 4096 := by
  rcases Nat.lt_or_ge k 16 with h | h
  · have : ∀ i : Fin 16, -4096 ≤ pc i.val ∧ pc i.val ≤ 4096 ∧ -4096 ≤ ps i.val ∧ ps i.val ≤ 4096 := by decide
    exact this ⟨k, h⟩
  · have e : pairs.getD k (0, 0) = (0, 0) := by
      unfold List.getD
      rw [List.getElem?_eq_none (by simpa [pairs] using h)]
      rfl
    unfold pc ps
    rw [e]
    omega

/-- The first k points stand in block g. -/
def Row (w : World) (g : Nat) (x y r : Int) (k : Nat) : Prop :=
  ∃ cs : Array Value, w.heap[g]? = some (.cells cs 25 (0, 0)) ∧ cs.size = 32 ∧ ∀ j, j < k → cs[j * 2]? = some (.int .i64 (rpt x y r j).1) ∧ cs[j * 2 + 1]? = some (.int .i64 (rpt x y r j).2)
theorem Row.below {w w' : World} {g k B : Nat} {x y r : Int} (h : Row w g x y r k) (hb : Below B w w') (hg : g < B) : Row w' g x y r k := by
  obtain ⟨cs, h1, h2, h3⟩ := h
  exact ⟨cs, (hb.block g hg).trans h1, h2, h3⟩
theorem Row.cells {w : World} {g k : Nat} {x y r : Int} (h : Row w g x y r k) (i : Nat) (hi : i < 32) : (∃ v, w.cell? ⟨g, i, none⟩ = some v) ∧ w.frozen? ⟨g, i, none⟩ = false := by
  obtain ⟨cs, h1, h2, h3⟩ := h
  exact ⟨⟨cs[i], by rw [R.cell_blk h1 i]; exact Array.getElem?_eq_getElem (by omega)⟩, R.free_blk h1 i⟩
theorem Row.store {w : World} {g k : Nat} {x y r : Int} (h : Row w g x y r k) (hk : k < 16) :
    Row ((w.setCell ⟨g, k * 2, none⟩ (.int .i64 (rpt x y r k).1)).setCell ⟨g, k * 2 + 1, none⟩ (.int .i64 (rpt x y r k).2)) g x y r (k + 1) := by
  obtain ⟨cs, h1, h2, h3⟩ := h
  refine ⟨(cs.setIfInBounds (k * 2) (.int .i64 (rpt x y r k).1)).setIfInBounds (k * 2 + 1) (.int .i64 (rpt x y r k).2), ?_, by simp [h2], fun j hj => ?_⟩
  · simp [World.setCell, Array.getElem?_modify, h1]
  · rcases Nat.decEq j k with hne | rfl
    · have hlt : j < k := by omega
      rw [Array.getElem?_setIfInBounds_ne (by omega), Array.getElem?_setIfInBounds_ne (by omega), Array.getElem?_setIfInBounds_ne (by omega), Array.getElem?_setIfInBounds_ne (by omega)]
      exact h3 j hlt
    · have hk1 : j * 2 < cs.size := by omega
      have hk2 : j * 2 + 1 < cs.size := by omega
      constructor
      · rw [Array.getElem?_setIfInBounds_ne (by omega)]
        simp [hk1]
      · simp [hk2]
theorem Row.pts {w : World} {g : Nat} {x y r : Int} (h : Row w g x y r 16) : Pts w g (ringPts x y r) := fun j hj => by
  rw [ringPts_len] at hj
  rw [ringPts_get x y r j hj]
  obtain ⟨cs, h1, h2, h3⟩ := h
  rw [R.cell_blk h1, R.cell_blk h1]
  exact h3 j hj

/-- What 'ring' leaves. -/
def RingRes (x y r : Int) (w : World) (e : Ending) (w' : World) : Prop :=
  ∃ g : Nat, e = .returned (.slice (some ⟨g, 0, none⟩) 16 16) ∧ w.heap.size ≤ g ∧ g < w'.heap.size ∧ Row w' g x y r 16 ∧ Below w.heap.size w w'

/-- What 'make' lays. -/
def zeros32 : Array Value := Array.replicate 32 (.int .i64 0)

/-- What 'Ring' answers: 0 where it has a ring, else the error. -/
def ringErr (x y r : Int) : Int := if chkDisc x y r = 0 then (if M.chk (ringPts x y r) = 0 then 0 else 4) else chkDisc x y r
def RingOk (x y r : Int) (w : World) (e : Ending) (w' : World) : Prop :=
  ∃ g : Nat, e = .returned (.tuple #[.slice (some ⟨g, 0, none⟩) 16 16, .int .i64 0]) ∧ w.heap.size ≤ g ∧ g < w'.heap.size ∧ Row w' g x y r 16 ∧ Below w.heap.size w w'

theorem chkDisc_zero {x y r : Int} (h : chkDisc x y r = 0) : -4194304 ≤ x ∧ x ≤ 4194304 ∧ -4194304 ≤ y ∧ y ≤ 4194304 ∧ 1 ≤ r ∧ r ≤ 65536 := by
  unfold chkDisc at h
  split at h
  · omega
  · unfold M.chk M.okAll at h
    split at h
    · rename_i hh
      simp [M.fits] at hh
      omega
    · omega
theorem checkRing_any (x y r : Int) (g : Nat) (w : World) (hg : g < w.heap.size) (hp : Row w g x y r 16) :
    Calls Try.prog 83 #[.slice (some ⟨g, 0, none⟩) 16 16] w fun e w' => e = .returned (.int .i64 (M.chk (ringPts x y r))) ∧ Below w.heap.size w w' := by
  have h := checkAll_any (ringPts x y r) g 16 w hg (by rw [ringPts_len]; omega) hp.pts
  rwa [ringPts_len] at h

end Go.Proofs.Ytlgabdamgalngaa
