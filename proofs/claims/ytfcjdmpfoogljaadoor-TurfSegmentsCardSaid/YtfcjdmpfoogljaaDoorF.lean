/-
  Contracts of layer 1: rings, and the examples that each law ends with.
-/
import Derived.Test.YtfcjdmpfoogljaaDoorE
import Derived.Test.YtfcjdmpfoogljaaDoorC
set_option linter.unusedVariables false
set_option linter.unusedSimpArgs false
namespace Go.Proofs.YtfcjdmpfoogljaaDoor
open Go.ChangeShapes Go.WideShapes Go.ChangeAt Go.RowKit

/-- The points of a ring. -/
def rpt (x y r : Int) (k : Nat) : Int × Int := (x + (r * pc k).tdiv 4096, y + (r * ps k).tdiv 4096)
def ringPts (x y r : Int) : List (Int × Int) := (List.range 16).map (rpt x y r)
theorem ringPts_len (x y r : Int) : (ringPts x y r).length = 16 := by simp [ringPts]
theorem ringPts_get (x y r : Int) (k : Nat) (h : k < 16) : (ringPts x y r).getD k (0, 0) = rpt x y r k := by
  unfold ringPts
  simp [List.getD, h]
theorem pcs_bd (k : Nat) : -4096 ≤ pc k ∧ pc k ≤ 4096 ∧ -4096 ≤ ps k ∧ ps k ≤ 4096 := by
  rcases Nat.lt_or_ge k 16 with h | h
  · have : ∀ i : Fin 16, -4096 ≤ pc i.val ∧ pc i.val ≤ 4096 ∧ -4096 ≤ ps i.val ∧ ps i.val ≤ 4096 := by decide
    exact this ⟨k, h⟩
  · have e : pairs.getD k (0, 0) = (0, 0) := by
      unfold List.getD
      rw [List.getElem?_eq_none (by simpa [pairs] using h)]
      rfl
    unfold pc ps
    rw [e]
    omega

/-- The first k points stand in block g. -/
def Row (w : World) (g : Nat) (x y r : Int) (k : Nat) : Prop :=
  ∃ cs : Array Value, w.heap[g]? = some (.cells cs 34 (0, 0)) ∧ cs.size = 32 ∧ ∀ j, j < k → cs[j * 2]? = some (.int .i64 (rpt x y r j).1) ∧ cs[j * 2 + 1]? = some (.int .i64 (rpt x y r j).2)
theorem Row.below {w w' : World} {g k B : Nat} {x y r : Int} (h : Row w g x y r k) (hb : Below B w w') (hg : g < B) : Row w' g x y r k := by
  obtain ⟨cs, h1, h2, h3⟩ := h
  exact ⟨cs, (hb.block g hg).trans h1, h2, h3⟩
theorem Row.cells {w : World} {g k : Nat} {x y r : Int} (h : Row w g x y r k) (i : Nat) (hi : i < 32) : (∃ v, w.cell? ⟨g, i, none⟩ = some v) ∧ w.frozen? ⟨g, i, none⟩ = false := by
  obtain ⟨cs, h1, h2, h3⟩ := h
  exact ⟨⟨cs[i], by rw [R.cell_blk h1 i]; exact Array.getElem?_eq_getElem (by omega)⟩, R.free_blk h1 i⟩
theorem Row.store {w : World} {g k : Nat} {x y r : Int} (h : Row w g x y r k) (hk : k < 16) :
    Row ((w.setCell ⟨g, k * 2, none⟩ (.int .i64 (rpt x y r k).1)).setCell ⟨g, k * 2 + 1, none⟩ (.int .i64 (rpt x y r k).2)) g x y r (k + 1) := by
  obtain ⟨cs, h1, h2, h3⟩ := h
  refine ⟨(cs.setIfInBounds (k * 2) (.int .i64 (rpt x y r k).1)).setIfInBounds (k * 2 + 1) (.int .i64 (rpt x y r k).2), ?_, by simp [h2], fun j hj => ?_⟩
  · simp [World.setCell, Array.getElem?_modify, h1]
  · rcases Nat.decEq j k with hne | rfl
    · have hlt : j < k := by omega
      rw [Array.getElem?_setIfInBounds_ne (by omega), Array.getElem?_setIfInBounds_ne (by omega), Array.getElem?_setIfInBounds_ne (by omega), Array.getElem?_setIfInBounds_ne (by omega)]
      exact h3 j hlt
    · have hk1 : j * 2 < cs.size := by omega
      have hk2 : j * 2 + 1 < cs.size := by omega
      constructor
      · rw [Array.getElem?_setIfInBounds_ne (by omega)]
        simp [hk1]
      · simp [hk2]
theorem Row.pts {w : World} {g : Nat} {x y r : Int} (h : Row w g x y r 16) : Pts w g (ringPts x y r) := fun j hj => by
  rw [ringPts_len] at hj
  rw [ringPts_get x y r j hj]
  obtain ⟨cs, h1, h2, h3⟩ := h
  rw [R.cell_blk h1, R.cell_blk h1]
  exact h3 j hj

/-- What 'ring' leaves. -/
def RingRes (x y r : Int) (w : World) (e : Ending) (w' : World) : Prop :=
  ∃ g : Nat, e = .returned (.slice (some ⟨g, 0, none⟩) 16 16) ∧ w.heap.size ≤ g ∧ g < w'.heap.size ∧ Row w' g x y r 16 ∧ Below w.heap.size w w'

/-- What 'make' lays. -/
def zeros32 : Array Value := Array.replicate 32 (.int .i64 0)

set_option maxHeartbeats 2000000 in
theorem ring_any (x y r : Int) (w : World) (ht : Tab w) (hx : -16777216 ≤ x) (hx2 : x ≤ 16777216) (hy : -16777216 ≤ y) (hy2 : y ≤ 16777216) (hr : 0 ≤ r) (hr2 : r ≤ 65536) :
    Calls Tryd.prog 63 #[.agg #[.int .i64 x, .int .i64 y, .int .i64 r]] w (RingRes x y r w) := by
  have hz := ht.size
  have HT := Lib.hid ht
  clear ht
  have hmk : ∀ w : World, (Instr.makeSlice 46 (.int .i64 16) (.int .i64 16)).run Tryd.prog w = .ok (.slice (some ⟨w.heap.size, 0, none⟩) 16 16) (w.alloc (.cells zeros32 34)) := fun _ => by kernel_rfl
  go_enter Tryd.func63, Tryd.ntmps63
  go_wp2
  have hrow : Row ((w.alloc (.cells #[.int .i64 x, .int .i64 y, .int .i64 r] 36)).alloc (.cells zeros32 34)) (w.heap.size + 1) x y r 0 :=
    ⟨zeros32, heap_alloc2_new _ _ _, by simp [zeros32], fun j hj => by omega⟩
  have hB0 : Below w.heap.size w ((w.alloc (.cells #[.int .i64 x, .int .i64 y, .int .i64 r] 36)).alloc (.cells zeros32 34)) := by go_grown
  have hD : ((w.alloc (.cells #[.int .i64 x, .int .i64 y, .int .i64 r] 36)).alloc (.cells zeros32 34)).heap[w.heap.size]? = some (.cells #[.int .i64 x, .int .i64 y, .int .i64 r] 36 (0, 0)) := heap_alloc2_old _ _ _
  generalize (w.alloc (.cells #[.int .i64 x, .int .i64 y, .int .i64 r] 36)).alloc (.cells zeros32 34) = w0 at *
  have HR0 := Lib.hid hrow
  have HD0 := Lib.hid hD
  clear hrow hD
  go_loopw [10] (fun i wr => ∃ k : Nat, k ≤ 16 ∧ i = .int .i64 k ∧ Row wr (w.heap.size + 1) x y r k ∧ wr.heap[w.heap.size]? = some (.cells #[.int .i64 x, .int .i64 y, .int .i64 r] 36 (0, 0)) ∧ Below w.heap.size w wr) (fun i _ => 16 - (intOf i).toNat)
  case atStart => exact ⟨0, by omega, rfl, HR0.out, HD0.out, hB0⟩
  case round =>
    obtain ⟨k, hk, rfl, hrow, hd, hB⟩ := hrel
    have HRW := Lib.hid hrow
    have HD := Lib.hid hd
    have hs := R.heap_lt hd
    have hs1 : w.heap.size + 1 < wr.heap.size := by obtain ⟨cs, h, _⟩ := hrow; exact R.heap_lt h
    clear hrow hd
    by_cases hlt : k < 16
    · obtain ⟨p1, p2, p3, p4⟩ := pcs_bd k
      obtain ⟨b1, b2⟩ := M.mul_bd r (pc k) 65536 4096 (by omega) (by omega) (by omega) (by omega)
      obtain ⟨b3, b4⟩ := M.mul_bd r (ps k) 65536 4096 (by omega) (by omega) (by omega) (by omega)
      obtain ⟨b5, b6⟩ := M.tdiv_bd (r * pc k) 4096 (by omega) (-268435456) 268435456 (by omega) (by omega) (by omega) (by omega)
      obtain ⟨b7, b8⟩ := M.tdiv_bd (r * ps k) 4096 (by omega) (-268435456) 268435456 (by omega) (by omega) (by omega) (by omega)
      have hlt0 : (0 : Int) ≤ k := by omega
      have hlt1 : (k : Int) < 16 := by omega
      go_wp2_with (go_at_call 79; refine (corner_any k hlt _ (HT.out.below hB hz)).mono ?_; rintro e w1 ⟨rfl, hb1⟩; have hD1 := (hb1.block _ hs).trans HD.out; have d0 := R.cell_blk hD1 0; have d1 := R.cell_blk hD1 1; have d2 := R.cell_blk hD1 2; have hR1 := HRW.out.below hb1 hs1; obtain ⟨⟨v0, r0⟩, f0⟩ := hR1.cells (k * 2) (by omega); obtain ⟨⟨v1, r1⟩, f1⟩ := hR1.cells (k * 2 + 1) (by omega); have HR1 := Lib.hid hR1; have HD1 := Lib.hid hD1; clear hR1 hD1)
      have hBB := stepB hB hb1
      exact ⟨⟨k + 1, by omega, by go_num, HR1.out.store hlt, (Below.heap_setCell _ _ _ _ (by simp)).trans ((Below.heap_setCell _ _ _ _ (by simp)).trans HD1.out), (hBB.setCell (by simp) _).setCell (by simp) _⟩, by simp [intOf]; omega⟩
    · have e : k = 16 := by omega
      subst e
      go_wp2
      go_returns
      exact ⟨w.heap.size + 1, rfl, by omega, by obtain ⟨cs, h, _⟩ := HRW.out; exact R.heap_lt h, HRW.out, hB⟩

/-- What 'Ring' answers: 0 where it has a ring, else the error. -/
def ringErr (x y r : Int) : Int := if chkDisc x y r = 0 then (if M.chk (ringPts x y r) = 0 then 0 else 4) else chkDisc x y r
def RingOk (x y r : Int) (w : World) (e : Ending) (w' : World) : Prop :=
  ∃ g : Nat, e = .returned (.tuple #[.slice (some ⟨g, 0, none⟩) 16 16, .int .i64 0]) ∧ w.heap.size ≤ g ∧ g < w'.heap.size ∧ Row w' g x y r 16 ∧ Below w.heap.size w w'

theorem chkDisc_zero {x y r : Int} (h : chkDisc x y r = 0) : -4194304 ≤ x ∧ x ≤ 4194304 ∧ -4194304 ≤ y ∧ y ≤ 4194304 ∧ 1 ≤ r ∧ r ≤ 65536 := by
  unfold chkDisc at h
  split at h
  · omega
  · unfold M.chk M.okAll at h
    split at h
    · rename_i hh
      simp [M.fits] at hh
      omega
    · omega
theorem checkRing_any (x y r : Int) (g : Nat) (w : World) (hg : g < w.heap.size) (hp : Row w g x y r 16) :
    Calls Tryd.prog 53 #[.slice (some ⟨g, 0, none⟩) 16 16] w fun e w' => e = .returned (.int .i64 (M.chk (ringPts x y r))) ∧ Below w.heap.size w w' := by
  have h := checkAll_any (ringPts x y r) g 16 w hg (by rw [ringPts_len]; omega) hp.pts
  rwa [ringPts_len] at h

set_option maxHeartbeats 1000000 in
theorem Ring_bad (x y r : Int) (w : World) (h : chkDisc x y r ≠ 0) :
    Calls Tryd.prog 34 #[.agg #[.int .i64 x, .int .i64 y, .int .i64 r]] w fun e w' => e = .returned (.tuple #[.slice none 0 0, .int .i64 (chkDisc x y r)]) ∧ Below w.heap.size w w' := by
  have h1 : (chkDisc x y r == 0) = false := by simpa using h
  have h2 : (chkDisc x y r != 0) = true := by simpa using h
  clear h
  go_enter Tryd.func34, Tryd.ntmps34
  go_wp2_with (go_at_call 24; refine (CheckDisc_any _ _ _ _).mono ?_; rintro e w1 ⟨rfl, hb1⟩; obtain ⟨hB1, hz1, hc1, hf1⟩ := grow4 (w := w) (by go_grown) hb1; (try simp only [World.size_alloc, World.size_setCell, World.size_drew] at hz1); (try have hy1 := Nat.lt_of_succ_le hz1); (try have hx1 := Nat.lt_of_succ_lt hy1); (try have hw1 := Nat.lt_of_succ_lt hx1); (try have hv1 := Nat.lt_of_succ_lt hw1); (try have ha1 : w.heap.size < w1.heap.size := (by omega)); (try have hi1 : w.heap.size + 1 < w1.heap.size := (by omega)); (try have hj1 : w.heap.size + 1 + 1 < w1.heap.size := (by omega)); (try have hk1 : w.heap.size + 1 + 1 + 1 < w1.heap.size := (by omega)); (try have hl1 : w.heap.size + 1 + 1 + 1 + 1 < w1.heap.size := (by omega)))
  go_returns
  exact ⟨rfl, hB1⟩
set_option maxHeartbeats 1000000 in
theorem Ring_over (x y r : Int) (w : World) (ht : Tab w) (h : chkDisc x y r = 0) (hc : M.chk (ringPts x y r) ≠ 0) :
    Calls Tryd.prog 34 #[.agg #[.int .i64 x, .int .i64 y, .int .i64 r]] w fun e w' => e = .returned (.tuple #[.slice none 0 0, .int .i64 4]) ∧ Below w.heap.size w w' := by
  obtain ⟨a1, a2, a3, a4, a5, a6⟩ := chkDisc_zero h
  have h1 : (M.chk (ringPts x y r) == 0) = false := by simpa using hc
  have h2 : (M.chk (ringPts x y r) != 0) = true := by simpa using hc
  have hz := ht.size
  have HT := Lib.hid ht
  clear hc ht
  go_enter Tryd.func34, Tryd.ntmps34
  go_wp2_with (first | (go_at_call 24; refine (CheckDisc_any _ _ _ _).mono ?_; rintro e w1 ⟨rfl, hb1⟩; obtain ⟨hB1, hz1, hc1, hf1⟩ := grow4 (w := w) (by go_grown) hb1; (try simp only [World.size_alloc, World.size_setCell, World.size_drew] at hz1); (try have hy1 := Nat.lt_of_succ_le hz1); (try have hx1 := Nat.lt_of_succ_lt hy1); (try have hw1 := Nat.lt_of_succ_lt hx1); (try have hv1 := Nat.lt_of_succ_lt hw1); (try have ha1 : w.heap.size < w1.heap.size := (by omega)); (try have hi1 : w.heap.size + 1 < w1.heap.size := (by omega)); (try have hj1 : w.heap.size + 1 + 1 < w1.heap.size := (by omega)); (try have hk1 : w.heap.size + 1 + 1 + 1 < w1.heap.size := (by omega)); (try have hl1 : w.heap.size + 1 + 1 + 1 + 1 < w1.heap.size := (by omega))) | (go_at_call 63; refine (ring_any x y r _ (HT.out.below hB1 hz) (by omega) (by omega) (by omega) (by omega) (by omega) (by omega)).mono ?_; rintro e w2 ⟨g, rfl, g1, g2, g3, hb2⟩; obtain ⟨hB2, hz2, hc2, hf2⟩ := grow4 (w := w) (by go_grown) hb2) | (go_at_call 53; refine (checkRing_any x y r g _ g2 g3).mono ?_; rintro e w3 ⟨rfl, hb3⟩; obtain ⟨hB3, hz3, hc3, hf3⟩ := grow4 (w := w) (by go_grown) hb3; (try simp only [World.size_alloc, World.size_setCell, World.size_drew] at hz3); (try have hy3 := Nat.lt_of_succ_le hz3); (try have hx3 := Nat.lt_of_succ_lt hy3); (try have hw3 := Nat.lt_of_succ_lt hx3); (try have hv3 := Nat.lt_of_succ_lt hw3); (try have ha3 : w.heap.size < w3.heap.size := (by omega)); (try have hi3 : w.heap.size + 1 < w3.heap.size := (by omega)); (try have hj3 : w.heap.size + 1 + 1 < w3.heap.size := (by omega)); (try have hk3 : w.heap.size + 1 + 1 + 1 < w3.heap.size := (by omega)); (try have hl3 : w.heap.size + 1 + 1 + 1 + 1 < w3.heap.size := (by omega))))
  go_returns
  exact ⟨rfl, hB3⟩
set_option maxHeartbeats 1000000 in
theorem Ring_ok (x y r : Int) (w : World) (ht : Tab w) (h : chkDisc x y r = 0) (hc : M.chk (ringPts x y r) = 0) :
    Calls Tryd.prog 34 #[.agg #[.int .i64 x, .int .i64 y, .int .i64 r]] w (RingOk x y r w) := by
  obtain ⟨a1, a2, a3, a4, a5, a6⟩ := chkDisc_zero h
  have hz := ht.size
  have HT := Lib.hid ht
  clear ht
  go_enter Tryd.func34, Tryd.ntmps34
  go_wp2_with (first | (go_at_call 24; refine (CheckDisc_any _ _ _ _).mono ?_; rintro e w1 ⟨rfl, hb1⟩; obtain ⟨hB1, hz1, hc1, hf1⟩ := grow4 (w := w) (by go_grown) hb1; (try simp only [World.size_alloc, World.size_setCell, World.size_drew] at hz1); (try have hy1 := Nat.lt_of_succ_le hz1); (try have hx1 := Nat.lt_of_succ_lt hy1); (try have hw1 := Nat.lt_of_succ_lt hx1); (try have hv1 := Nat.lt_of_succ_lt hw1); (try have ha1 : w.heap.size < w1.heap.size := (by omega)); (try have hi1 : w.heap.size + 1 < w1.heap.size := (by omega)); (try have hj1 : w.heap.size + 1 + 1 < w1.heap.size := (by omega)); (try have hk1 : w.heap.size + 1 + 1 + 1 < w1.heap.size := (by omega)); (try have hl1 : w.heap.size + 1 + 1 + 1 + 1 < w1.heap.size := (by omega))) | (go_at_call 63; refine (ring_any x y r _ (HT.out.below hB1 hz) (by omega) (by omega) (by omega) (by omega) (by omega) (by omega)).mono ?_; rintro e w2 ⟨g, rfl, g1, g2, g3, hb2⟩; obtain ⟨hB2, hz2, hc2, hf2⟩ := grow4 (w := w) (by go_grown) hb2) | (go_at_call 53; refine (checkRing_any x y r g _ g2 g3).mono ?_; rintro e w3 ⟨rfl, hb3⟩; obtain ⟨hB3, hz3, hc3, hf3⟩ := grow4 (w := w) (by go_grown) hb3; (try simp only [World.size_alloc, World.size_setCell, World.size_drew] at hz3); (try have hy3 := Nat.lt_of_succ_le hz3); (try have hx3 := Nat.lt_of_succ_lt hy3); (try have hw3 := Nat.lt_of_succ_lt hx3); (try have hv3 := Nat.lt_of_succ_lt hw3); (try have ha3 : w.heap.size < w3.heap.size := (by omega)); (try have hi3 : w.heap.size + 1 < w3.heap.size := (by omega)); (try have hj3 : w.heap.size + 1 + 1 < w3.heap.size := (by omega)); (try have hk3 : w.heap.size + 1 + 1 + 1 < w3.heap.size := (by omega)); (try have hl3 : w.heap.size + 1 + 1 + 1 + 1 < w3.heap.size := (by omega))))
  go_returns
  exact ⟨g, rfl, by omega, by omega, g3.below hb3 g2, hB3⟩
end Go.Proofs.YtfcjdmpfoogljaaDoor
