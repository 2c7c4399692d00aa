/-
  Contracts of the document's own answers: places towards another one.
-/
import Derived.Test.YtfcjdmpfoogljaaDoorTow
import Derived.Test.YtfcjdmpfoogljaaDoorSegR
set_option linter.unusedVariables false
set_option linter.unusedSimpArgs false
namespace Go.Proofs.YtfcjdmpfoogljaaDoor
open Go.ChangeShapes Go.WideShapes Go.ChangeAt Go.RowKit

theorem alloc3_third (w : World) (A B C : Obj) : (((w.alloc A).alloc B).alloc C).heap[w.heap.size + 1 + 1]? = some C := by
  have h := heap_alloc_new ((w.alloc A).alloc B) C
  simpa using h

set_option maxRecDepth 100000 in
set_option maxHeartbeats 8000000 in
theorem ahead_ref (p0 p1 q0 q1 l d : Int) (w : World) (h1 : M.In p0 p1) (h2 : M.In q0 q1) (l1 : 0 ≤ l) (l2 : l ≤ 4194304) (hne : ¬ (p0 = q0 ∧ p1 = q1)) (hr : M.IsRoot (4096 * M.sq p0 p1 q0 q1) d) :
    Calls Tryd.prog 69 #[.agg #[.int .i64 p0, .int .i64 p1], .agg #[.int .i64 q0, .int .i64 q1], .int .i64 l] w fun e w' => e = .returned (.agg #[.int .i64 (M.tow p0 q0 l d), .int .i64 (M.tow p1 q1 l d)]) ∧ Below w.heap.size w w' := by
  have H1 := Lib.hid h1
  have H2 := Lib.hid h2
  have HR := Lib.hid hr
  obtain ⟨s1, s2⟩ := M.sq_bd h1 h2
  have s3 := M.sq_pos hne
  have XB := Lib.hid (M.way_bd p0 q0 l h1.1 h2.1 l1 l2)
  have YB := Lib.hid (M.way_bd p1 q1 l h1.2 h2.2 l1 l2)
  have AB := Lib.hid (And.intro h1 h2)
  have DB := Lib.hid (M.root_bd s3 s2 hr)
  clear h1 h2 hne hr
  unfold M.tow
  go_enter Tryd.func69, Tryd.ntmps69
  go_wp2_with (first | (go_at_call 56; refine (far_any p0 p1 q0 q1 _ H1.out H2.out).mono ?_; rintro e w1 ⟨rfl, hb1⟩; obtain ⟨hB1, hz1, hc1, hf1⟩ := grow4 (w := w) (by go_grown) hb1; (try simp only [World.size_alloc, World.size_setCell, World.size_drew] at hz1); (try have hy1 := Nat.lt_of_succ_le hz1); (try have hx1 := Nat.lt_of_succ_lt hy1); (try have hw1 := Nat.lt_of_succ_lt hx1); (try have hv1 := Nat.lt_of_succ_lt hw1); (try have ha1 : w.heap.size < w1.heap.size := (by omega)); (try have hi1 : w.heap.size + 1 < w1.heap.size := (by omega)); (try have hj1 : w.heap.size + 1 + 1 < w1.heap.size := (by omega)); (try have hk1 : w.heap.size + 1 + 1 + 1 < w1.heap.size := (by omega)); (try have hl1 : w.heap.size + 1 + 1 + 1 + 1 < w1.heap.size := (by omega))) | (go_at_call 49; refine (sqrt_any _ d _ (by omega) (by omega) HR.out).mono ?_; rintro e w' ⟨rfl, rfl⟩))
  have O1 := (hb1.block (w.heap.size + 1 + 1) (by go_size)).trans (alloc3_third _ _ _ _)
  have O := Lib.hid O1
  clear O1
  obtain ⟨d1, d2⟩ := DB.out
  obtain ⟨⟨⟨a1, a2⟩, ⟨a3, a4⟩⟩, ⟨⟨b1, b2⟩, ⟨b3, b4⟩⟩⟩ := AB.out
  obtain ⟨x1, x2⟩ := XB.out
  obtain ⟨y1, y2⟩ := YB.out
  obtain ⟨x3, x4⟩ := M.whole_bd (64 * (p0 - q0) * l) d 2251799813685248 (by omega) x1 x2 (by omega)
  obtain ⟨y3, y4⟩ := M.whole_bd (64 * (p1 - q1) * l) d 2251799813685248 (by omega) y1 y2 (by omega)
  refine R.region_grow_old [.val (.pointer (some ⟨w.heap.size + 1, 0, none⟩)), .val (.int .i64 q0), .val (.pointer (some ⟨w.heap.size, 0, none⟩)), .val (.int .i64 p0), .val (.pointer (some ⟨w.heap.size + 1, 0, none⟩)), .val (.int .i64 q0), .val (.int .i64 (p0 - q0)), .val (.int .i64 (64 * (p0 - q0))), .val (.int .i64 l), .val (.int .i64 (64 * (p0 - q0) * l)), .val (.int .i64 d), .val (.agg #[.int .i64 (M.whole (64 * (p0 - q0) * l) d), .int .i64 (M.rest (64 * (p0 - q0) * l) d)]), .val (.int .i64 (M.whole (64 * (p0 - q0) * l) d)), .val (.int .i64 (q0 + M.whole (64 * (p0 - q0) * l) d)), .val (.pointer (some ⟨w.heap.size + 1, 1, none⟩)), .val (.int .i64 q1), .val (.pointer (some ⟨w.heap.size, 1, none⟩)), .val (.int .i64 p1), .val (.pointer (some ⟨w.heap.size + 1, 1, none⟩)), .val (.int .i64 q1), .val (.int .i64 (p1 - q1)), .val (.int .i64 (64 * (p1 - q1))), .val (.int .i64 l), .val (.int .i64 (64 * (p1 - q1) * l)), .val (.int .i64 d), .val (.agg #[.int .i64 (M.whole (64 * (p1 - q1) * l) d), .int .i64 (M.rest (64 * (p1 - q1) * l) d)]), .val (.int .i64 (M.whole (64 * (p1 - q1) * l) d)), .val (.int .i64 (q1 + M.whole (64 * (p1 - q1) * l) d)), .val (.agg #[.int .i64 (q0 + M.whole (64 * (p0 - q0) * l) d), .int .i64 (q1 + M.whole (64 * (p1 - q1) * l) d)]), .old (w.heap.size + 1 + 1) 34 #[.int .i64 (q0 + M.whole (64 * (p0 - q0) * l) d), .int .i64 (q1 + M.whole (64 * (p1 - q1) * l) d)]] (by kernel_rfl) (by kernel_rfl) (by kernel_rfl) (by simp [R.olds] <;> omega) ⟨⟨_, O.out, rfl⟩, trivial⟩ ?_ ?_
  · refine ⟨?_, ?_, ?_, ?_, ?_, ?_, ?_, ?_, ?_, ?_, ?_, ?_, ?_, ?_, ?_, ?_, ?_, ?_, ?_, ?_, ?_, ?_, ?_, ?_, ?_, ?_, ?_, ?_, ?_, ?_, trivial⟩
    · intro act wx KK E hk hK
      have e4 := E 4 _ rfl
      go_simp
      exact hK _ (Below.refl _ _)
    · intro act wx KK E hk hK
      have e13 := E 13 _ rfl
      have hb0 := hk.block (w.heap.size + 1) (by go_size) (by simp [R.isOld, R.waitsFor, Region.binds, List.range_succ] <;> omega)
      obtain ⟨hc, hf⟩ := R.cell_same hb0
      go_simp
      exact hK _ (Below.refl _ _)
    · intro act wx KK E hk hK
      have e3 := E 3 _ rfl
      go_simp
      exact hK _ (Below.refl _ _)
    · intro act wx KK E hk hK
      have e15 := E 15 _ rfl
      have hb0 := hk.block (w.heap.size) (by go_size) (by simp [R.isOld, R.waitsFor, Region.binds, List.range_succ] <;> omega)
      obtain ⟨hc, hf⟩ := R.cell_same hb0
      go_simp
      exact hK _ (Below.refl _ _)
    · intro act wx KK E hk hK
      have e4 := E 4 _ rfl
      go_simp
      exact hK _ (Below.refl _ _)
    · intro act wx KK E hk hK
      have e17 := E 17 _ rfl
      have hb0 := hk.block (w.heap.size + 1) (by go_size) (by simp [R.isOld, R.waitsFor, Region.binds, List.range_succ] <;> omega)
      obtain ⟨hc, hf⟩ := R.cell_same hb0
      go_simp
      exact hK _ (Below.refl _ _)
    · intro act wx KK E hk hK
      have e16 := E 16 _ rfl
      have e18 := E 18 _ rfl
      go_simp
      try go_bits
      first | exact hK _ (Below.refl _ _) | (go_step; exact hK _ (Below.refl _ _)) | (go_step; go_step; exact hK _ (Below.refl _ _))
    · intro act wx KK E hk hK
      have e19 := E 19 _ rfl
      go_simp
      try go_bits
      first | exact hK _ (Below.refl _ _) | (go_step; exact hK _ (Below.refl _ _)) | (go_step; go_step; exact hK _ (Below.refl _ _))
    · intro act wx KK E hk hK
      have e2 := E 2 _ rfl
      go_simp
      exact hK _ (Below.refl _ _)
    · intro act wx KK E hk hK
      have e20 := E 20 _ rfl
      have e21 := E 21 _ rfl
      go_simp
      try go_bits
      first | exact hK _ (Below.refl _ _) | (go_step; exact hK _ (Below.refl _ _)) | (go_step; go_step; exact hK _ (Below.refl _ _))
    · intro act wx KK E hk hK
      have e7 := E 7 _ rfl
      go_simp
      exact hK _ (Below.refl _ _)
    · intro act wx KK E hk hK
      have e22 := E 22 _ rfl
      have e23 := E 23 _ rfl
      go_simp
      refine (parted_any _ _ _ (by omega) (by omega) (by omega) (by omega)).mono ?_
      rintro e w' ⟨rfl, hb⟩
      exact hK _ hb
    · intro act wx KK E hk hK
      have e24 := E 24 _ rfl
      go_simp
      exact hK _ (Below.refl _ _)
    · intro act wx KK E hk hK
      have e14 := E 14 _ rfl
      have e25 := E 25 _ rfl
      go_simp
      try go_bits
      first | exact hK _ (Below.refl _ _) | (go_step; exact hK _ (Below.refl _ _)) | (go_step; go_step; exact hK _ (Below.refl _ _))
    · intro act wx KK E hk hK
      have e4 := E 4 _ rfl
      go_simp
      exact hK _ (Below.refl _ _)
    · intro act wx KK E hk hK
      have e27 := E 27 _ rfl
      have hb0 := hk.block (w.heap.size + 1) (by go_size) (by simp [R.isOld, R.waitsFor, Region.binds, List.range_succ] <;> omega)
      obtain ⟨hc, hf⟩ := R.cell_same hb0
      go_simp
      exact hK _ (Below.refl _ _)
    · intro act wx KK E hk hK
      have e3 := E 3 _ rfl
      go_simp
      exact hK _ (Below.refl _ _)
    · intro act wx KK E hk hK
      have e29 := E 29 _ rfl
      have hb0 := hk.block (w.heap.size) (by go_size) (by simp [R.isOld, R.waitsFor, Region.binds, List.range_succ] <;> omega)
      obtain ⟨hc, hf⟩ := R.cell_same hb0
      go_simp
      exact hK _ (Below.refl _ _)
    · intro act wx KK E hk hK
      have e4 := E 4 _ rfl
      go_simp
      exact hK _ (Below.refl _ _)
    · intro act wx KK E hk hK
      have e31 := E 31 _ rfl
      have hb0 := hk.block (w.heap.size + 1) (by go_size) (by simp [R.isOld, R.waitsFor, Region.binds, List.range_succ] <;> omega)
      obtain ⟨hc, hf⟩ := R.cell_same hb0
      go_simp
      exact hK _ (Below.refl _ _)
    · intro act wx KK E hk hK
      have e30 := E 30 _ rfl
      have e32 := E 32 _ rfl
      go_simp
      try go_bits
      first | exact hK _ (Below.refl _ _) | (go_step; exact hK _ (Below.refl _ _)) | (go_step; go_step; exact hK _ (Below.refl _ _))
    · intro act wx KK E hk hK
      have e33 := E 33 _ rfl
      go_simp
      try go_bits
      first | exact hK _ (Below.refl _ _) | (go_step; exact hK _ (Below.refl _ _)) | (go_step; go_step; exact hK _ (Below.refl _ _))
    · intro act wx KK E hk hK
      have e2 := E 2 _ rfl
      go_simp
      exact hK _ (Below.refl _ _)
    · intro act wx KK E hk hK
      have e34 := E 34 _ rfl
      have e35 := E 35 _ rfl
      go_simp
      try go_bits
      first | exact hK _ (Below.refl _ _) | (go_step; exact hK _ (Below.refl _ _)) | (go_step; go_step; exact hK _ (Below.refl _ _))
    · intro act wx KK E hk hK
      have e7 := E 7 _ rfl
      go_simp
      exact hK _ (Below.refl _ _)
    · intro act wx KK E hk hK
      have e36 := E 36 _ rfl
      have e37 := E 37 _ rfl
      go_simp
      refine (parted_any _ _ _ (by omega) (by omega) (by omega) (by omega)).mono ?_
      rintro e w' ⟨rfl, hb⟩
      exact hK _ hb
    · intro act wx KK E hk hK
      have e38 := E 38 _ rfl
      go_simp
      exact hK _ (Below.refl _ _)
    · intro act wx KK E hk hK
      have e28 := E 28 _ rfl
      have e39 := E 39 _ rfl
      go_simp
      try go_bits
      first | exact hK _ (Below.refl _ _) | (go_step; exact hK _ (Below.refl _ _)) | (go_step; go_step; exact hK _ (Below.refl _ _))
    · intro act wx KK E hk hK
      have e26 := E 26 _ rfl
      have e40 := E 40 _ rfl
      go_simp
      exact hK _ (Below.refl _ _)
    · intro act wx KK cs0 E hk hh hsz hK
      obtain ⟨c0, c1, rfl⟩ := R.of_size2 hsz
      have e6 := E 6 _ rfl
      have e41 := E 41 _ rfl
      have kc0 := R.cell_blk hh 0
      have kf0 := R.free_blk hh 0
      have kc1 := R.cell_blk hh 1
      have kf1 := R.free_blk hh 1
      have hK' := hK _ (R.rewrites2 hh)
      clear hK
      go_simp
      exact hK'
  intro β2 w2 F
  simp only [R.finAct, R.Item.value, Act.put, List.getElem?_toArray, List.getElem?_cons_zero, List.getElem?_cons_succ, List.size_toArray, List.length_cons, List.length_nil, Nat.reduceAdd, List.setIfInBounds_toArray, List.set_cons_zero, List.set_cons_succ]
  have hB2 := (show Below w.heap.size w _ by go_grown).trans (F.kept.belowOld (by go_size) (by simp [R.olds] <;> omega))
  obtain ⟨hc2, hf2⟩ := F.kept.cellsOld
  simp only [R.olds, List.mem_cons, List.not_mem_nil, or_false] at hc2 hf2
  have hz2 := F.kept.size
  try simp only [World.size_alloc, World.size_setCell, World.size_drew] at hz2
  try have ha2 : w.heap.size < w2.heap.size := (by omega)
  try have hi2 : w.heap.size + 1 < w2.heap.size := (by omega)
  try have hj2 : w.heap.size + 1 + 1 < w2.heap.size := (by omega)
  try have hk2 : w.heap.size + 1 + 1 + 1 < w2.heap.size := (by omega)
  try have hl2 : w.heap.size + 1 + 1 + 1 + 1 < w2.heap.size := (by omega)
  have p292 := F.olds 29 _ _ _ rfl
  have q29_02 := R.cell_blk p292 0
  have f29_02 := R.free_blk p292 0
  have q29_12 := R.cell_blk p292 1
  have f29_12 := R.free_blk p292 1
  replace p292 := Lib.hid p292
  clear F
  go_wp2
  exact bodyPost_ret (v := .agg #[.int .i64 (q0 + M.whole (64 * (p0 - q0) * l) d), .int .i64 (q1 + M.whole (64 * (p1 - q1) * l) d)]) (by simp [results, Tryd.results69, go_sem, q29_02, q29_12]) rfl ⟨rfl, hB2⟩
end Go.Proofs.YtfcjdmpfoogljaaDoor
