/-
  Contracts of layer 1: places towards another one.
-/
import Derived.Test.YtfcjdmpfoogljaaDoorTow
set_option linter.unusedVariables false
set_option linter.unusedSimpArgs false
namespace Go.Proofs.YtfcjdmpfoogljaaDoor
open Go.ChangeShapes Go.WideShapes Go.ChangeAt Go.RowKit

set_option maxRecDepth 100000 in
set_option maxHeartbeats 12000000 in
theorem Towards_ok (p0 p1 q0 q1 l d : Int) (w : World) (h1 : M.In p0 p1) (h2 : M.In q0 q1) (l1 : 0 ≤ l) (l2 : l ≤ 4194304) (hne : ¬ p0 = q0) (hX : M.chk [(M.tow p0 q0 l d, M.tow p1 q1 l d)] = 0) (hr : M.IsRoot (4096 * M.sq p0 p1 q0 q1) d) :
    Calls Tryd.prog 40 #[.agg #[.int .i64 p0, .int .i64 p1], .agg #[.int .i64 q0, .int .i64 q1], .int .i64 l] w fun e w' =>
      e = .returned (.tuple #[.agg #[.int .i64 (M.tow p0 q0 l d), .int .i64 (M.tow p1 q1 l d)], .int .i64 0]) ∧ Below w.heap.size w w' := by
  rcases chk2 (x := p0) (y := p1) (u := q0) (v := q1) with ⟨hc, _⟩ | ⟨_, hn⟩
  · have H1 := Lib.hid h1
    have H2 := Lib.hid h2
    have HR := Lib.hid hr
    obtain ⟨s1, s2⟩ := M.sq_bd h1 h2
    have s3 := M.sq_pos (x := p0) (y := p1) (u := q0) (v := q1) (fun h => hne h.1)
    have XB := Lib.hid (M.way_bd p0 q0 l h1.1 h2.1 l1 l2)
    have YB := Lib.hid (M.way_bd p1 q1 l h1.2 h2.2 l1 l2)
    have AB := Lib.hid (And.intro h1 h2)
    have DB := Lib.hid (M.root_bd s3 s2 hr)
    clear h1 h2
    have HC := Lib.hid hX
    clear hr hX
    unfold M.tow at *
    go_enter Tryd.func40, Tryd.ntmps40
    go_wp2_with (first | ((go_at_call 53; refine (checkAll_two p0 p1 q0 q1 _ _ _ (by go_size) (by go_cell) (by go_cell) (by go_cell) (by go_cell)).mono ?_; rintro e w1 ⟨rfl, hb1⟩; obtain ⟨hB1, hz1, hc1, hf1⟩ := grow4 (w := w) (by go_grown) hb1; (try simp only [World.size_alloc, World.size_setCell, World.size_drew] at hz1); (try have hy1 := Nat.lt_of_succ_le hz1); (try have hx1 := Nat.lt_of_succ_lt hy1); (try have hw1 := Nat.lt_of_succ_lt hx1); (try have hv1 := Nat.lt_of_succ_lt hw1); (try have ha1 : w.heap.size < w1.heap.size := (by omega)); (try have hi1 : w.heap.size + 1 < w1.heap.size := (by omega)); (try have hj1 : w.heap.size + 1 + 1 < w1.heap.size := (by omega)); (try have hk1 : w.heap.size + 1 + 1 + 1 < w1.heap.size := (by omega)); (try have hl1 : w.heap.size + 1 + 1 + 1 + 1 < w1.heap.size := (by omega))); have k01 : w1.cell? ⟨w.heap.size + 1 + 1, 0, none⟩ = some (.int .i64 0) := (hc1 _ _ (by go_size)).trans (by first | go_cell | assumption | (refine (World.cell?_alloc_lt _ _ _ (by first | assumption | omega)).trans ?_; assumption)); have k11 : w1.cell? ⟨w.heap.size + 1 + 1, 1, none⟩ = some (.int .i64 0) := (hc1 _ _ (by go_size)).trans (by first | go_cell | assumption | (refine (World.cell?_alloc_lt _ _ _ (by first | assumption | omega)).trans ?_; assumption))) | ((go_at_call 67; refine (way_in q0 q1 p0 p1 _ H2.out H1.out).mono ?_; rintro e w2 ⟨rfl, hb2⟩; obtain ⟨hB2, hz2, hc2, hf2⟩ := grow4 (w := w) (by go_grown) hb2; (try simp only [World.size_alloc, World.size_setCell, World.size_drew] at hz2); (try have hy2 := Nat.lt_of_succ_le hz2); (try have hx2 := Nat.lt_of_succ_lt hy2); (try have hw2 := Nat.lt_of_succ_lt hx2); (try have hv2 := Nat.lt_of_succ_lt hw2); (try have ha2 : w.heap.size < w2.heap.size := (by omega)); (try have hi2 : w.heap.size + 1 < w2.heap.size := (by omega)); (try have hj2 : w.heap.size + 1 + 1 < w2.heap.size := (by omega)); (try have hk2 : w.heap.size + 1 + 1 + 1 < w2.heap.size := (by omega)); (try have hl2 : w.heap.size + 1 + 1 + 1 + 1 < w2.heap.size := (by omega))); have k02 : w2.cell? ⟨w.heap.size + 1 + 1, 0, none⟩ = some (.int .i64 0) := (hc2 _ _ (by first | go_size | assumption | omega | (simp; omega))).trans (by first | go_cell | assumption | (refine (World.cell?_alloc_lt _ _ _ (by first | assumption | omega)).trans ?_; assumption)); have k12 : w2.cell? ⟨w.heap.size + 1 + 1, 1, none⟩ = some (.int .i64 0) := (hc2 _ _ (by first | go_size | assumption | omega | (simp; omega))).trans (by first | go_cell | assumption | (refine (World.cell?_alloc_lt _ _ _ (by first | assumption | omega)).trans ?_; assumption))) | ((go_at_call 54; refine (sq_call p0 p1 q0 q1 _ H1.out H2.out).mono ?_; rintro e w3 ⟨rfl, hb3⟩; obtain ⟨hB3, hz3, hc3, hf3⟩ := grow4 (w := w) (by go_grown) hb3; (try simp only [World.size_alloc, World.size_setCell, World.size_drew] at hz3); (try have hy3 := Nat.lt_of_succ_le hz3); (try have hx3 := Nat.lt_of_succ_lt hy3); (try have hw3 := Nat.lt_of_succ_lt hx3); (try have hv3 := Nat.lt_of_succ_lt hw3); have l2_3 : w2.heap.size < w3.heap.size := (by omega); have m2_3 : w2.heap.size < w3.heap.size + 1 := (by omega); have o2_3 : w2.heap.size ≤ w3.heap.size := (by omega); (try have ha3 : w.heap.size < w3.heap.size := (by omega)); (try have hi3 : w.heap.size + 1 < w3.heap.size := (by omega)); (try have hj3 : w.heap.size + 1 + 1 < w3.heap.size := (by omega)); (try have hk3 : w.heap.size + 1 + 1 + 1 < w3.heap.size := (by omega)); (try have hl3 : w.heap.size + 1 + 1 + 1 + 1 < w3.heap.size := (by omega))); have k03 : w3.cell? ⟨w.heap.size + 1 + 1, 0, none⟩ = some (.int .i64 0) := (hc3 _ _ (by first | go_size | assumption | omega | (simp; omega))).trans (by first | go_cell | assumption | (refine (World.cell?_alloc_lt _ _ _ (by first | assumption | omega)).trans ?_; assumption)); have k13 : w3.cell? ⟨w.heap.size + 1 + 1, 1, none⟩ = some (.int .i64 0) := (hc3 _ _ (by first | go_size | assumption | omega | (simp; omega))).trans (by first | go_cell | assumption | (refine (World.cell?_alloc_lt _ _ _ (by first | assumption | omega)).trans ?_; assumption))) | ((go_at_call 48; refine (root_any _ d _ (by omega) (by omega) HR.out).mono ?_; rintro e w4 ⟨rfl, hb4⟩; obtain ⟨hB4, hz4, hc4, hf4⟩ := grow4 (w := w) (by go_grown) hb4; (try simp only [World.size_alloc, World.size_setCell, World.size_drew] at hz4); (try have hy4 := Nat.lt_of_succ_le hz4); (try have hx4 := Nat.lt_of_succ_lt hy4); (try have hw4 := Nat.lt_of_succ_lt hx4); (try have hv4 := Nat.lt_of_succ_lt hw4); have l2_4 : w2.heap.size < w4.heap.size := (by omega); have m2_4 : w2.heap.size < w4.heap.size + 1 := (by omega); have o2_4 : w2.heap.size ≤ w4.heap.size := (by omega); (try have ha4 : w.heap.size < w4.heap.size := (by omega)); (try have hi4 : w.heap.size + 1 < w4.heap.size := (by omega)); (try have hj4 : w.heap.size + 1 + 1 < w4.heap.size := (by omega)); (try have hk4 : w.heap.size + 1 + 1 + 1 < w4.heap.size := (by omega)); (try have hl4 : w.heap.size + 1 + 1 + 1 + 1 < w4.heap.size := (by omega))); have k04 : w4.cell? ⟨w.heap.size + 1 + 1, 0, none⟩ = some (.int .i64 0) := (hc4 _ _ (by first | go_size | assumption | omega | (simp; omega))).trans (by first | go_cell | assumption | (refine (World.cell?_alloc_lt _ _ _ (by first | assumption | omega)).trans ?_; assumption)); have k14 : w4.cell? ⟨w.heap.size + 1 + 1, 1, none⟩ = some (.int .i64 0) := (hc4 _ _ (by first | go_size | assumption | omega | (simp; omega))).trans (by first | go_cell | assumption | (refine (World.cell?_alloc_lt _ _ _ (by first | assumption | omega)).trans ?_; assumption))))
    obtain ⟨d1, d2⟩ := DB.out
    obtain ⟨⟨⟨a1, a2⟩, ⟨a3, a4⟩⟩, ⟨⟨b1, b2⟩, ⟨b3, b4⟩⟩⟩ := AB.out
    obtain ⟨x1, x2⟩ := XB.out
    obtain ⟨y1, y2⟩ := YB.out
    obtain ⟨x3, x4⟩ := M.whole_bd (64 * (p0 - q0) * l) d 2251799813685248 (by omega) x1 x2 (by omega)
    obtain ⟨y3, y4⟩ := M.whole_bd (64 * (p1 - q1) * l) d 2251799813685248 (by omega) y1 y2 (by omega)
    refine R.region_grow [.val (.pointer (some ⟨w.heap.size + 1, 0, none⟩)), .val (.int .i64 q0), .val (.pointer (some ⟨w2.heap.size, 0, none⟩)), .val (.int .i64 (p0 - q0)), .val (.int .i64 (64 * (p0 - q0))), .val (.int .i64 l), .val (.int .i64 (64 * (p0 - q0) * l)), .val (.int .i64 d), .val (.agg #[.int .i64 (M.whole (64 * (p0 - q0) * l) d), .int .i64 (M.rest (64 * (p0 - q0) * l) d)]), .val (.int .i64 (M.whole (64 * (p0 - q0) * l) d)), .val (.int .i64 (q0 + M.whole (64 * (p0 - q0) * l) d)), .val (.pointer (some ⟨w.heap.size + 1, 1, none⟩)), .val (.int .i64 q1), .val (.pointer (some ⟨w2.heap.size, 1, none⟩)), .val (.int .i64 (p1 - q1)), .val (.int .i64 (64 * (p1 - q1))), .val (.int .i64 l), .val (.int .i64 (64 * (p1 - q1) * l)), .val (.int .i64 d), .val (.agg #[.int .i64 (M.whole (64 * (p1 - q1) * l) d), .int .i64 (M.rest (64 * (p1 - q1) * l) d)]), .val (.int .i64 (M.whole (64 * (p1 - q1) * l) d)), .val (.int .i64 (q1 + M.whole (64 * (p1 - q1) * l) d)), .val (.agg #[.int .i64 (q0 + M.whole (64 * (p0 - q0) * l) d), .int .i64 (q1 + M.whole (64 * (p1 - q1) * l) d)]), .new 34 #[.int .i64 0, .int .i64 0], .put 23 #[.int .i64 (q0 + M.whole (64 * (p0 - q0) * l) d), .int .i64 (q1 + M.whole (64 * (p1 - q1) * l) d)]] (by kernel_rfl) (by kernel_rfl) (by kernel_rfl) (by kernel_rfl) ?_ ?_
    · refine ⟨?_, ?_, ?_, ?_, ?_, ?_, ?_, ?_, ?_, ?_, ?_, ?_, ?_, ?_, ?_, ?_, ?_, ?_, ?_, ?_, ?_, ?_, ?_, ?_, ?_, trivial⟩
      · intro act wx KK E hk hK
        have e4 := E 4 _ rfl
        go_simp
        exact hK _ (Below.refl _ _)
      · intro act wx KK E hk hK
        have e39 := E 39 _ rfl
        obtain ⟨hc, hf⟩ := hk.cells rfl
        try simp only [World.size_drew] at hc hf
        go_simp
        exact hK _ (Below.refl _ _)
      · intro act wx KK E hk hK
        have e9 := E 9 _ rfl
        go_simp
        exact hK _ (Below.refl _ _)
      · intro act wx KK E hk hK
        have e41 := E 41 _ rfl
        obtain ⟨hc, hf⟩ := hk.cells rfl
        try simp only [World.size_drew] at hc hf
        go_simp
        exact hK _ (Below.refl _ _)
      · intro act wx KK E hk hK
        have e42 := E 42 _ rfl
        go_simp
        try go_bits
        first | exact hK _ (Below.refl _ _) | (go_step; exact hK _ (Below.refl _ _)) | (go_step; go_step; exact hK _ (Below.refl _ _))
      · intro act wx KK E hk hK
        have e2 := E 2 _ rfl
        go_simp
        exact hK _ (Below.refl _ _)
      · intro act wx KK E hk hK
        have e43 := E 43 _ rfl
        have e44 := E 44 _ rfl
        go_simp
        try go_bits
        first | exact hK _ (Below.refl _ _) | (go_step; exact hK _ (Below.refl _ _)) | (go_step; go_step; exact hK _ (Below.refl _ _))
      · intro act wx KK E hk hK
        have e10 := E 10 _ rfl
        go_simp
        exact hK _ (Below.refl _ _)
      · intro act wx KK E hk hK
        have e45 := E 45 _ rfl
        have e46 := E 46 _ rfl
        go_simp
        refine (part_any _ _ _ (by omega) (by omega) (by omega) (by omega)).mono ?_
        rintro e w' ⟨rfl, hb⟩
        exact hK _ hb
      · intro act wx KK E hk hK
        have e47 := E 47 _ rfl
        go_simp
        exact hK _ (Below.refl _ _)
      · intro act wx KK E hk hK
        have e40 := E 40 _ rfl
        have e48 := E 48 _ rfl
        go_simp
        try go_bits
        first | exact hK _ (Below.refl _ _) | (go_step; exact hK _ (Below.refl _ _)) | (go_step; go_step; exact hK _ (Below.refl _ _))
      · intro act wx KK E hk hK
        have e4 := E 4 _ rfl
        go_simp
        exact hK _ (Below.refl _ _)
      · intro act wx KK E hk hK
        have e50 := E 50 _ rfl
        obtain ⟨hc, hf⟩ := hk.cells rfl
        try simp only [World.size_drew] at hc hf
        go_simp
        exact hK _ (Below.refl _ _)
      · intro act wx KK E hk hK
        have e9 := E 9 _ rfl
        go_simp
        exact hK _ (Below.refl _ _)
      · intro act wx KK E hk hK
        have e52 := E 52 _ rfl
        obtain ⟨hc, hf⟩ := hk.cells rfl
        try simp only [World.size_drew] at hc hf
        go_simp
        exact hK _ (Below.refl _ _)
      · intro act wx KK E hk hK
        have e53 := E 53 _ rfl
        go_simp
        try go_bits
        first | exact hK _ (Below.refl _ _) | (go_step; exact hK _ (Below.refl _ _)) | (go_step; go_step; exact hK _ (Below.refl _ _))
      · intro act wx KK E hk hK
        have e2 := E 2 _ rfl
        go_simp
        exact hK _ (Below.refl _ _)
      · intro act wx KK E hk hK
        have e54 := E 54 _ rfl
        have e55 := E 55 _ rfl
        go_simp
        try go_bits
        first | exact hK _ (Below.refl _ _) | (go_step; exact hK _ (Below.refl _ _)) | (go_step; go_step; exact hK _ (Below.refl _ _))
      · intro act wx KK E hk hK
        have e10 := E 10 _ rfl
        go_simp
        exact hK _ (Below.refl _ _)
      · intro act wx KK E hk hK
        have e56 := E 56 _ rfl
        have e57 := E 57 _ rfl
        go_simp
        refine (part_any _ _ _ (by omega) (by omega) (by omega) (by omega)).mono ?_
        rintro e w' ⟨rfl, hb⟩
        exact hK _ hb
      · intro act wx KK E hk hK
        have e58 := E 58 _ rfl
        go_simp
        exact hK _ (Below.refl _ _)
      · intro act wx KK E hk hK
        have e51 := E 51 _ rfl
        have e59 := E 59 _ rfl
        go_simp
        try go_bits
        first | exact hK _ (Below.refl _ _) | (go_step; exact hK _ (Below.refl _ _)) | (go_step; go_step; exact hK _ (Below.refl _ _))
      · intro act wx KK E hk hK
        have e49 := E 49 _ rfl
        have e60 := E 60 _ rfl
        go_simp
        exact hK _ (Below.refl _ _)
      · intro act wx KK hK
        go_simp
        exact hK
      · intro TT zz hT act wx KK bb cs0 dd E hk hd hb hh hsz hK
        cases hT
        obtain ⟨c0, c1, rfl⟩ := R.of_size2 hsz
        cases hd
        have e61 := E 61 _ rfl
        have kc0 := R.cell_blk hh 0
        have kf0 := R.free_blk hh 0
        have kc1 := R.cell_blk hh 1
        have kf1 := R.free_blk hh 1
        have hK' := hK _ (R.rewrites2 hh)
        clear hK
        go_simp
        exact hK'
    intro β5 w5 F
    simp only [R.finAct, R.Item.value, Act.put, List.getElem?_toArray, List.getElem?_cons_zero, List.getElem?_cons_succ, List.size_toArray, List.length_cons, List.length_nil, Nat.reduceAdd, List.setIfInBounds_toArray, List.set_cons_zero, List.set_cons_succ]
    have hB5 := stepB (w := w) (by go_grown) (F.kept.below rfl)
    obtain ⟨hc5, hf5⟩ := F.kept.cells rfl
    try simp only [World.size_drew] at hc5 hf5
    have hz5 := F.kept.size
    try simp only [World.size_alloc, World.size_setCell, World.size_drew] at hz5
    try have ha5 : w.heap.size < w5.heap.size := (by omega)
    try have hi5 : w.heap.size + 1 < w5.heap.size := (by omega)
    try have hj5 : w.heap.size + 1 + 1 < w5.heap.size := (by omega)
    try have hk5 : w.heap.size + 1 + 1 + 1 < w5.heap.size := (by omega)
    try have hl5 : w.heap.size + 1 + 1 + 1 + 1 < w5.heap.size := (by omega)
    obtain ⟨n23a5, n23b5, _⟩ := F.news 23 _ _ rfl
    have p245 := F.puts 24 23 _ _ _ rfl rfl
    have q24_05 := R.cell_blk p245 0
    have f24_05 := R.free_blk p245 0
    have q24_15 := R.cell_blk p245 1
    have f24_15 := R.free_blk p245 1
    replace p245 := Lib.hid p245
    clear F
    have k05 : w5.cell? ⟨w.heap.size + 1 + 1, 0, none⟩ = some (.int .i64 0) := (hc5 _ _ (by omega)).trans k04
    have k15 : w5.cell? ⟨w.heap.size + 1 + 1, 1, none⟩ = some (.int .i64 0) := (hc5 _ _ (by omega)).trans k14
    clear x1 x2 x3 x4 y1 y2 y3 y4 a1 a2 a3 a4 b1 b2 b3 b4 s1 s2 s3 d1 d2
    have hX := HC.out
    go_wp2_with (first | ((go_at_call 53; refine (checkAll_one (q0 + M.whole (64 * (p0 - q0) * l) d) (q1 + M.whole (64 * (p1 - q1) * l) d) _ _ _ (by go_size) (by go_cell) (by go_cell)).mono ?_; rintro e w6 ⟨rfl, hb6⟩; obtain ⟨hB6, hz6, hc6, hf6⟩ := grow4 (w := w) (by go_grown) hb6; (try simp only [World.size_alloc, World.size_setCell, World.size_drew] at hz6); (try have hy6 := Nat.lt_of_succ_le hz6); (try have hx6 := Nat.lt_of_succ_lt hy6); (try have hw6 := Nat.lt_of_succ_lt hx6); (try have hv6 := Nat.lt_of_succ_lt hw6); (try have ha6 : w.heap.size < w6.heap.size := (by omega)); (try have hi6 : w.heap.size + 1 < w6.heap.size := (by omega)); (try have hj6 : w.heap.size + 1 + 1 < w6.heap.size := (by omega)); (try have hk6 : w.heap.size + 1 + 1 + 1 < w6.heap.size := (by omega)); (try have hl6 : w.heap.size + 1 + 1 + 1 + 1 < w6.heap.size := (by omega))); have k06 : w6.cell? ⟨w.heap.size + 1 + 1, 0, none⟩ = some (.int .i64 0) := (hc6 _ _ (by first | go_size | assumption | omega | (simp; omega))).trans (by first | go_cell | assumption | (refine (World.cell?_alloc_lt _ _ _ (by first | assumption | omega)).trans ?_; assumption)); have k16 : w6.cell? ⟨w.heap.size + 1 + 1, 1, none⟩ = some (.int .i64 0) := (hc6 _ _ (by first | go_size | assumption | omega | (simp; omega))).trans (by first | go_cell | assumption | (refine (World.cell?_alloc_lt _ _ _ (by first | assumption | omega)).trans ?_; assumption))))
    have z0 := set2a (v0 := .int .i64 (q0 + M.whole (64 * (p0 - q0) * l) d)) k06
    have z1 := (set2 (v0 := .int .i64 (q0 + M.whole (64 * (p0 - q0) * l) d)) (v1 := .int .i64 (q1 + M.whole (64 * (p1 - q1) * l) d)) k06 k16).1
    have z2 := (set2 (v0 := .int .i64 (q0 + M.whole (64 * (p0 - q0) * l) d)) (v1 := .int .i64 (q1 + M.whole (64 * (p1 - q1) * l) d)) k06 k16).2
    exact bodyPost_ret (v := .tuple #[.agg #[.int .i64 (q0 + M.whole (64 * (p0 - q0) * l) d), .int .i64 (q1 + M.whole (64 * (p1 - q1) * l) d)], .int .i64 0]) (by simp [results, Tryd.results40, go_sem, z0, z1, z2]) rfl ⟨rfl, (hB6.setCell (show w.heap.size ≤ w.heap.size + 1 + 1 by omega) _).setCell (show w.heap.size ≤ w.heap.size + 1 + 1 by omega) _⟩
  · exact absurd ⟨h1, h2⟩ hn
end Go.Proofs.YtfcjdmpfoogljaaDoor
