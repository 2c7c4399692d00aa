/-
  Passing a ring: the contract.
-/
import Derived.Test.YtfcjdmpfoogljaaDoorPass
set_option linter.unusedVariables false
set_option linter.unusedSimpArgs false
namespace Go.Proofs.YtfcjdmpfoogljaaDoor
open Go.ChangeShapes Go.WideShapes Go.ChangeAt Go.RowKit Go.Shelf

attribute [local go_sem] Oper.semAt_some

theorem halloc (W : World) (o : Obj) (k : Nat) : (W.alloc o).heap[k]? = if k = W.heap.size then some o else W.heap[k]? := by
  split
  · rename_i h; rw [h]; exact World.alloc_heap_new W o
  · rename_i h
    rcases Nat.lt_or_ge k W.heap.size with hk | hk
    · exact Below.heap_alloc W o k hk
    · rw [Array.getElem?_eq_none (by simp; omega), Array.getElem?_eq_none (by omega)]

set_option maxRecDepth 100000 in
set_option maxHeartbeats 16000000 in
theorem passes_in (a0 a1 b0 b1 : Int) (g : Nat) (pt : Nat → Int × Int) (w : World) (ha : M.In a0 a1) (hb : M.In b0 b1) (hpt : ∀ j, M.In (pt j).1 (pt j).2) (hg : g < w.heap.size) (hc : Corners w g pt) :
    CallsIn Fence.wide 3 Tryd.prog 65 #[.agg #[.int .i64 a0, .int .i64 a1], .agg #[.int .i64 b0, .int .i64 b1], .slice (some ⟨g, 0, none⟩) 16 16] w fun e w' => (∃ r : Bool, e = .returned (.bool r) ∧ (r = true ↔ M.CrossP ((sidesTo pt 16).map (lr pt a0 a1 b0 b1)))) ∧ Below w.heap.size w w' := by
  refine callsIn_of_wp_marks Tryd.func65 rfl trivial ?_ rfl
  simp only [Tryd.ntmps65, List.size_toArray, List.length_cons, List.length_nil, Nat.reduceAdd, Nat.reduceSub, Array.replicate_succ, Array.replicate_zero, List.push_toArray, List.append_toArray, List.nil_append, List.cons_append]
  gi_wp2_with (refine ⟨trivial, ?_⟩; gi_at_call 80; refine (sides_in _ _ _ _ _).mono ?_; rintro e w' ⟨rfl, rfl⟩)
  have hB0 : Below w.heap.size w (((((((w.alloc (.cells #[.int .i64 a0, .int .i64 a1] 34)).alloc (.cells #[.int .i64 b0, .int .i64 b1] 34)).alloc (.cells #[.bool false] 4)).alloc (.cells #[.bool false] 4)).alloc (.cells #[.int .i64 0, .int .i64 0] 100)).alloc (.cells #[.int .i64 0, .int .i64 0] 100)).alloc (.cells #[.slice (some ⟨g, 0, none⟩) 16 16] 46)) := by go_grown
  obtain ⟨W0, hW0⟩ : ∃ W0, (((((((w.alloc (.cells #[.int .i64 a0, .int .i64 a1] 34)).alloc (.cells #[.int .i64 b0, .int .i64 b1] 34)).alloc (.cells #[.bool false] 4)).alloc (.cells #[.bool false] 4)).alloc (.cells #[.int .i64 0, .int .i64 0] 100)).alloc (.cells #[.int .i64 0, .int .i64 0] 100)).alloc (.cells #[.slice (some ⟨g, 0, none⟩) 16 16] 46)) = W0 := ⟨_, rfl⟩
  have hsz : W0.heap.size = w.heap.size + 7 := by rw [← hW0]; simp
  have k0 : W0.heap[w.heap.size]? = some (.cells #[.int .i64 a0, .int .i64 a1] 34 (0, 0)) := by rw [← hW0]; simp only [halloc, World.size_alloc]; repeat (first | rw [if_pos trivial] | rw [if_pos (by omega)] | rw [if_neg (by omega)])
  have k1 : W0.heap[w.heap.size + 1]? = some (.cells #[.int .i64 b0, .int .i64 b1] 34 (0, 0)) := by rw [← hW0]; simp only [halloc, World.size_alloc]; repeat (first | rw [if_pos trivial] | rw [if_pos (by omega)] | rw [if_neg (by omega)])
  have k2 : W0.heap[w.heap.size + 1 + 1]? = some (.cells #[.bool false] 4 (0, 0)) := by rw [← hW0]; simp only [halloc, World.size_alloc]; repeat (first | rw [if_pos trivial] | rw [if_pos (by omega)] | rw [if_neg (by omega)])
  have k3 : W0.heap[w.heap.size + 1 + 1 + 1]? = some (.cells #[.bool false] 4 (0, 0)) := by rw [← hW0]; simp only [halloc, World.size_alloc]; repeat (first | rw [if_pos trivial] | rw [if_pos (by omega)] | rw [if_neg (by omega)])
  have k4 : W0.heap[w.heap.size + 1 + 1 + 1 + 1]? = some (.cells #[.int .i64 0, .int .i64 0] 100 (0, 0)) := by rw [← hW0]; simp only [halloc, World.size_alloc]; repeat (first | rw [if_pos trivial] | rw [if_pos (by omega)] | rw [if_neg (by omega)])
  have k5 : W0.heap[w.heap.size + 1 + 1 + 1 + 1 + 1]? = some (.cells #[.int .i64 0, .int .i64 0] 100 (0, 0)) := by rw [← hW0]; simp only [halloc, World.size_alloc]; repeat (first | rw [if_pos trivial] | rw [if_pos (by omega)] | rw [if_neg (by omega)])
  have k6 : W0.heap[w.heap.size + 1 + 1 + 1 + 1 + 1 + 1]? = some (.cells #[.slice (some ⟨g, 0, none⟩) 16 16] 46 (0, 0)) := by rw [← hW0]; simp only [halloc, World.size_alloc]; repeat (first | rw [if_pos trivial] | rw [if_pos (by omega)] | rw [if_neg (by omega)])
  have hg0 : Corners W0 g pt := by rw [hW0] at hB0; exact hc.below hB0 hg
  rw [hW0] at hB0 ⊢
  clear hW0
  have hI0 : PS w a0 a1 b0 b1 pt [] W0 := ⟨hB0, by omega, k0, k1, k2, by simpa using k3, M.NoBad.nil, 0, 0, 0, 0, M.Ent.zero, M.Lea.zero, by omega, k4, k5⟩
  have HI0 := Lib.hid hI0
  have HC0 := Lib.hid hg0
  have HK6 := Lib.hid k6
  clear hI0 hg0 k0 k1 k2 k3 k4 k5 k6 hc
  have HPT := Lib.hid hpt
  have HA := Lib.hid ha
  have HBB := Lib.hid hb
  clear hpt ha hb
  refine wpIn_rangeFunc_ownH rfl (by omega) (gf := 83) (lb := #[.pointer (some ⟨w.heap.size + 1 + 1 + 1 + 1 + 1 + 1, 0, none⟩)]) rfl trivial (enters_of Tryd.func83 (by kernel_rfl) rfl)
    (sides_stops 2 (by omega) (w.heap.size + 1 + 1 + 1 + 1 + 1 + 1) g 16 pt W0 (by omega) (by omega) HK6.out HC0.out) KpL.trans' (fun W l o o' h1 h2 h3 h4 => KpL.put (s := W0.heap.size) (by intro k hk; simp at hk; omega) W l o o' h1 h2 h3 h4) (Below.refl _ _) (fun _ => rfl)
    (PS w a0 a1 b0 b1 pt)
    (fun c pre W => (c = .ret ∧ ∃ j ∈ pre, (lr pt a0 a1 b0 b1 j).1 ≤ 0 ∧ (lr pt a0 a1 b0 b1 j).2 ≤ 0) ∧ W.heap[w.heap.size + 1 + 1]? = some (.cells #[.bool false] 4 (0, 0)) ∧ Below w.heap.size w W)
    (PS.own w a0 a1 b0 b1 pt _ (by omega))
    (fun c s W W' row hs hg' hr => ⟨hs.1, grown_cells hg' (fun r e => (hr r e).2) hs.2.1, hs.2.2.grown hg' hs.2.2.size (fun k e => by have := (hr k e).1; omega)⟩)
    HI0.out
    (PAx w a0 a1 b0 b1 g pt)
    (fun x a' _ X Y row hs hg' hr => by obtain ⟨B10, B11, h1, h2, h3, h4, h5⟩ := hs; exact ⟨B10, B11, h1, h2, grown_cells hg' (fun r e => (hr r e).2) h3, grown_cells hg' (fun r e => (hr r e).2) h4, h5⟩)
    ?assign ?body ?done ?stop
  case assign =>
    rintro l pre x W K hP hK
    have hs7 := hP.1.size
    rw [show encSide pt x = #[.agg #[.int .i64 (pt x).1, .int .i64 (pt x).2], .agg #[.int .i64 (pt (nxt x)).1, .int .i64 (pt (nxt x)).2]] from rfl]
    gi_wp2
    have hb1 : Below w.heap.size w ((W.alloc (.cells #[.int .i64 (pt x).1, .int .i64 (pt x).2] 34)).alloc (.cells #[.int .i64 (pt (nxt x)).1, .int .i64 (pt (nxt x)).2] 34)) := (hP.1.alloc hs7 _).alloc (by simp; omega) _
    have hsz2 := hP.2.1
    exact hK _ _ (((Kp7.refl w.heap.size W).alloc _).alloc _ |>.keeps |> fun h => by rw [hsz]; exact h) (((Kp7.refl w.heap.size W).alloc _).alloc _ |>.kpl hg (by omega)) (hP.of hb1 (by simp; omega) (fun k cs T hk h => by rw [halloc, halloc, if_neg (by have := R.heap_lt h; simp; omega), if_neg (by have := R.heap_lt h; omega)]; exact h))
      ⟨W.heap.size, W.heap.size + 1, by omega, by omega, by simp only [halloc, World.size_alloc]; repeat (first | rw [if_pos trivial] | rw [if_pos (by omega)] | rw [if_neg (by omega)]), by simp only [halloc, World.size_alloc]; repeat (first | rw [if_pos trivial] | rw [if_pos (by omega)] | rw [if_neg (by omega)]), rfl⟩
  case body =>
    rintro l pre x a' W hl _ hP ⟨B10, B11, h10, h11, z10, z11, rfl⟩ hlt
    have HP := Lib.hid hP
    obtain ⟨hB, h7, p0, p1, p2, p3, hnb, e1, e2, l1, l2, hE, hL, ⟨q1, q2, q3, q4⟩, p4, p5⟩ := hP
    have hx : ∃ P Q, lr pt a0 a1 b0 b1 x = (P, Q) := ⟨_, _, rfl⟩
    obtain ⟨P, Q, hx⟩ := hx
    have LC1 := Lib.hid (fun w => left_call (pt x).1 (pt x).2 (pt (nxt x)).1 (pt (nxt x)).2 a0 a1 w (HPT.out x) (HPT.out (nxt x)) HA.out)
    have LC2 := Lib.hid (fun w => left_call (pt x).1 (pt x).2 (pt (nxt x)).1 (pt (nxt x)).2 b0 b1 w (HPT.out x) (HPT.out (nxt x)) HBB.out)
    have hx1 : M.left (pt x).1 (pt x).2 (pt (nxt x)).1 (pt (nxt x)).2 a0 a1 = P := congrArg Prod.fst hx
    have hx2 : M.left (pt x).1 (pt x).2 (pt (nxt x)).1 (pt (nxt x)).2 b0 b1 = Q := congrArg Prod.snd hx
    rw [hx1] at LC1
    rw [hx2] at LC2
    obtain ⟨bd1, bd2, bd3, bd4⟩ := lr_bd HA.out HBB.out HPT.out x
    rw [hx] at bd1 bd2 bd3 bd4
    simp only [] at bd1 bd2 bd3 bd4
    have HX := Lib.hid hx
    clear hx hx1 hx2
    generalize (pt x).1 = X0 at *
    generalize (pt x).2 = X1 at *
    generalize (pt (nxt x)).1 = Y0 at *
    generalize (pt (nxt x)).2 = Y1 at *
    have c3 := R.cell_blk p3 0
    have f3 := R.free_blk p3 0
    simp at c3
    obtain ⟨W1, hW1⟩ : ∃ W1, W.setCell ⟨w.heap.size + 1 + 1 + 1, 0, none⟩ (.bool true) = W1 := ⟨_, rfl⟩
    have hh1 : ∀ k, k ≠ w.heap.size + 1 + 1 + 1 → W1.heap[k]? = W.heap[k]? := by rw [← hW1]; exact fun k hk => Below.heap_setCell _ _ _ _ hk
    have o0 := (hh1 _ (by omega)).trans p0
    have o1 := (hh1 _ (by omega)).trans p1
    have o2 := (hh1 _ (by omega)).trans p2
    have o3 : W1.heap[w.heap.size + 1 + 1 + 1]? = some (.cells #[.bool true] 4 (0, 0)) := by rw [← hW1]; exact set1blk p3
    have o4 := (hh1 _ (by omega)).trans p4
    have o5 := (hh1 _ (by omega)).trans p5
    have r10 := (hh1 _ (by omega)).trans z10
    have r11 := (hh1 _ (by omega)).trans z11
    have hBW1 : Below w.heap.size w W1 := by rw [← hW1]; exact hB.setCell (by simp; omega) _
    have kp1 : Kp7 w.heap.size W W1 := by rw [← hW1]; exact (Kp7.refl _ _).set _ (by omega)
    have hsW1 := kp1.1
    have a00 := R.cell_blk o0 0
    have a01 := R.cell_blk o0 1
    have a10 := R.cell_blk o1 0
    have a11 := R.cell_blk o1 1
    have a20 := R.cell_blk r10 0
    have a21 := R.cell_blk r10 1
    have a30 := R.cell_blk r11 0
    have a31 := R.cell_blk r11 1
    have lb10 := R.heap_lt r10
    have lb11 := R.heap_lt r11
    simp at a00 a01 a10 a11 a20 a21 a30 a31
    have O2 := Lib.hid o2
    have O3 := Lib.hid o3
    have O4 := Lib.hid o4
    have O5 := Lib.hid o5
    have HE := Lib.hid hE
    have HL := Lib.hid hL
    have HNB := Lib.hid hnb
    obtain ⟨r1, r2, r3⟩ := hE.pos
    obtain ⟨r4, r5, r6⟩ := hL.pos hnb
    clear o0 o1 o2 o3 o4 o5 r10 r11 p0 p1 p2 p3 p4 p5 z10 z11 hE hL hnb
    have KP1 := Lib.hid kp1
    clear kp1
    gi_wp2
    clear hW1 c3 f3
    have t0 : w.heap.size < W1.heap.size := by omega
    have t1 : w.heap.size + 1 < W1.heap.size := by omega
    refine R.region_grow_in [.val (.agg #[.int .i64 X0, .int .i64 X1]), .val (.agg #[.int .i64 Y0, .int .i64 Y1]), .val (.agg #[.int .i64 a0, .int .i64 a1]), .val (.int .i64 P), .val (.agg #[.int .i64 X0, .int .i64 X1]), .val (.agg #[.int .i64 Y0, .int .i64 Y1]), .val (.agg #[.int .i64 b0, .int .i64 b1]), .val (.int .i64 Q), .val (.int .i64 P), .val (.int .i64 Q)] (by kernel_rfl) (by kernel_rfl) (by kernel_rfl) (by kernel_rfl) ?_ ?_
    · refine ⟨?_, ?_, ?_, ?_, ?_, ?_, ?_, ?_, ?_, ?_, trivial⟩
      · intro act wx KK E hk hK
        have e10 := E 10 _ rfl
        obtain ⟨hc, hf⟩ := hk.cells rfl
        try simp only [World.size_drew] at hc hf
        go_simp
        exact hK _ (Below.refl _ _)
      · intro act wx KK E hk hK
        have e11 := E 11 _ rfl
        obtain ⟨hc, hf⟩ := hk.cells rfl
        try simp only [World.size_drew] at hc hf
        go_simp
        exact hK _ (Below.refl _ _)
      · intro act wx KK E hk hK
        have e3 := E 3 _ rfl
        obtain ⟨hc, hf⟩ := hk.cells rfl
        try simp only [World.size_drew] at hc hf
        go_simp
        exact hK _ (Below.refl _ _)
      · intro act wx KK E hk hK
        have e20 := E 20 _ rfl
        have e21 := E 21 _ rfl
        have e22 := E 22 _ rfl
        go_simp
        try refine ⟨trivial, ?_⟩
        refine (CallsIn.inRound l (callsIn_wide.2 (LC1.out _))).mono ?_
        rintro e w' ⟨rfl, hb⟩
        exact hK _ hb
      · intro act wx KK E hk hK
        have e10 := E 10 _ rfl
        obtain ⟨hc, hf⟩ := hk.cells rfl
        try simp only [World.size_drew] at hc hf
        go_simp
        exact hK _ (Below.refl _ _)
      · intro act wx KK E hk hK
        have e11 := E 11 _ rfl
        obtain ⟨hc, hf⟩ := hk.cells rfl
        try simp only [World.size_drew] at hc hf
        go_simp
        exact hK _ (Below.refl _ _)
      · intro act wx KK E hk hK
        have e4 := E 4 _ rfl
        obtain ⟨hc, hf⟩ := hk.cells rfl
        try simp only [World.size_drew] at hc hf
        go_simp
        exact hK _ (Below.refl _ _)
      · intro act wx KK E hk hK
        have e24 := E 24 _ rfl
        have e25 := E 25 _ rfl
        have e26 := E 26 _ rfl
        go_simp
        try refine ⟨trivial, ?_⟩
        refine (CallsIn.inRound l (callsIn_wide.2 (LC2.out _))).mono ?_
        rintro e w' ⟨rfl, hb⟩
        exact hK _ hb
      · intro act wx KK E hk hK
        have e23 := E 23 _ rfl
        go_simp
        exact hK _ (Below.refl _ _)
      · intro act wx KK E hk hK
        have e27 := E 27 _ rfl
        go_simp
        exact hK _ (Below.refl _ _)
    intro β5 w5 F
    simp only [R.finAct, R.Item.value, Act.put, List.getElem?_toArray, List.getElem?_cons_zero, List.getElem?_cons_succ, List.size_toArray, List.length_cons, List.length_nil, Nat.reduceAdd, List.setIfInBounds_toArray, List.set_cons_zero, List.set_cons_succ]
    have hB5 := stepB (w := w) (by go_grown) (F.kept.below rfl)
    obtain ⟨hc5, hf5⟩ := F.kept.cells rfl
    try simp only [World.size_drew] at hc5 hf5
    have hz5 := F.kept.size
    try simp only [World.size_alloc, World.size_setCell, World.size_drew] at hz5
    try have ha5 : w.heap.size < w5.heap.size := (by omega)
    try have hi5 : w.heap.size + 1 < w5.heap.size := (by omega)
    try have hj5 : w.heap.size + 1 + 1 < w5.heap.size := (by omega)
    try have hk5 : w.heap.size + 1 + 1 + 1 < w5.heap.size := (by omega)
    try have hl5 : w.heap.size + 1 + 1 + 1 + 1 < w5.heap.size := (by omega)
    have hH5 := fun b hb => F.kept.block b hb (R.noOlds_isOld rfl _ b)
    clear F
    have KP5 := Lib.hid (KP1.out.below hH5 hz5)
    have P25 := Lib.hid ((hH5 _ (by have := R.heap_lt O2.out; exact this)).trans O2.out)
    have P35 := Lib.hid ((hH5 _ (by have := R.heap_lt O3.out; exact this)).trans O3.out)
    have P45 := Lib.hid ((hH5 _ (by have := R.heap_lt O4.out; exact this)).trans O4.out)
    have P55 := Lib.hid ((hH5 _ (by have := R.heap_lt O5.out; exact this)).trans O5.out)
    have L2 := R.heap_lt P25.out
    have L3 := R.heap_lt P35.out
    have L4 := R.heap_lt P45.out
    have L5 := R.heap_lt P55.out
    have s20 := R.cell_blk P25.out 0
    have s2f := R.free_blk P25.out 0
    have s40 := R.cell_blk P45.out 0
    have s41 := R.cell_blk P45.out 1
    have s4f := R.free_blk P45.out 0
    have s4g := R.free_blk P45.out 1
    have s50 := R.cell_blk P55.out 0
    have s51 := R.cell_blk P55.out 1
    have s5f := R.free_blk P55.out 0
    have s5g := R.free_blk P55.out 1
    simp at s20 s40 s41 s50 s51
    clear hH5 hc5 hf5 a00 a01 a10 a11 a20 a21 a30 a31 O2 O3 O4 O5 LC1 LC2
    have keeps : ∀ W', Kp7 w.heap.size W W' → KeepsFrom W0.heap.size W W' := fun W' h => by rw [hsz]; exact h.keeps
    have KK := Lib.hid keeps
    clear keeps
    by_cases hp : P ≤ 0
    · by_cases hq : Q ≤ 0
      · gi_wp2
        have kp := KP5.out.set (b := w.heap.size + 1 + 1) (o := 0) (.bool false) (by omega)
        exact ⟨KK.out _ kp, ⟨rfl, x, by simp, by rw [HX.out]; exact hp, by rw [HX.out]; exact hq⟩, set1blk P25.out, hB5.setCell (by simp; omega) _⟩
      · have NB := HNB.out.snoc (p := P) (q := Q) (by omega)
        have LE := HL.out.keep (p := P) (q := Q) (by omega)
        by_cases z : e2 = 0
        · subst z
          have EN := HE.out.new (p := P) (q := Q) HNB.out hp (by omega) (.inl rfl)
          have EN' := Lib.hid EN
          have LE' := Lib.hid LE
          have NB' := Lib.hid NB
          clear EN LE NB
          gi_wp2
          refine ⟨trivial, ?_⟩
          gi_wp2
          have kp := ((KP5.out.set (b := w.heap.size + 1 + 1 + 1 + 1) (o := 0) (.int .i64 (-P)) (by omega)).set (b := w.heap.size + 1 + 1 + 1 + 1) (o := 1) (.int .i64 (Q - P)) (by omega)).alloc (.cells #[.int .i64 (-P), .int .i64 (Q - P)] 100)
          have hb := ((hB5.setCell (p := ⟨w.heap.size + 1 + 1 + 1 + 1, 0, none⟩) (by simp; omega) (.int .i64 (-P))).setCell (p := ⟨w.heap.size + 1 + 1 + 1 + 1, 1, none⟩) (by simp; omega) (.int .i64 (Q - P))).alloc (by simp [World.setCell]; exact hB5.size) (.cells #[.int .i64 (-P), .int .i64 (Q - P)] 100)
          refine ⟨by first | exact KK.out _ kp | exact kp.keeps, kp.kpl hg h7, HP.out.next HX.out kp hb ?_ ?_ NB'.out EN'.out LE'.out (by omega) ?_ ?_⟩
          · exact (Below.heap_alloc _ _ _ (by simpa [World.setCell] using L2)).trans ((Below.heap_setCell _ _ _ _ (by simp)).trans ((Below.heap_setCell _ _ _ _ (by simp)).trans P25.out))
          · exact (Below.heap_alloc _ _ _ (by simpa [World.setCell] using L3)).trans ((Below.heap_setCell _ _ _ _ (by simp)).trans ((Below.heap_setCell _ _ _ _ (by simp)).trans P35.out))
          · exact (Below.heap_alloc _ _ _ (by simpa [World.setCell] using L4)).trans (set2blk P45.out)
          · exact (Below.heap_alloc _ _ _ (by simpa [World.setCell] using L5)).trans ((Below.heap_setCell _ _ _ _ (by simp)).trans ((Below.heap_setCell _ _ _ _ (by simp)).trans P55.out))
        · have zb : (e2 == 0) = false := by simpa using z
          by_cases hlt2 : e1 * (Q - P) < -P * e2
          · have hd : decide (e1 * (Q - P) < -P * e2) = true := decide_eq_true hlt2
            have EN' := Lib.hid (HE.out.new (p := P) (q := Q) HNB.out hp (by omega) (.inr hlt2))
            have LE' := Lib.hid LE
            have NB' := Lib.hid NB
            clear LE NB hlt2
            gi_wp2_with (refine ⟨trivial, ?_⟩; gi_at_call 81; refine (CallsIn.inRound l (callsIn_wide.2 (shareLess_any e1 e2 (-P) (Q - P) _ (by omega) (by omega) (by omega) (by omega) (by omega) (by omega) (by omega) (by omega)))).mono ?_; rintro e w6 ⟨rfl, hb6⟩; have HS6 := Lib.hid hb6.size; have HO6 := Lib.hid (And.intro hb6.os (And.intro hb6.tape hb6.output)); have hs6 := hb6.size; simp only [World.size_alloc] at hs6; have HB6 := Lib.hid (fun b (hb : b < (w5.alloc (.cells #[.int .i64 (-P), .int .i64 (Q - P)] 100)).heap.size) => hb6.block b hb); have HH6 := Lib.hid (fun b (hb : b < w5.heap.size) => (hb6.block b (by simp; omega)).trans (Below.heap_alloc _ _ _ hb)); have HY6 := Lib.hid ((hb6.block w5.heap.size (by simp)).trans (World.alloc_heap_new _ _)); have y0 := R.cell_blk HY6.out 0; have y1 := R.cell_blk HY6.out 1; have x0 := R.cell_blk ((HH6.out _ L4).trans P45.out) 0; have x1 := R.cell_blk ((HH6.out _ L4).trans P45.out) 1; have g0 := R.free_blk ((HH6.out _ L4).trans P45.out) 0; have g1 := R.free_blk ((HH6.out _ L4).trans P45.out) 1; simp at y0 y1 x0 x1; clear hb6)
            have kp := (((KP5.out.alloc (.cells #[.int .i64 (-P), .int .i64 (Q - P)] 100)).below HB6.out HS6.out).set (b := w.heap.size + 1 + 1 + 1 + 1) (o := 0) (.int .i64 (-P)) (by omega)).set (b := w.heap.size + 1 + 1 + 1 + 1) (o := 1) (.int .i64 (Q - P)) (by omega)
            have hb := (((hB5.alloc hB5.size (.cells #[.int .i64 (-P), .int .i64 (Q - P)] 100)).trans (Below.mono ⟨HO6.out.1, HO6.out.2.1, HO6.out.2.2, HS6.out, HB6.out⟩ (by simp; omega))).setCell (p := ⟨w.heap.size + 1 + 1 + 1 + 1, 0, none⟩) (by simp; omega) (.int .i64 (-P))).setCell (p := ⟨w.heap.size + 1 + 1 + 1 + 1, 1, none⟩) (by simp; omega) (.int .i64 (Q - P))
            refine ⟨KK.out _ kp, kp.kpl hg h7, HP.out.next HX.out kp hb ?_ ?_ NB'.out EN'.out LE'.out (by omega) ?_ ?_⟩
            · exact (Below.heap_setCell _ _ _ _ (by simp only []; omega)).trans ((Below.heap_setCell _ _ _ _ (by simp only []; omega)).trans ((HH6.out _ L2).trans P25.out))
            · exact (Below.heap_setCell _ _ _ _ (by simp only []; omega)).trans ((Below.heap_setCell _ _ _ _ (by simp only []; omega)).trans ((HH6.out _ L3).trans P35.out))
            · exact set2blk ((HH6.out _ L4).trans P45.out)
            · exact (Below.heap_setCell _ _ _ _ (by simp only []; omega)).trans ((Below.heap_setCell _ _ _ _ (by simp only []; omega)).trans ((HH6.out _ L5).trans P55.out))
          · have hd : decide (e1 * (Q - P) < -P * e2) = false := decide_eq_false hlt2
            have EN' := Lib.hid (HE.out.stay (p := P) (q := Q) HNB.out z hlt2)
            have LE' := Lib.hid LE
            have NB' := Lib.hid NB
            clear LE NB hlt2
            gi_wp2_with (refine ⟨trivial, ?_⟩; gi_at_call 81; refine (CallsIn.inRound l (callsIn_wide.2 (shareLess_any e1 e2 (-P) (Q - P) _ (by omega) (by omega) (by omega) (by omega) (by omega) (by omega) (by omega) (by omega)))).mono ?_; rintro e w6 ⟨rfl, hb6⟩; have HS6 := Lib.hid hb6.size; have HO6 := Lib.hid (And.intro hb6.os (And.intro hb6.tape hb6.output)); have hs6 := hb6.size; simp only [World.size_alloc] at hs6; have HB6 := Lib.hid (fun b (hb : b < (w5.alloc (.cells #[.int .i64 (-P), .int .i64 (Q - P)] 100)).heap.size) => hb6.block b hb); have HH6 := Lib.hid (fun b (hb : b < w5.heap.size) => (hb6.block b (by simp; omega)).trans (Below.heap_alloc _ _ _ hb)); have HY6 := Lib.hid ((hb6.block w5.heap.size (by simp)).trans (World.alloc_heap_new _ _)); have y0 := R.cell_blk HY6.out 0; have y1 := R.cell_blk HY6.out 1; have x0 := R.cell_blk ((HH6.out _ L4).trans P45.out) 0; have x1 := R.cell_blk ((HH6.out _ L4).trans P45.out) 1; have g0 := R.free_blk ((HH6.out _ L4).trans P45.out) 0; have g1 := R.free_blk ((HH6.out _ L4).trans P45.out) 1; simp at y0 y1 x0 x1; clear hb6)
            have kp := (KP5.out.alloc (.cells #[.int .i64 (-P), .int .i64 (Q - P)] 100)).below HB6.out HS6.out
            have hb := (hB5.alloc hB5.size (.cells #[.int .i64 (-P), .int .i64 (Q - P)] 100)).trans (Below.mono ⟨HO6.out.1, HO6.out.2.1, HO6.out.2.2, HS6.out, HB6.out⟩ (by simp; omega))
            exact ⟨KK.out _ kp, kp.kpl hg h7, HP.out.next HX.out kp hb ((HH6.out _ L2).trans P25.out) ((HH6.out _ L3).trans P35.out) NB'.out EN'.out LE'.out (by omega) ((HH6.out _ L4).trans P45.out) ((HH6.out _ L5).trans P55.out)⟩
    · have NB := HNB.out.snoc (p := P) (q := Q) (by omega)
      have EN := HE.out.keep (p := P) (q := Q) (by omega)
      by_cases hq : Q ≤ 0
      · by_cases z : l2 = 0
        · subst z
          have LE' := Lib.hid (HL.out.new (p := P) (q := Q) HNB.out (by omega) hq (.inl rfl))
          have EN' := Lib.hid EN
          have NB' := Lib.hid NB
          clear EN NB
          gi_wp2
          refine ⟨trivial, ?_⟩
          gi_wp2
          have kp := ((KP5.out.set (b := w.heap.size + 1 + 1 + 1 + 1 + 1) (o := 0) (.int .i64 P) (by omega)).set (b := w.heap.size + 1 + 1 + 1 + 1 + 1) (o := 1) (.int .i64 (P - Q)) (by omega)).alloc (.cells #[.int .i64 P, .int .i64 (P - Q)] 100)
          have hb := ((hB5.setCell (p := ⟨w.heap.size + 1 + 1 + 1 + 1 + 1, 0, none⟩) (by simp; omega) (.int .i64 P)).setCell (p := ⟨w.heap.size + 1 + 1 + 1 + 1 + 1, 1, none⟩) (by simp; omega) (.int .i64 (P - Q))).alloc (by simp [World.setCell]; exact hB5.size) (.cells #[.int .i64 P, .int .i64 (P - Q)] 100)
          refine ⟨by first | exact KK.out _ kp | exact kp.keeps, kp.kpl hg h7, HP.out.next HX.out kp hb ?_ ?_ NB'.out EN'.out LE'.out (by omega) ?_ ?_⟩
          · exact (Below.heap_alloc _ _ _ (by simpa [World.setCell] using L2)).trans ((Below.heap_setCell _ _ _ _ (by simp)).trans ((Below.heap_setCell _ _ _ _ (by simp)).trans P25.out))
          · exact (Below.heap_alloc _ _ _ (by simpa [World.setCell] using L3)).trans ((Below.heap_setCell _ _ _ _ (by simp)).trans ((Below.heap_setCell _ _ _ _ (by simp)).trans P35.out))
          · exact (Below.heap_alloc _ _ _ (by simpa [World.setCell] using L4)).trans ((Below.heap_setCell _ _ _ _ (by simp)).trans ((Below.heap_setCell _ _ _ _ (by simp)).trans P45.out))
          · exact (Below.heap_alloc _ _ _ (by simpa [World.setCell] using L5)).trans (set2blk P55.out)
        · have zb : (l2 == 0) = false := by simpa using z
          by_cases hlt2 : P * l2 < l1 * (P - Q)
          · have hd : decide (P * l2 < l1 * (P - Q)) = true := decide_eq_true hlt2
            have LE' := Lib.hid (HL.out.new (p := P) (q := Q) HNB.out (by omega) hq (.inr hlt2))
            have EN' := Lib.hid EN
            have NB' := Lib.hid NB
            clear EN NB hlt2
            gi_wp2_with (refine ⟨trivial, ?_⟩; gi_at_call 81; refine (CallsIn.inRound l (callsIn_wide.2 (shareLess_any P (P - Q) l1 l2 _ (by omega) (by omega) (by omega) (by omega) (by omega) (by omega) (by omega) (by omega)))).mono ?_; rintro e w6 ⟨rfl, hb6⟩; have HS6 := Lib.hid hb6.size; have HO6 := Lib.hid (And.intro hb6.os (And.intro hb6.tape hb6.output)); have hs6 := hb6.size; simp only [World.size_alloc] at hs6; have HB6 := Lib.hid (fun b (hb : b < (w5.alloc (.cells #[.int .i64 P, .int .i64 (P - Q)] 100)).heap.size) => hb6.block b hb); have HH6 := Lib.hid (fun b (hb : b < w5.heap.size) => (hb6.block b (by simp; omega)).trans (Below.heap_alloc _ _ _ hb)); have HY6 := Lib.hid ((hb6.block w5.heap.size (by simp)).trans (World.alloc_heap_new _ _)); have y0 := R.cell_blk HY6.out 0; have y1 := R.cell_blk HY6.out 1; have x0 := R.cell_blk ((HH6.out _ L5).trans P55.out) 0; have x1 := R.cell_blk ((HH6.out _ L5).trans P55.out) 1; have g0 := R.free_blk ((HH6.out _ L5).trans P55.out) 0; have g1 := R.free_blk ((HH6.out _ L5).trans P55.out) 1; simp at y0 y1 x0 x1; clear hb6)
            have kp := (((KP5.out.alloc (.cells #[.int .i64 P, .int .i64 (P - Q)] 100)).below HB6.out HS6.out).set (b := w.heap.size + 1 + 1 + 1 + 1 + 1) (o := 0) (.int .i64 P) (by omega)).set (b := w.heap.size + 1 + 1 + 1 + 1 + 1) (o := 1) (.int .i64 (P - Q)) (by omega)
            have hb := (((hB5.alloc hB5.size (.cells #[.int .i64 P, .int .i64 (P - Q)] 100)).trans (Below.mono ⟨HO6.out.1, HO6.out.2.1, HO6.out.2.2, HS6.out, HB6.out⟩ (by simp; omega))).setCell (p := ⟨w.heap.size + 1 + 1 + 1 + 1 + 1, 0, none⟩) (by simp; omega) (.int .i64 P)).setCell (p := ⟨w.heap.size + 1 + 1 + 1 + 1 + 1, 1, none⟩) (by simp; omega) (.int .i64 (P - Q))
            refine ⟨KK.out _ kp, kp.kpl hg h7, HP.out.next HX.out kp hb ?_ ?_ NB'.out EN'.out LE'.out (by omega) ?_ ?_⟩
            · exact (Below.heap_setCell _ _ _ _ (by simp only []; omega)).trans ((Below.heap_setCell _ _ _ _ (by simp only []; omega)).trans ((HH6.out _ L2).trans P25.out))
            · exact (Below.heap_setCell _ _ _ _ (by simp only []; omega)).trans ((Below.heap_setCell _ _ _ _ (by simp only []; omega)).trans ((HH6.out _ L3).trans P35.out))
            · exact (Below.heap_setCell _ _ _ _ (by simp only []; omega)).trans ((Below.heap_setCell _ _ _ _ (by simp only []; omega)).trans ((HH6.out _ L4).trans P45.out))
            · exact set2blk ((HH6.out _ L5).trans P55.out)
          · have hd : decide (P * l2 < l1 * (P - Q)) = false := decide_eq_false hlt2
            have LE' := Lib.hid (HL.out.stay (p := P) (q := Q) HNB.out z hlt2)
            have EN' := Lib.hid EN
            have NB' := Lib.hid NB
            clear EN NB hlt2
            gi_wp2_with (refine ⟨trivial, ?_⟩; gi_at_call 81; refine (CallsIn.inRound l (callsIn_wide.2 (shareLess_any P (P - Q) l1 l2 _ (by omega) (by omega) (by omega) (by omega) (by omega) (by omega) (by omega) (by omega)))).mono ?_; rintro e w6 ⟨rfl, hb6⟩; have HS6 := Lib.hid hb6.size; have HO6 := Lib.hid (And.intro hb6.os (And.intro hb6.tape hb6.output)); have hs6 := hb6.size; simp only [World.size_alloc] at hs6; have HB6 := Lib.hid (fun b (hb : b < (w5.alloc (.cells #[.int .i64 P, .int .i64 (P - Q)] 100)).heap.size) => hb6.block b hb); have HH6 := Lib.hid (fun b (hb : b < w5.heap.size) => (hb6.block b (by simp; omega)).trans (Below.heap_alloc _ _ _ hb)); have HY6 := Lib.hid ((hb6.block w5.heap.size (by simp)).trans (World.alloc_heap_new _ _)); have y0 := R.cell_blk HY6.out 0; have y1 := R.cell_blk HY6.out 1; have x0 := R.cell_blk ((HH6.out _ L5).trans P55.out) 0; have x1 := R.cell_blk ((HH6.out _ L5).trans P55.out) 1; have g0 := R.free_blk ((HH6.out _ L5).trans P55.out) 0; have g1 := R.free_blk ((HH6.out _ L5).trans P55.out) 1; simp at y0 y1 x0 x1; clear hb6)
            have kp := (KP5.out.alloc (.cells #[.int .i64 P, .int .i64 (P - Q)] 100)).below HB6.out HS6.out
            have hb := (hB5.alloc hB5.size (.cells #[.int .i64 P, .int .i64 (P - Q)] 100)).trans (Below.mono ⟨HO6.out.1, HO6.out.2.1, HO6.out.2.2, HS6.out, HB6.out⟩ (by simp; omega))
            exact ⟨KK.out _ kp, kp.kpl hg h7, HP.out.next HX.out kp hb ((HH6.out _ L2).trans P25.out) ((HH6.out _ L3).trans P35.out) NB'.out EN'.out LE'.out (by omega) ((HH6.out _ L4).trans P45.out) ((HH6.out _ L5).trans P55.out)⟩
      · have LE' := Lib.hid (HL.out.keep (p := P) (q := Q) (by omega))
        have EN' := Lib.hid EN
        have NB' := Lib.hid NB
        clear EN NB
        gi_wp2
        exact ⟨by first | exact KK.out _ KP5.out | exact KP5.out.keeps, KP5.out.kpl hg h7, HP.out.next HX.out KP5.out hB5 P25.out P35.out NB'.out EN'.out LE'.out (by omega) P45.out P55.out⟩
  case done =>
    rintro D ys W hD rfl ⟨hB, h7, p0, p1, p2, p3, hnb, e1, e2, l1, l2, hE, hL, ⟨q1, q2, q3, q4⟩, p4, p5⟩ hK
    have c2 := R.cell_blk p2 0
    have f2 := R.free_blk p2 0
    have c3 := R.cell_blk p3 0
    have c40 := R.cell_blk p4 0
    have c41 := R.cell_blk p4 1
    have c50 := R.cell_blk p5 0
    have c51 := R.cell_blk p5 1
    simp at c2 f2 c3 c40 c41 c50 c51
    have hDs := (Array.getElem?_eq_some_iff.1 hK).1
    obtain ⟨r1, r2, r3⟩ := hE.pos
    obtain ⟨r4, r5, r6⟩ := hL.pos hnb
    have HKD := Lib.hid hK
    have HP2 := Lib.hid p2
    have CN := Lib.hid (M.cross_none hE hL hnb)
    have CB := Lib.hid (M.cross_both hE hL hnb)
    clear p0 p1 p2 p3 p4 p5 hE hL hnb hK
    by_cases z : e2 = 0 ∨ l2 = 0
    · have iff1 := CN.out z
      have HIF := Lib.hid iff1
      clear iff1
      have fin : (bodyPostM Fence.wide 3 Tryd.prog Tryd.f65 fun e w' => (∃ r, e = .returned (.bool r) ∧ (r = true ↔ M.CrossP ((sidesTo pt 16).map (lr pt a0 a1 b0 b1)))) ∧ Below w.heap.size w w') = (bodyPostM Fence.wide 3 Tryd.prog Tryd.f65 fun e w' => (∃ r, e = .returned (.bool r) ∧ (r = true ↔ M.CrossP ((sidesTo pt 16).map (lr pt a0 a1 b0 b1)))) ∧ Below w.heap.size w w') := rfl
      clear fin
      by_cases z1 : e2 = 0
      · gi_wp2
        have hK' := (KeepsOthers.setCell W ⟨w.heap.size + 1 + 1, 0, none⟩ (.bool (!(sidesTo pt 16).isEmpty))).same D _ HKD.out rfl
        refine ⟨by simp, .inl ⟨_, _, rfl, run_takeDeferred hK', ?_⟩⟩
        have hc5 := cell_kept (World.cell?_setCell_same' W ⟨w.heap.size + 1 + 1, 0, none⟩ (.bool (!(sidesTo pt 16).isEmpty)) (by rw [c2]; rfl)) (grownBy_putObj' _ D (.deferred none)) (fun r e => by cases e; exact ⟨_, hK', rfl⟩)
        refine ⟨.bool (!(sidesTo pt 16).isEmpty), ?_, ⟨_, rfl, ?_⟩, (hB.setCell (p := ⟨w.heap.size + 1 + 1, 0, none⟩) (by simp; omega) _).trans (belowK_b (w := w) (Nat.le_refl _) _ D _ _ (by omega) hK' rfl rfl)⟩
        · simp [results, Tryd.f65, go_sem, hc5]
        · rw [HIF.out]; simp [List.isEmpty_iff]
      · have z2 : l2 = 0 := z.resolve_left z1
        gi_wp2
        have hK' := (KeepsOthers.setCell W ⟨w.heap.size + 1 + 1, 0, none⟩ (.bool (!(sidesTo pt 16).isEmpty))).same D _ HKD.out rfl
        refine ⟨by simp, .inl ⟨_, _, rfl, run_takeDeferred hK', ?_⟩⟩
        have hc5 := cell_kept (World.cell?_setCell_same' W ⟨w.heap.size + 1 + 1, 0, none⟩ (.bool (!(sidesTo pt 16).isEmpty)) (by rw [c2]; rfl)) (grownBy_putObj' _ D (.deferred none)) (fun r e => by cases e; exact ⟨_, hK', rfl⟩)
        refine ⟨.bool (!(sidesTo pt 16).isEmpty), ?_, ⟨_, rfl, ?_⟩, (hB.setCell (p := ⟨w.heap.size + 1 + 1, 0, none⟩) (by simp; omega) _).trans (belowK_b (w := w) (Nat.le_refl _) _ D _ _ (by omega) hK' rfl rfl)⟩
        · simp [results, Tryd.f65, go_sem, hc5]
        · rw [HIF.out]; simp [List.isEmpty_iff]
    · have z1 : ¬ e2 = 0 := fun h => z (.inl h)
      have z2 : ¬ l2 = 0 := fun h => z (.inr h)
      have HIF := Lib.hid (CB.out z1 z2)
      clear z
      have z1b : (e2 == 0) = false := by simpa using z1
      have z2b : (l2 == 0) = false := by simpa using z2
      gi_wp2_with (refine ⟨trivial, ?_⟩; gi_at_call 81; refine (callsIn_wide.2 (shareLess_any e1 e2 l1 l2 _ (by omega) (by omega) (by omega) (by omega) (by omega) (by omega) (by omega) (by omega))).mono ?_; rintro e w6 ⟨rfl, hb6⟩; have c6 := (hb6.block (w.heap.size + 1 + 1) (by omega)).trans HP2.out; have c62 := R.cell_blk c6 0; have f62 := R.free_blk c6 0; have HC6 := Lib.hid c6; clear c6; simp at c62 f62)
      have hK6 := (hb6.block D hDs).trans HKD.out
      have hK' := (KeepsOthers.setCell w6 ⟨w.heap.size + 1 + 1, 0, none⟩ (.bool (decide (e1 * l2 < l1 * e2)))).same D _ hK6 rfl
      refine ⟨by simp, .inl ⟨_, _, rfl, run_takeDeferred hK', ?_⟩⟩
      have hc5 := cell_kept (World.cell?_setCell_same' w6 ⟨w.heap.size + 1 + 1, 0, none⟩ (.bool (decide (e1 * l2 < l1 * e2))) (by rw [c62]; rfl)) (grownBy_putObj' _ D (.deferred none)) (fun r e => by cases e; exact ⟨_, hK', rfl⟩)
      refine ⟨.bool (decide (e1 * l2 < l1 * e2)), ?_, ⟨_, rfl, ?_⟩, ((hB.trans (hb6.mono hB.size)).setCell (p := ⟨w.heap.size + 1 + 1, 0, none⟩) (by simp; omega) _).trans (belowK_b (w := w) (Nat.le_refl _) _ D _ _ (by omega) hK' rfl rfl)⟩
      · simp [results, Tryd.f65, go_sem, hc5]
      · rw [HIF.out]; simp
  case stop =>
    rintro D c pre W hD ⟨k, hk, rfl⟩ ⟨⟨rfl, j, hj, hb1, hb2⟩, p2, hB⟩ hK
    have c2 := R.cell_blk p2 0
    gi_wp2
    refine ⟨by simp, .inl ⟨_, _, rfl, run_takeDeferred hK, ?_⟩⟩
    have hc5 := cell_kept c2 (grownBy_putObj' _ D (.deferred none)) (fun r e => by cases e; exact ⟨_, hK, rfl⟩)
    refine ⟨.bool false, ?_, ⟨_, rfl, ?_⟩, hB.trans (belowK_b (w := w) (Nat.le_refl _) W D _ _ (by omega) hK rfl rfl)⟩
    · simp at hc5
      simp [results, Tryd.f65, go_sem, hc5]
    · simp only [Bool.false_eq_true, false_iff]
      refine M.cross_bad (lr pt a0 a1 b0 b1 j) (List.mem_map_of_mem ?_) ⟨hb1, hb2⟩
      unfold sidesTo at hj ⊢
      rw [List.mem_filter, List.mem_range] at hj ⊢
      exact ⟨by omega, hj.2⟩
end Go.Proofs.YtfcjdmpfoogljaaDoor
