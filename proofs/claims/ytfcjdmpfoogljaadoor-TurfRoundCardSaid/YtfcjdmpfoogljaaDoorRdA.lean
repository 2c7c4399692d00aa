/-
  TurfRound: the segment does not pass the ring (its walk).
-/
import Derived.Test.YtfcjdmpfoogljaaDoorRoundO
import Derived.Test.YtfcjdmpfoogljaaDoorPasses
import Derived.Test.YtfcjdmpfoogljaaDoorKitC
import Derived.Test.YtfcjdmpfoogljaaDoorFine
set_option linter.unusedVariables false
set_option linter.unusedSimpArgs false
namespace Go.Proofs.YtfcjdmpfoogljaaDoor
open Go.ChangeShapes Go.WideShapes Go.ChangeAt Go.RowKit

set_option maxRecDepth 100000 in
set_option maxHeartbeats 16000000 in
theorem rd_f (s0 s1 t0 t1 u0 u1 m r A0 A1 B0 B1 C0 C1 h sa sb : Int) (cut : Bool) (w : World) (ht : Tab w) (r1 : 0 ≤ r) (r2 : r ≤ 65535)
    (AT1 : ∀ w : World, Calls Tryd.prog 42 #[.agg #[.int .i16 s0, .int .i16 s1], .int .u8 m] w fun e w' => e = .returned (.agg #[.int .i64 A0, .int .i64 A1]) ∧ Below w.heap.size w w')
    (AT2 : ∀ w : World, Calls Tryd.prog 42 #[.agg #[.int .i16 t0, .int .i16 t1], .int .u8 m] w fun e w' => e = .returned (.agg #[.int .i64 B0, .int .i64 B1]) ∧ Below w.heap.size w w')
    (AT3 : ∀ w : World, Calls Tryd.prog 42 #[.agg #[.int .i16 u0, .int .i16 u1], .int .u8 m] w fun e w' => e = .returned (.agg #[.int .i64 C0, .int .i64 C1]) ∧ Below w.heap.size w w')
    (i3 : M.In C0 C1) (hd : chkDisc C0 C1 (1 + r) = 0) (hc : M.chk (ringPts C0 C1 (1 + r)) = 0)
    (CU : ∀ w : World, Calls Tryd.prog 30 #[.agg #[.int .i64 A0, .int .i64 A1], .agg #[.int .i64 B0, .int .i64 B1], .agg #[.int .i64 C0, .int .i64 C1, .int .i64 (1 + r)]] w fun e w' => e = .returned (.tuple #[.bool cut, .int .i64 0]) ∧ Below w.heap.size w w')
    (PA : ∀ w : World, Tab w → Calls Tryd.prog 36 #[.agg #[.int .i64 A0, .int .i64 A1], .agg #[.int .i64 B0, .int .i64 B1], .agg #[.int .i64 C0, .int .i64 C1, .int .i64 (1 + r)]] w fun e w' => e = .returned (.tuple #[.bool false, .int .i64 0]) ∧ Below w.heap.size w w')
    (SK : ∀ k : Nat, k < 16 → M.sq (rpt C0 C1 (1 + r) k).1 (rpt C0 C1 (1 + r) k).2 C0 C1 ≤ (1 + r) * (1 + r) ∧ (0 < (1 + r) - (1 + r) / 8192 - 3 → ((1 + r) - (1 + r) / 8192 - 3) * ((1 + r) - (1 + r) / 8192 - 3) ≤ M.sq (rpt C0 C1 (1 + r) k).1 (rpt C0 C1 (1 + r) k).2 C0 C1))
    (SA : ∀ w : World, Calls Tryd.prog 20 #[.agg #[.int .i64 A0, .int .i64 A1], .agg #[.int .i64 C0, .int .i64 C1]] w fun e w' => e = .returned (.tuple #[.int .i64 sa, .int .i64 0]) ∧ Below w.heap.size w w')
    (SB : ∀ w : World, Calls Tryd.prog 20 #[.agg #[.int .i64 B0, .int .i64 B1], .agg #[.int .i64 C0, .int .i64 C1]] w fun e w' => e = .returned (.tuple #[.int .i64 sb, .int .i64 0]) ∧ Below w.heap.size w w')
    (LI : 0 < 15 * (1 + r) / 16 - 8 → ∀ w : World, Calls Tryd.prog 28 #[.agg #[.int .i64 A0, .int .i64 A1], .agg #[.int .i64 B0, .int .i64 B1], .agg #[.int .i64 C0, .int .i64 C1], .int .i64 (15 * (1 + r) / 16 - 8)] w fun e w' => e = .returned (.tuple #[.int .i64 h, .int .i64 0]) ∧ Below w.heap.size w w')
    (hfin : 0 < 15 * (1 + r) / 16 - 8 → 0 ≤ h ∨ sa ≤ (1 + r) * (1 + r) ∨ sb ≤ (1 + r) * (1 + r))
    :
    Calls Tryd.prog 10 #[.agg #[.int .i16 s0, .int .i16 s1], .agg #[.int .i16 t0, .int .i16 t1], .agg #[.int .i16 u0, .int .i16 u1], .int .u8 m, .int .u16 r] w fun e w' => e = .returned (.bool true) ∧ Below w.heap.size w w' := by
  have hz := ht.size
  have HT := Lib.hid ht
  clear ht
  have HPT := Lib.hid (rpt_in C0 C1 (1 + r) (chkDisc_in hd).1 hc)
  replace AT1 := Lib.hid AT1
  replace AT2 := Lib.hid AT2
  replace AT3 := Lib.hid AT3
  replace i3 := Lib.hid i3
  replace hd := Lib.hid hd
  replace hc := Lib.hid hc
  replace CU := Lib.hid CU
  replace PA := Lib.hid PA
  replace SK := Lib.hid SK
  replace SA := Lib.hid SA
  replace SB := Lib.hid SB
  replace LI := Lib.hid LI
  replace hfin := Lib.hid hfin
  go_enter Tryd.func10, Tryd.ntmps10
  go_wp2
  refine R.region_grow [.val (.agg #[.int .i16 s0, .int .i16 s1]), .val (.int .u8 m), .val (.agg #[.int .i64 A0, .int .i64 A1]), .val (.agg #[.int .i16 t0, .int .i16 t1]), .val (.int .u8 m), .val (.agg #[.int .i64 B0, .int .i64 B1]), .new 34 #[.int .i64 0, .int .i64 0], .new 34 #[.int .i64 0, .int .i64 0], .put 6 #[.int .i64 A0, .int .i64 A1], .put 7 #[.int .i64 B0, .int .i64 B1]] (by kernel_rfl) (by kernel_rfl) (by kernel_rfl) (by kernel_rfl) ?_ ?_
  · refine ⟨?_, ?_, ?_, ?_, ?_, ?_, ?_, ?_, ?_, ?_, trivial⟩
    · intro act wx KK E hk hK
      have e5 := E 5 _ rfl
      obtain ⟨hc, hf⟩ := hk.cells rfl
      try simp only [World.size_drew] at hc hf
      go_simp
      exact hK _ (Below.refl _ _)
    · intro act wx KK E hk hK
      have e3 := E 3 _ rfl
      go_simp
      exact hK _ (Below.refl _ _)
    · intro act wx KK E hk hK
      have e28 := E 28 _ rfl
      have e29 := E 29 _ rfl
      go_simp
      refine (AT1.out _).mono ?_
      rintro e w' ⟨rfl, hb⟩
      exact hK _ hb
    · intro act wx KK E hk hK
      have e6 := E 6 _ rfl
      obtain ⟨hc, hf⟩ := hk.cells rfl
      try simp only [World.size_drew] at hc hf
      go_simp
      exact hK _ (Below.refl _ _)
    · intro act wx KK E hk hK
      have e3 := E 3 _ rfl
      go_simp
      exact hK _ (Below.refl _ _)
    · intro act wx KK E hk hK
      have e31 := E 31 _ rfl
      have e32 := E 32 _ rfl
      go_simp
      refine (AT2.out _).mono ?_
      rintro e w' ⟨rfl, hb⟩
      exact hK _ hb
    · intro act wx KK hK
      go_simp
      exact hK
    · intro act wx KK hK
      go_simp
      exact hK
    · intro TT zz hT act wx KK bb cs0 dd E hk hd hb hh hsz hK
      cases hT
      obtain ⟨c0, c1, rfl⟩ := R.of_size2 hsz
      cases hd
      have e30 := E 30 _ rfl
      have kc0 := R.cell_blk hh 0
      have kf0 := R.free_blk hh 0
      have kc1 := R.cell_blk hh 1
      have kf1 := R.free_blk hh 1
      have hK' := hK _ (R.rewrites2 hh)
      clear hK
      go_simp
      exact hK'
    · intro TT zz hT act wx KK bb cs0 dd E hk hd hb hh hsz hK
      cases hT
      obtain ⟨c0, c1, rfl⟩ := R.of_size2 hsz
      cases hd
      have e33 := E 33 _ rfl
      have kc0 := R.cell_blk hh 0
      have kf0 := R.free_blk hh 0
      have kc1 := R.cell_blk hh 1
      have kf1 := R.free_blk hh 1
      have hK' := hK _ (R.rewrites2 hh)
      clear hK
      go_simp
      exact hK'
  intro β1 w1 F
  simp only [R.finAct, R.Item.value, Act.put, List.getElem?_toArray, List.getElem?_cons_zero, List.getElem?_cons_succ, List.size_toArray, List.length_cons, List.length_nil, Nat.reduceAdd, List.setIfInBounds_toArray, List.set_cons_zero, List.set_cons_succ]
  have hB1 := stepB (w := w) (by go_grown) (F.kept.below rfl)
  obtain ⟨hc1, hf1⟩ := F.kept.cells rfl
  try simp only [World.size_drew] at hc1 hf1
  have hz1 := F.kept.size
  try simp only [World.size_alloc, World.size_setCell, World.size_drew] at hz1
  try have ha1 : w.heap.size < w1.heap.size := (by omega)
  try have hi1 : w.heap.size + 1 < w1.heap.size := (by omega)
  try have hj1 : w.heap.size + 1 + 1 < w1.heap.size := (by omega)
  try have hk1 : w.heap.size + 1 + 1 + 1 < w1.heap.size := (by omega)
  try have hl1 : w.heap.size + 1 + 1 + 1 + 1 < w1.heap.size := (by omega)
  obtain ⟨n6a1, n6b1, _⟩ := F.news 6 _ _ rfl
  obtain ⟨n7a1, n7b1, _⟩ := F.news 7 _ _ rfl
  have p81 := F.puts 8 6 _ _ _ rfl rfl
  have q8_01 := R.cell_blk p81 0
  have f8_01 := R.free_blk p81 0
  have q8_11 := R.cell_blk p81 1
  have f8_11 := R.free_blk p81 1
  replace p81 := Lib.hid p81
  have p91 := F.puts 9 7 _ _ _ rfl rfl
  have q9_01 := R.cell_blk p91 0
  have f9_01 := R.free_blk p91 0
  have q9_11 := R.cell_blk p91 1
  have f9_11 := R.free_blk p91 1
  replace p91 := Lib.hid p91
  have d6_71 := F.apart 6 7 _ _ _ _ rfl rfl (by omega)
  clear F
  generalize β1 6 = BA at *
  generalize β1 7 = BB at *
  go_wp2_with fail
  (go_at_call 42; refine (AT3.out _).mono ?_; rintro e w2 ⟨rfl, hb2⟩; obtain ⟨hB2, hz2, hc2, hf2⟩ := grow4 (w := w) (by go_grown) hb2; (try simp only [World.size_alloc, World.size_setCell, World.size_drew] at hz2); (try have hy2 := Nat.lt_of_succ_le hz2); (try have hx2 := Nat.lt_of_succ_lt hy2); (try have hw2 := Nat.lt_of_succ_lt hx2); (try have hv2 := Nat.lt_of_succ_lt hw2); (try have ha2 : w.heap.size < w2.heap.size := (by omega)); (try have hi2 : w.heap.size + 1 < w2.heap.size := (by omega)); (try have hj2 : w.heap.size + 1 + 1 < w2.heap.size := (by omega)); (try have hk2 : w.heap.size + 1 + 1 + 1 < w2.heap.size := (by omega)); (try have hl2 : w.heap.size + 1 + 1 + 1 + 1 < w2.heap.size := (by omega)))
  have LA2 := Nat.lt_of_lt_of_le n6b1 hz2
  have LB2 := Nat.lt_of_lt_of_le n7b1 hz2
  go_wp2_with fail
  (go_at_call 34; refine (Ring_ok C0 C1 (1 + r) _ (HT.out.below (by (first | assumption | go_grown) : Below w.heap.size w _) hz) hd.out hc.out).mono ?_; rintro e w3 ⟨g, rfl, g1, g2, g3, hb3⟩; obtain ⟨hB3, hz3, hc3, hf3⟩ := grow4 (w := w) (by go_grown) hb3)
  try simp only [World.size_alloc, World.size_setCell, World.size_drew] at hz3 g1
  have LA3 : BA < w3.heap.size := by omega
  have LB3 : BB < w3.heap.size := by omega
  have LD3 : w2.heap.size < w3.heap.size := by omega
  have CG := Lib.hid (show ∀ j, j < 16 → w3.cell? ⟨g, j * 2, none⟩ = some (.int .i64 (rpt C0 C1 (1 + r) j).1) ∧ w3.cell? ⟨g, j * 2 + 1, none⟩ = some (.int .i64 (rpt C0 C1 (1 + r) j).2) from fun j hj => by obtain ⟨cs, k1, k2, k3⟩ := g3; exact ⟨(R.cell_blk k1 _).trans (k3 j hj).1, (R.cell_blk k1 _).trans (k3 j hj).2⟩)
  clear g3
  go_wp2_with fail
  (go_at_call 30; refine (CU.out _).mono ?_; rintro e w4 ⟨rfl, hb4⟩; obtain ⟨hB4, hz4, hc4, hf4⟩ := grow4 (w := w) (by go_grown) hb4; (try simp only [World.size_alloc, World.size_setCell, World.size_drew] at hz4); (try have hy4 := Nat.lt_of_succ_le hz4); (try have hx4 := Nat.lt_of_succ_lt hy4); (try have hw4 := Nat.lt_of_succ_lt hx4); (try have hv4 := Nat.lt_of_succ_lt hw4); (try have ha4 : w.heap.size < w4.heap.size := (by omega)); (try have hi4 : w.heap.size + 1 < w4.heap.size := (by omega)); (try have hj4 : w.heap.size + 1 + 1 < w4.heap.size := (by omega)); (try have hk4 : w.heap.size + 1 + 1 + 1 < w4.heap.size := (by omega)); (try have hl4 : w.heap.size + 1 + 1 + 1 + 1 < w4.heap.size := (by omega)))
  have LA4 : BA < w4.heap.size := by omega
  have LB4 : BB < w4.heap.size := by omega
  have LD4 : w2.heap.size < w4.heap.size := by omega
  have LG4 : g < w4.heap.size := by omega
  go_wp2_with fail
  (go_at_call 36; refine (PA.out _ (HT.out.below (by (first | assumption | go_grown) : Below w.heap.size w _) hz)).mono ?_; rintro e w5 ⟨rfl, hb5⟩; obtain ⟨hB5, hz5, hc5, hf5⟩ := grow4 (w := w) (by go_grown) hb5; (try simp only [World.size_alloc, World.size_setCell, World.size_drew] at hz5); (try have hy5 := Nat.lt_of_succ_le hz5); (try have hx5 := Nat.lt_of_succ_lt hy5); (try have hw5 := Nat.lt_of_succ_lt hx5); (try have hv5 := Nat.lt_of_succ_lt hw5); (try have ha5 : w.heap.size < w5.heap.size := (by omega)); (try have hi5 : w.heap.size + 1 < w5.heap.size := (by omega)); (try have hj5 : w.heap.size + 1 + 1 < w5.heap.size := (by omega)); (try have hk5 : w.heap.size + 1 + 1 + 1 < w5.heap.size := (by omega)); (try have hl5 : w.heap.size + 1 + 1 + 1 + 1 < w5.heap.size := (by omega)))
  have LA5 : BA < w5.heap.size := by omega
  have LB5 : BB < w5.heap.size := by omega
  have LD5 : w2.heap.size < w5.heap.size := by omega
  have LG5 : g < w5.heap.size := by omega
  have CG5 := Lib.hid (show ∀ j, j < 16 → w5.cell? ⟨g, j * 2, none⟩ = some (.int .i64 (rpt C0 C1 (1 + r) j).1) ∧ w5.cell? ⟨g, j * 2 + 1, none⟩ = some (.int .i64 (rpt C0 C1 (1 + r) j).2) from fun j hj => ⟨(hc5 _ _ LG4).trans ((hc4 _ _ g2).trans (CG.out j hj).1), (hc5 _ _ LG4).trans ((hc4 _ _ g2).trans (CG.out j hj).2)⟩)
  have dA : w5.cell? ⟨BA, 0, none⟩ = some (.int .i64 A0) ∧ w5.cell? ⟨BA, 1, none⟩ = some (.int .i64 A1) := ⟨(hc5 _ _ LA4).trans ((hc4 _ _ LA3).trans ((hc3 _ _ (by first | go_size | (simp; omega))).trans (by first | go_cell | (simp; go_cell)))), (hc5 _ _ LA4).trans ((hc4 _ _ LA3).trans ((hc3 _ _ (by first | go_size | (simp; omega))).trans (by first | go_cell | (simp; go_cell))))⟩
  have dB : w5.cell? ⟨BB, 0, none⟩ = some (.int .i64 B0) ∧ w5.cell? ⟨BB, 1, none⟩ = some (.int .i64 B1) := ⟨(hc5 _ _ LB4).trans ((hc4 _ _ LB3).trans ((hc3 _ _ (by first | go_size | (simp; omega))).trans (by first | go_cell | (simp; go_cell)))), (hc5 _ _ LB4).trans ((hc4 _ _ LB3).trans ((hc3 _ _ (by first | go_size | (simp; omega))).trans (by first | go_cell | (simp; go_cell))))⟩
  have dD : w5.cell? ⟨w2.heap.size, 0, none⟩ = some (.int .i64 C0) ∧ w5.cell? ⟨w2.heap.size, 1, none⟩ = some (.int .i64 C1) ∧ w5.cell? ⟨w2.heap.size, 2, none⟩ = some (.int .i64 (1 + r)) := ⟨(hc5 _ _ LD4).trans ((hc4 _ _ LD3).trans ((hc3 _ _ (by first | go_size | (simp; omega))).trans (by first | go_cell | (simp; go_cell)))), (hc5 _ _ LD4).trans ((hc4 _ _ LD3).trans ((hc3 _ _ (by first | go_size | (simp; omega))).trans (by first | go_cell | (simp; go_cell)))), (hc5 _ _ LD4).trans ((hc4 _ _ LD3).trans ((hc3 _ _ (by first | go_size | (simp; omega))).trans (by first | go_cell | (simp; go_cell))))⟩
  have DD := Lib.hid (And.intro dA (And.intro dB dD))
  have HZ := Lib.hid hz5
  have HB5 := Lib.hid hB5
  obtain ⟨rr1, rr2⟩ := M.mul_range (1 + r) (1 + r) 65536 65536 (by omega) (by omega) (by omega) (by omega)
  go_wp2_with fail
  clear dA dB dD
  go_loopw [21] (fun i wr => ∃ k : Nat, k ≤ 16 ∧ i = .int .i64 k ∧ w5.heap.size ≤ wr.heap.size ∧ Below w.heap.size w wr ∧ ∀ b o, b < w5.heap.size → wr.cell? ⟨b, o, none⟩ = w5.cell? ⟨b, o, none⟩) (fun i _ => 16 - (intOf i).toNat)
  case atStart => exact ⟨0, Nat.zero_le _, rfl, Nat.le_refl _, HB5.out, fun _ _ _ => rfl⟩
  case round =>
    obtain ⟨k, hk, rfl, hsr, hBr, hcr⟩ := hrel
    clear hc1 hc2 hc3 hc4 hc5 hf1 hf2 hf3 hf4 hf5
    have HCR := Lib.hid hcr
    clear hcr
    have x0 := (HCR.out _ 0 LD5).trans DD.out.2.2.1
    have x1 := (HCR.out _ 1 LD5).trans DD.out.2.2.2.1
    have x2 := (HCR.out _ 2 LD5).trans DD.out.2.2.2.2
    have LDr : w2.heap.size < wr.heap.size := by omega
    have LGr : g < wr.heap.size := by omega
    have LAr : BA < wr.heap.size := by omega
    have LBr : BB < wr.heap.size := by omega
    by_cases hlt : k < 16
    · have hlt0 : (0 : Int) ≤ k := by omega
      have hlt1 : (k : Int) < 16 := by omega
      have y0 := (HCR.out _ (k * 2) LG5).trans (CG5.out k hlt).1
      have y1 := (HCR.out _ (k * 2 + 1) LG5).trans (CG5.out k hlt).2
      obtain ⟨n1, n2⟩ := SK.out k hlt
      have HSQ := Lib.hid (fun w => Square_ok (rpt C0 C1 (1 + r) k).1 (rpt C0 C1 (1 + r) k).2 C0 C1 w (HPT.out k) i3.out)
      have hN : ∃ n, n = M.sq (rpt C0 C1 (1 + r) k).1 (rpt C0 C1 (1 + r) k).2 C0 C1 := ⟨_, rfl⟩
      obtain ⟨n, hN⟩ := hN
      rw [← hN] at n1 n2 HSQ
      clear hN
      generalize (rpt C0 C1 (1 + r) k).1 = X at *
      generalize (rpt C0 C1 (1 + r) k).2 = Y at *
      go_wp2_with fail
      refine R.region_grow [.val (.slice (some ⟨g, 0, none⟩) 16 16), .val (.int .i64 k), .val (.pointer (some ⟨g, k * 2, none⟩)), .val (.agg #[.int .i64 X, .int .i64 Y]), .val (.pointer (some ⟨w2.heap.size, 0, none⟩)), .val (.agg #[.int .i64 C0, .int .i64 C1]), .val (.tuple #[.int .i64 n, .int .i64 0]), .val (.tuple #[.int .i64 n, .int .i64 0]), .val (.int .i64 n), .val (.int .i64 0), .val (.int .i64 n), .val (.int .i64 0)] (by kernel_rfl) (by kernel_rfl) (by kernel_rfl) (by kernel_rfl) ?_ ?_
      · refine ⟨?_, ?_, ?_, ?_, ?_, ?_, ?_, ?_, ?_, ?_, ?_, ?_, trivial⟩
        · intro act wx KK E hk hK
          have e14 := E 14 _ rfl
          go_simp
          exact hK _ (Below.refl _ _)
        · intro act wx KK E hk hK
          have e21 := E 21 _ rfl
          go_simp
          exact hK _ (Below.refl _ _)
        · intro act wx KK E hk hK
          have e92 := E 92 _ rfl
          have e93 := E 93 _ rfl
          go_simp
          exact hK _ (Below.refl _ _)
        · intro act wx KK E hk hK
          have e94 := E 94 _ rfl
          obtain ⟨hc, hf⟩ := hk.cells rfl
          try simp only [World.size_drew] at hc hf
          go_simp
          exact hK _ (Below.refl _ _)
        · intro act wx KK E hk hK
          have e13 := E 13 _ rfl
          go_simp
          exact hK _ (Below.refl _ _)
        · intro act wx KK E hk hK
          have e96 := E 96 _ rfl
          obtain ⟨hc, hf⟩ := hk.cells rfl
          try simp only [World.size_drew] at hc hf
          go_simp
          exact hK _ (Below.refl _ _)
        · intro act wx KK E hk hK
          have e95 := E 95 _ rfl
          have e97 := E 97 _ rfl
          go_simp
          refine (HSQ.out _).mono ?_
          rintro e w' ⟨rfl, hb⟩
          exact hK _ hb
        · intro act wx KK E hk hK
          have e98 := E 98 _ rfl
          go_simp
          exact hK _ (Below.refl _ _)
        · intro act wx KK E hk hK
          have e91 := E 91 _ rfl
          go_simp
          exact hK _ (Below.refl _ _)
        · intro act wx KK E hk hK
          have e91 := E 91 _ rfl
          go_simp
          exact hK _ (Below.refl _ _)
        · intro act wx KK E hk hK
          have e99 := E 99 _ rfl
          go_simp
          exact hK _ (Below.refl _ _)
        · intro act wx KK E hk hK
          have e100 := E 100 _ rfl
          go_simp
          exact hK _ (Below.refl _ _)
      intro β6 w6 F
      simp only [R.finAct, R.Item.value, Act.put, List.getElem?_toArray, List.getElem?_cons_zero, List.getElem?_cons_succ, List.size_toArray, List.length_cons, List.length_nil, Nat.reduceAdd, List.setIfInBounds_toArray, List.set_cons_zero, List.set_cons_succ]
      have hB6 := stepB (w := w) (by go_grown) (F.kept.below rfl)
      obtain ⟨hc6, hf6⟩ := F.kept.cells rfl
      try simp only [World.size_drew] at hc6 hf6
      have hz6 := F.kept.size
      try simp only [World.size_alloc, World.size_setCell, World.size_drew] at hz6
      try have ha6 : w.heap.size < w6.heap.size := (by omega)
      try have hi6 : w.heap.size + 1 < w6.heap.size := (by omega)
      try have hj6 : w.heap.size + 1 + 1 < w6.heap.size := (by omega)
      try have hk6 : w.heap.size + 1 + 1 + 1 < w6.heap.size := (by omega)
      try have hl6 : w.heap.size + 1 + 1 + 1 + 1 < w6.heap.size := (by omega)
      clear F
      have z2 := (hc6 _ 2 LDr).trans x2
      have HCR6 := Lib.hid (fun b o (hb : b < w5.heap.size) => (hc6 b o (Nat.lt_of_lt_of_le hb hsr)).trans (HCR.out b o hb))
      have HS6 := Lib.hid (Nat.le_trans hsr hz6)
      clear hc6 hf6
      by_cases hin : 0 < (1 + r) - (1 + r) / 8192 - 3
      · have n3 := n2 hin
        obtain ⟨ii1, ii2⟩ := M.mul_range ((1 + r) - (1 + r) / 8192 - 3) ((1 + r) - (1 + r) / 8192 - 3) 65536 65536 (by omega) (by omega) (by omega) (by omega)
        clear n2
        go_wp2_with fail
        exact ⟨⟨k + 1, by omega, by go_num, HS6.out, hB6, HCR6.out⟩, by simp [intOf]; omega⟩
      · clear n2
        go_wp2_with fail
        exact ⟨⟨k + 1, by omega, by go_num, HS6.out, hB6, HCR6.out⟩, by simp [intOf]; omega⟩
    · have y0 := (HCR.out _ 0 LA5).trans DD.out.1.1
      have y1 := (HCR.out _ 1 LA5).trans DD.out.1.2
      have y2 := (HCR.out _ 0 LB5).trans DD.out.2.1.1
      have y3 := (HCR.out _ 1 LB5).trans DD.out.2.1.2
      by_cases hnear : 15 * (1 + r) / 16 - 8 ≤ 0
      · go_wp2_with fail
        (go_at_call 19; refine (fine_any _ (HT.out.below (by (first | assumption | go_grown) : Below w.heap.size w _) hz)).mono ?_; rintro e w7 ⟨rfl, hb7⟩; obtain ⟨hB7, hz7, hc7, hf7⟩ := grow4 (w := w) (by go_grown) hb7; (try simp only [World.size_alloc, World.size_setCell, World.size_drew] at hz7); (try have hy7 := Nat.lt_of_succ_le hz7); (try have hx7 := Nat.lt_of_succ_lt hy7); (try have hw7 := Nat.lt_of_succ_lt hx7); (try have hv7 := Nat.lt_of_succ_lt hw7); (try have ha7 : w.heap.size < w7.heap.size := (by omega)); (try have hi7 : w.heap.size + 1 < w7.heap.size := (by omega)); (try have hj7 : w.heap.size + 1 + 1 < w7.heap.size := (by omega)); (try have hk7 : w.heap.size + 1 + 1 + 1 < w7.heap.size := (by omega)); (try have hl7 : w.heap.size + 1 + 1 + 1 + 1 < w7.heap.size := (by omega)))
        go_wp2_with fail
        go_returns
        exact ⟨rfl, hB7⟩
      · have LI' := Lib.hid (LI.out (by omega))
        have hfin2 := Lib.hid (hfin.out (by omega))
        go_wp2_with fail
        (go_at_call 20; refine (SA.out _).mono ?_; rintro e w7 ⟨rfl, hb7⟩; obtain ⟨hB7, hz7, hc7, hf7⟩ := grow4 (w := w) (by go_grown) hb7; (try simp only [World.size_alloc, World.size_setCell, World.size_drew] at hz7); (try have hy7 := Nat.lt_of_succ_le hz7); (try have hx7 := Nat.lt_of_succ_lt hy7); (try have hw7 := Nat.lt_of_succ_lt hx7); (try have hv7 := Nat.lt_of_succ_lt hw7); (try have ha7 : w.heap.size < w7.heap.size := (by omega)); (try have hi7 : w.heap.size + 1 < w7.heap.size := (by omega)); (try have hj7 : w.heap.size + 1 + 1 < w7.heap.size := (by omega)); (try have hk7 : w.heap.size + 1 + 1 + 1 < w7.heap.size := (by omega)); (try have hl7 : w.heap.size + 1 + 1 + 1 + 1 < w7.heap.size := (by omega)))
        have LA7 : BA < w7.heap.size := by omega
        have LB7 : BB < w7.heap.size := by omega
        have LD7 : w2.heap.size < w7.heap.size := by omega
        go_wp2_with fail
        (go_at_call 20; refine (SB.out _).mono ?_; rintro e w8 ⟨rfl, hb8⟩; obtain ⟨hB8, hz8, hc8, hf8⟩ := grow4 (w := w) (by go_grown) hb8; (try simp only [World.size_alloc, World.size_setCell, World.size_drew] at hz8); (try have hy8 := Nat.lt_of_succ_le hz8); (try have hx8 := Nat.lt_of_succ_lt hy8); (try have hw8 := Nat.lt_of_succ_lt hx8); (try have hv8 := Nat.lt_of_succ_lt hw8); (try have ha8 : w.heap.size < w8.heap.size := (by omega)); (try have hi8 : w.heap.size + 1 < w8.heap.size := (by omega)); (try have hj8 : w.heap.size + 1 + 1 < w8.heap.size := (by omega)); (try have hk8 : w.heap.size + 1 + 1 + 1 < w8.heap.size := (by omega)); (try have hl8 : w.heap.size + 1 + 1 + 1 + 1 < w8.heap.size := (by omega)))
        have LA8 : BA < w8.heap.size := by omega
        have LB8 : BB < w8.heap.size := by omega
        have LD8 : w2.heap.size < w8.heap.size := by omega
        go_wp2_with fail
        (go_at_call 28; refine (LI'.out _).mono ?_; rintro e w9 ⟨rfl, hb9⟩; obtain ⟨hB9, hz9, hc9, hf9⟩ := grow4 (w := w) (by go_grown) hb9; (try simp only [World.size_alloc, World.size_setCell, World.size_drew] at hz9); (try have hy9 := Nat.lt_of_succ_le hz9); (try have hx9 := Nat.lt_of_succ_lt hy9); (try have hw9 := Nat.lt_of_succ_lt hx9); (try have hv9 := Nat.lt_of_succ_lt hw9); (try have ha9 : w.heap.size < w9.heap.size := (by omega)); (try have hi9 : w.heap.size + 1 < w9.heap.size := (by omega)); (try have hj9 : w.heap.size + 1 + 1 < w9.heap.size := (by omega)); (try have hk9 : w.heap.size + 1 + 1 + 1 < w9.heap.size := (by omega)); (try have hl9 : w.heap.size + 1 + 1 + 1 + 1 < w9.heap.size := (by omega)))
        have LD9 : w2.heap.size < w9.heap.size := by omega
        by_cases f0 : 0 ≤ h
        · go_wp2_with fail
          (go_at_call 19; refine (fine_any _ (HT.out.below (by (first | assumption | go_grown) : Below w.heap.size w _) hz)).mono ?_; rintro e w10 ⟨rfl, hb10⟩; obtain ⟨hB10, hz10, hc10, hf10⟩ := grow4 (w := w) (by go_grown) hb10; (try simp only [World.size_alloc, World.size_setCell, World.size_drew] at hz10); (try have hy10 := Nat.lt_of_succ_le hz10); (try have hx10 := Nat.lt_of_succ_lt hy10); (try have hw10 := Nat.lt_of_succ_lt hx10); (try have hv10 := Nat.lt_of_succ_lt hw10); (try have ha10 : w.heap.size < w10.heap.size := (by omega)); (try have hi10 : w.heap.size + 1 < w10.heap.size := (by omega)); (try have hj10 : w.heap.size + 1 + 1 < w10.heap.size := (by omega)); (try have hk10 : w.heap.size + 1 + 1 + 1 < w10.heap.size := (by omega)); (try have hl10 : w.heap.size + 1 + 1 + 1 + 1 < w10.heap.size := (by omega)))
          go_wp2_with fail
          go_returns
          exact ⟨rfl, hB10⟩
        · by_cases f1 : sa ≤ (1 + r) * (1 + r)
          · go_wp2_with fail
            (go_at_call 19; refine (fine_any _ (HT.out.below (by (first | assumption | go_grown) : Below w.heap.size w _) hz)).mono ?_; rintro e w10 ⟨rfl, hb10⟩; obtain ⟨hB10, hz10, hc10, hf10⟩ := grow4 (w := w) (by go_grown) hb10; (try simp only [World.size_alloc, World.size_setCell, World.size_drew] at hz10); (try have hy10 := Nat.lt_of_succ_le hz10); (try have hx10 := Nat.lt_of_succ_lt hy10); (try have hw10 := Nat.lt_of_succ_lt hx10); (try have hv10 := Nat.lt_of_succ_lt hw10); (try have ha10 : w.heap.size < w10.heap.size := (by omega)); (try have hi10 : w.heap.size + 1 < w10.heap.size := (by omega)); (try have hj10 : w.heap.size + 1 + 1 < w10.heap.size := (by omega)); (try have hk10 : w.heap.size + 1 + 1 + 1 < w10.heap.size := (by omega)); (try have hl10 : w.heap.size + 1 + 1 + 1 + 1 < w10.heap.size := (by omega)))
            go_wp2_with fail
            go_returns
            exact ⟨rfl, hB10⟩
          · have f2 : sb ≤ (1 + r) * (1 + r) := by have := hfin2.out; omega
            go_wp2_with fail
            (go_at_call 19; refine (fine_any _ (HT.out.below (by (first | assumption | go_grown) : Below w.heap.size w _) hz)).mono ?_; rintro e w10 ⟨rfl, hb10⟩; obtain ⟨hB10, hz10, hc10, hf10⟩ := grow4 (w := w) (by go_grown) hb10; (try simp only [World.size_alloc, World.size_setCell, World.size_drew] at hz10); (try have hy10 := Nat.lt_of_succ_le hz10); (try have hx10 := Nat.lt_of_succ_lt hy10); (try have hw10 := Nat.lt_of_succ_lt hx10); (try have hv10 := Nat.lt_of_succ_lt hw10); (try have ha10 : w.heap.size < w10.heap.size := (by omega)); (try have hi10 : w.heap.size + 1 < w10.heap.size := (by omega)); (try have hj10 : w.heap.size + 1 + 1 < w10.heap.size := (by omega)); (try have hk10 : w.heap.size + 1 + 1 + 1 < w10.heap.size := (by omega)); (try have hl10 : w.heap.size + 1 + 1 + 1 + 1 < w10.heap.size := (by omega)))
            go_wp2_with fail
            go_returns
            exact ⟨rfl, hB10⟩
end Go.Proofs.YtfcjdmpfoogljaaDoor
