/-
  Contracts of layer 1: roots.
-/
import Derived.Test.YtlgabdamgalngaaA
import Derived.Test.YtlgabdamgalngaaGrow
import Derived.Test.YtlgabdamgalngaaShelf
import Derived.Lib.BitFns
import Derived.Lib.ItoaNum
import Derived.Deep.LoopGhost
set_option linter.unusedVariables false
set_option linter.unusedSimpArgs false
namespace Go.Proofs.Ytlgabdamgalngaa
open Go.ChangeShapes Go.WideShapes Go.ChangeAt Go.RowKit

theorem nearer_stay (a n : Int) (w : World) (h1 : 0 ≤ a) (h2 : a ≤ 2147483648) (h3 : 0 ≤ n) (h4 : n ≤ 4611686018427387904) (h : a * a ≤ n) :
    Calls Try.prog 102 #[.agg #[.int .i64 a, .int .i64 (n - a * a)], .int .i64 n] w fun e w' => e = .returned (.agg #[.int .i64 a, .int .i64 (n - a * a)]) ∧ Below w.heap.size w w' := by
  have h5 : 0 ≤ n - a * a := by omega
  go_enter Try.func102, Try.ntmps102
  go_wp2
  go_returns
  exact ⟨rfl, by go_grown⟩

set_option maxHeartbeats 1000000 in
theorem nearer_step (a n : Int) (w : World) (h1 : 1 ≤ a) (h2 : a ≤ 2147483648) (h3 : 0 ≤ n) (h4 : n ≤ 4611686018427387904) (h : n < a * a) :
    Calls Try.prog 102 #[.agg #[.int .i64 a, .int .i64 (n - a * a)], .int .i64 n] w fun e w' => e = .returned (.agg #[.int .i64 ((a + n / a) / 2), .int .i64 (n - (a + n / a) / 2 * ((a + n / a) / 2))]) ∧ Below w.heap.size w w' := by
  obtain ⟨q1, q2⟩ := M.newton_bd a n h1 h3 h
  have q3 := Int.ediv_nonneg h3 (show 0 ≤ a by omega)
  have h5 : ¬ 0 ≤ n - a * a := by omega
  go_enter Try.func102, Try.ntmps102
  go_wp2
  refine R.region_grow_old [.val (.pointer (some ⟨w.heap.size, 0, none⟩)), .val (.int .i64 a), .val (.int .i64 n), .val (.pointer (some ⟨w.heap.size, 0, none⟩)), .val (.int .i64 a), .val (.int .i64 (n / a)), .val (.int .i64 (a + n / a)), .val (.int .i64 ((a + n / a) / 2)), .val (.int .i64 n), .val (.agg #[.int .i64 ((a + n / a) / 2), .int .i64 (n - (a + n / a) / 2 * ((a + n / a) / 2))]), .old (w.heap.size + 1) 73 #[.int .i64 ((a + n / a) / 2), .int .i64 (n - (a + n / a) / 2 * ((a + n / a) / 2))]] (by kernel_rfl) (by kernel_rfl) (by kernel_rfl) (by simp [R.olds] <;> omega) ⟨⟨_, heap_alloc2_new _ _ _, rfl⟩, trivial⟩ ?_ ?_
  · refine ⟨?_, ?_, ?_, ?_, ?_, ?_, ?_, ?_, ?_, ?_, ?_, trivial⟩
    · intro act wx KK E hk hK
      have e2 := E 2 _ rfl
      go_simp
      exact hK _ (Below.refl _ _)
    · intro act wx KK E hk hK
      have e9 := E 9 _ rfl
      obtain ⟨hc, hf⟩ := hk.cellsOld
      simp only [R.olds, List.mem_cons, List.not_mem_nil, or_false] at hc hf
      go_simp
      exact hK _ (Below.refl _ _)
    · intro act wx KK E hk hK
      have e1 := E 1 _ rfl
      go_simp
      exact hK _ (Below.refl _ _)
    · intro act wx KK E hk hK
      have e2 := E 2 _ rfl
      go_simp
      exact hK _ (Below.refl _ _)
    · intro act wx KK E hk hK
      have e12 := E 12 _ rfl
      obtain ⟨hc, hf⟩ := hk.cellsOld
      simp only [R.olds, List.mem_cons, List.not_mem_nil, or_false] at hc hf
      go_simp
      exact hK _ (Below.refl _ _)
    · intro act wx KK E hk hK
      have e11 := E 11 _ rfl
      have e13 := E 13 _ rfl
      go_simp
      try go_bits
      first | exact hK _ (Below.refl _ _) | (go_step; exact hK _ (Below.refl _ _)) | (go_step; go_step; exact hK _ (Below.refl _ _))
    · intro act wx KK E hk hK
      have e10 := E 10 _ rfl
      have e14 := E 14 _ rfl
      go_simp
      try go_bits
      first | exact hK _ (Below.refl _ _) | (go_step; exact hK _ (Below.refl _ _)) | (go_step; go_step; exact hK _ (Below.refl _ _))
    · intro act wx KK E hk hK
      have e15 := E 15 _ rfl
      go_simp
      try go_bits
      first | exact hK _ (Below.refl _ _) | (go_step; exact hK _ (Below.refl _ _)) | (go_step; go_step; exact hK _ (Below.refl _ _))
    · intro act wx KK E hk hK
      have e1 := E 1 _ rfl
      go_simp
      exact hK _ (Below.refl _ _)
    · intro act wx KK E hk hK
      have e16 := E 16 _ rfl
      have e17 := E 17 _ rfl
      go_simp
      refine (quot_any _ _ _ (by omega) (by omega) (by omega) (by omega)).mono ?_
      rintro e w' ⟨rfl, hb⟩
      exact hK _ hb
    · intro act wx KK cs0 E hk hh hsz hK
      obtain ⟨c0, c1, rfl⟩ := R.of_size2 hsz
      have e4 := E 4 _ rfl
      have e18 := E 18 _ rfl
      have kc0 := R.cell_blk hh 0
      have kf0 := R.free_blk hh 0
      have kc1 := R.cell_blk hh 1
      have kf1 := R.free_blk hh 1
      have hK' := hK _ (R.rewrites2 hh)
      clear hK
      go_simp
      exact hK'
  intro β1 w1 F
  simp only [R.finAct, R.Item.value, Act.put, List.getElem?_toArray, List.getElem?_cons_zero, List.getElem?_cons_succ, List.size_toArray, List.length_cons, List.length_nil, Nat.reduceAdd, List.setIfInBounds_toArray, List.set_cons_zero, List.set_cons_succ]
  have hB1 := (show Below w.heap.size w _ by go_grown).trans (F.kept.belowOld (by go_size) (by simp [R.olds] <;> omega))
  obtain ⟨hc1, hf1⟩ := F.kept.cellsOld
  simp only [R.olds, List.mem_cons, List.not_mem_nil, or_false] at hc1 hf1
  have hz1 := F.kept.size
  try simp only [World.size_alloc, World.size_setCell, World.size_drew] at hz1
  try have ha1 : w.heap.size < w1.heap.size := (by omega)
  try have hi1 : w.heap.size + 1 < w1.heap.size := (by omega)
  try have hj1 : w.heap.size + 1 + 1 < w1.heap.size := (by omega)
  try have hk1 : w.heap.size + 1 + 1 + 1 < w1.heap.size := (by omega)
  try have hl1 : w.heap.size + 1 + 1 + 1 + 1 < w1.heap.size := (by omega)
  have p101 := F.olds 10 _ _ _ rfl
  have q10_01 := R.cell_blk p101 0
  have f10_01 := R.free_blk p101 0
  have q10_11 := R.cell_blk p101 1
  have f10_11 := R.free_blk p101 1
  replace p101 := Lib.hid p101
  clear F
  go_wp2
  exact bodyPost_ret (v := .agg #[.int .i64 ((a + n / a) / 2), .int .i64 (n - (a + n / a) / 2 * ((a + n / a) / 2))]) (by simp [results, Try.results102, go_sem, q10_01, q10_11]) rfl ⟨rfl, hB1⟩

/-- Newton's step, with a quotient that is not too great staying. -/
def newt (n a : Int) : Int := if a * a ≤ n then a else (a + n / a) / 2
theorem nearer_any (a n r : Int) (w : World) (h1 : 0 ≤ a) (h2 : a ≤ 2147483648) (h3 : 0 ≤ n) (h4 : n ≤ 4611686018427387904) :
    Calls Try.prog 102 #[.agg #[.int .i64 a, .int .i64 (n - a * a)], .int .i64 n] w fun e w' => e = .returned (.agg #[.int .i64 (newt n a), .int .i64 (n - newt n a * newt n a)]) ∧ Below w.heap.size w w' := by
  unfold newt
  by_cases h : a * a ≤ n
  · rw [if_pos h]
    exact nearer_stay a n w h1 h2 h3 h4 h
  · rw [if_neg h]
    have h5 : a ≠ 0 := by rintro rfl; omega
    exact nearer_step a n w (by omega) h2 h3 h4 (by omega)
theorem newt_spec (n a r : Int) (h1 : 0 ≤ a) (h3 : 0 ≤ n) (hr : M.IsRoot n r) (ha : r ≤ a) : 0 ≤ newt n a ∧ r ≤ newt n a ∧ newt n a ≤ a ∧ (newt n a = a → a = r) := by
  unfold newt
  by_cases h : a * a ≤ n
  · rw [if_pos h]
    refine ⟨h1, ha, by omega, fun _ => ?_⟩
    have := M.sq_lt h1 (show a * a < (r + 1) * (r + 1) from by have := hr.2.2; omega) (by have := hr.1; omega)
    omega
  · rw [if_neg h]
    have h5 : a ≠ 0 := by rintro rfl; omega
    obtain ⟨q1, q2⟩ := M.newton_bd a n (by omega) h3 (by omega)
    have q3 := M.newton_ge a n r (by omega) hr.1 hr.2.1
    exact ⟨q1, q3, by omega, fun h => by omega⟩

theorem len64_any (x : Int) (h0 : 0 ≤ x) (h1 : x ≤ 4611686018427387903) : ∃ l : Nat, l ≤ 62 ∧ x.toNat < 2 ^ l ∧ ∀ w : World, Calls Try.prog 100 #[.int .u64 x] w fun e w' => e = .returned (.int .i64 l) ∧ w = w' := by
  refine ⟨Lib.bitLen x.toNat, ?_, ?_, fun w => (Try.bits_Len64 x w h0 (by omega)).mono fun e w' h => ⟨h.1, h.2.symm⟩⟩
  · exact Lib.bitLen_le _ 62 (by omega) (by omega)
  · by_cases hx : x.toNat = 0
    · rw [hx]; exact Nat.pow_pos (by omega)
    · exact (Lib.bitLenAux_bounds 64 x.toNat (by omega) hx).2.2

theorem first_bd (l : Nat) (n r : Int) (h3 : 0 ≤ n) (h4 : n ≤ 4611686018427387904) (hl1 : l ≤ 62) (hl2 : (max (n - 1) 0).toNat < 2 ^ l) (hr : M.IsRoot n r) : 0 ≤ wrap64 (2 ^ ((l + 1) / 2)) ∧ wrap64 (2 ^ ((l + 1) / 2)) ≤ 2147483648 ∧ r ≤ wrap64 (2 ^ ((l + 1) / 2)) := by
  obtain ⟨e1, e2, e3⟩ := M.half_bd l _ hl2 hl1
  have e4 : ((2 ^ ((l + 1) / 2) : Nat) : Int) = (2:Int) ^ ((l + 1) / 2) := by rw [Int.natCast_pow]; rfl
  generalize (2 : Nat) ^ ((l + 1) / 2) = z at e1 e2 e3 e4
  rw [← e4, IntWalk.wrap64_in _ ⟨by omega, by omega⟩]
  refine ⟨by omega, by omega, ?_⟩
  obtain ⟨r1, r2, r3⟩ := hr
  rcases M.lt_or_ge' (z : Int) r with h | h
  · have h5 : ((z : Int) + 1) * ((z : Int) + 1) ≤ r * r := M.sq_le (by omega) (by omega)
    have h6 : (((max (n - 1) 0).toNat : Nat) : Int) < ((z * z : Nat) : Int) := by exact_mod_cast e1
    rw [Int.natCast_mul] at h6
    have h7 : ((z : Int) + 1) * ((z : Int) + 1) = (z : Int) * z + 2 * z + 1 := by grind
    omega
  · exact h

/-- What the loop of 'turf.root' holds: the last quotient, by a, and the next one. -/
def RootInv (n r : Int) (B4 B5 : Nat) (w : World) (k : Nat) (wr : World) : Prop :=
  ∃ a : Int, k = a.toNat ∧ 0 ≤ a ∧ a ≤ 2147483648 ∧ r ≤ a ∧ wr.heap[B4]? = some (.cells #[.int .i64 a, .int .i64 (n - a * a)] 73 (0, 0)) ∧
    wr.heap[B5]? = some (.cells #[.int .i64 (newt n a), .int .i64 (n - newt n a * newt n a)] 73 (0, 0)) ∧ Below w.heap.size w wr ∧ w.heap.size ≤ B4 ∧ B4 < B5

set_option maxHeartbeats 1000000 in
theorem root_any (n r : Int) (w : World) (h3 : 0 ≤ n) (h4 : n ≤ 4611686018427387904) (hr : M.IsRoot n r) :
    Calls Try.prog 84 #[.int .i64 n] w fun e w' => e = .returned (.int .i64 r) ∧ Below w.heap.size w w' := by
  have HR := Lib.hid hr
  obtain ⟨l, hl1, hl2, hlc⟩ := len64_any (max (n - 1) 0) (by omega) (by omega)
  obtain ⟨p1, p2, p3⟩ := first_bd l n r h3 h4 hl1 hl2 hr
  have hr0 := hr.1
  have HL := Lib.hid hlc
  have HL2 := Lib.hid hl2
  clear hlc hl2 hr
  go_enter Try.func84, Try.ntmps84
  go_wp2_with (go_at_call 100; refine (HL.out _).mono ?_; rintro e w' ⟨rfl, rfl⟩)
  generalize wrap64 (2 ^ ((l + 1) / 2)) = a0 at *
  refine (quot_any _ _ _ p1 p2 h3 h4).mono ?_
  rintro e w1 ⟨rfl, hb1⟩
  obtain ⟨hB1, hz1, hc1, hf1⟩ := grow4 (w := w) (by go_grown) hb1
  obtain ⟨n1, n2, n3, n4⟩ := newt_spec n a0 r p1 h3 HR.out p3
  have N4 := Lib.hid n4
  clear n4
  go_wp2_with (go_at_call 102; refine (nearer_any a0 n r _ p1 p2 h3 h4).mono ?_; rintro e w2 ⟨rfl, hb2⟩; obtain ⟨hB2, hz2, hc2, hf2⟩ := grow4 (w := w) (by go_grown) hb2; (try simp only [World.size_alloc, World.size_setCell, World.size_drew] at hz2))
  have hinv : RootInv n r w1.heap.size w2.heap.size w (a0.toNat) (w2.alloc (.cells #[.int .i64 (newt n a0), .int .i64 (n - newt n a0 * newt n a0)] 73)) :=
    ⟨a0, rfl, p1, p2, p3, ((Below.refl _ _).alloc (Nat.le_refl _) _).block _ (by omega) |>.trans ((hb2.block _ (by simp)).trans (heap_alloc_new _ _)), heap_alloc_new _ _, by go_grown, by omega, by omega⟩
  generalize w1.heap.size = B4 at *
  generalize w2.heap.size = B5 at *
  generalize (w2.alloc (.cells #[.int .i64 (newt n a0), .int .i64 (n - newt n a0 * newt n a0)] 73)) = w3 at *
  clear hB1 hz1 hc1 hf1 hb1 hB2 hz2 hc2 hf2 hb2 n1 n2 n3 N4
  go_loopg [] (a0.toNat) (fun k wr => RootInv n r B4 B5 w k wr)
  case atStart => exact hinv
  case round =>
    obtain ⟨a, hk, i1, i2, i3, i4, i5, i6, i7, i8⟩ := hrel
    have K := Lib.hid hk
    obtain ⟨n1, n2, n3, n4⟩ := newt_spec n a r i1 h3 HR.out i3
    have c0 := R.cell_blk i4 0
    have c1 := R.cell_blk i4 1
    have c2 := R.cell_blk i5 0
    have c3 := R.cell_blk i5 1
    have s4 := R.heap_lt i4
    have s5 := R.heap_lt i5
    have I4 := Lib.hid i4
    have I5 := Lib.hid i5
    have N4 := Lib.hid n4
    clear i4 i5 n4 hk hinv
    have hzr := i6.size
    by_cases he : newt n a = a
    · have hr : a = r := N4.out he
      rw [he] at c2 c3
      clear he
      go_wp2
      go_returns
      exact ⟨rfl, i6⟩
    · have h4' : B4 ≠ B5 := by omega
      have hne : (newt n a == a) = false := by simpa using he
      have hne2 : (newt n a != a) = true := by simpa using he
      obtain ⟨m1, m2, m3, _⟩ := newt_spec n (newt n a) r n1 h3 HR.out n2
      have hlt : newt n a < a := by omega
      clear he
      go_wp2
      refine R.region_grow_old [.val (.agg #[.int .i64 (newt n a), .int .i64 (n - newt n a * newt n a)]), .val (.agg #[.int .i64 (newt n a), .int .i64 (n - newt n a * newt n a)]), .val (.int .i64 n), .val (.agg #[.int .i64 (newt n (newt n a)), .int .i64 (n - newt n (newt n a) * newt n (newt n a))]), .old (B4) 73 #[.int .i64 (newt n a), .int .i64 (n - newt n a * newt n a)], .old (B5) 73 #[.int .i64 (newt n (newt n a)), .int .i64 (n - newt n (newt n a) * newt n (newt n a))]] (by kernel_rfl) (by kernel_rfl) (by kernel_rfl) (by simp [R.olds] <;> omega) ⟨⟨_, I4.out, rfl⟩, ⟨_, I5.out, rfl⟩, trivial⟩ ?_ ?_
      · refine ⟨?_, ?_, ?_, ?_, ?_, ?_, trivial⟩
        · intro act wx KK E hk hK
          have e5 := E 5 _ rfl
          have hb0 := hk.block (B5) (by go_size) (by simp [R.isOld, R.waitsFor, Region.binds, List.range_succ] <;> omega)
          obtain ⟨hc, hf⟩ := R.cell_same hb0
          go_simp
          exact hK _ (Below.refl _ _)
        · intro act wx KK E hk hK
          have e5 := E 5 _ rfl
          have hb0 := hk.block (B5) (by go_size) (by simp [R.isOld, R.waitsFor, Region.binds, List.range_succ] <;> omega)
          obtain ⟨hc, hf⟩ := R.cell_same hb0
          go_simp
          exact hK _ (Below.refl _ _)
        · intro act wx KK E hk hK
          have e0 := E 0 _ rfl
          go_simp
          exact hK _ (Below.refl _ _)
        · intro act wx KK E hk hK
          have e24 := E 24 _ rfl
          have e25 := E 25 _ rfl
          go_simp
          refine (nearer_any (newt n a) n r _ n1 (by omega) h3 h4).mono ?_
          rintro e w' ⟨rfl, hb⟩
          exact hK _ hb
        · intro act wx KK cs0 E hk hh hsz hK
          obtain ⟨c0, c1, rfl⟩ := R.of_size2 hsz
          have e4 := E 4 _ rfl
          have e23 := E 23 _ rfl
          have kc0 := R.cell_blk hh 0
          have kf0 := R.free_blk hh 0
          have kc1 := R.cell_blk hh 1
          have kf1 := R.free_blk hh 1
          have hK' := hK _ (R.rewrites2 hh)
          clear hK
          go_simp
          exact hK'
        · intro act wx KK cs0 E hk hh hsz hK
          obtain ⟨c0, c1, rfl⟩ := R.of_size2 hsz
          have e5 := E 5 _ rfl
          have e26 := E 26 _ rfl
          have kc0 := R.cell_blk hh 0
          have kf0 := R.free_blk hh 0
          have kc1 := R.cell_blk hh 1
          have kf1 := R.free_blk hh 1
          have hK' := hK _ (R.rewrites2 hh)
          clear hK
          go_simp
          exact hK'
      intro β4 w4 F
      simp only [R.finAct, R.Item.value, Act.put, List.getElem?_toArray, List.getElem?_cons_zero, List.getElem?_cons_succ, List.size_toArray, List.length_cons, List.length_nil, Nat.reduceAdd, List.setIfInBounds_toArray, List.set_cons_zero, List.set_cons_succ]
      have hB4 := (show Below w.heap.size w _ by go_grown).trans (F.kept.belowOld (by go_size) (by simp [R.olds] <;> omega))
      obtain ⟨hc4, hf4⟩ := F.kept.cellsOld
      simp only [R.olds, List.mem_cons, List.not_mem_nil, or_false] at hc4 hf4
      have hz4 := F.kept.size
      try simp only [World.size_alloc, World.size_setCell, World.size_drew] at hz4
      try have ha4 : w.heap.size < w4.heap.size := (by omega)
      try have hi4 : w.heap.size + 1 < w4.heap.size := (by omega)
      try have hj4 : w.heap.size + 1 + 1 < w4.heap.size := (by omega)
      try have hk4 : w.heap.size + 1 + 1 + 1 < w4.heap.size := (by omega)
      try have hl4 : w.heap.size + 1 + 1 + 1 + 1 < w4.heap.size := (by omega)
      have p44 := F.olds 4 _ _ _ rfl
      have q4_04 := R.cell_blk p44 0
      have f4_04 := R.free_blk p44 0
      have q4_14 := R.cell_blk p44 1
      have f4_14 := R.free_blk p44 1
      replace p44 := Lib.hid p44
      have p54 := F.olds 5 _ _ _ rfl
      have q5_04 := R.cell_blk p54 0
      have f5_04 := R.free_blk p54 0
      have q5_14 := R.cell_blk p54 1
      have f5_14 := R.free_blk p54 1
      replace p54 := Lib.hid p54
      clear F
      go_wp2
      go_roundg (newt n a).toNat
      case measure => have := K.out; omega
      case rel => exact ⟨newt n a, rfl, n1, by omega, n2, p44.out, p54.out, hB4, i7, i8⟩
end Go.Proofs.Ytlgabdamgalngaa
