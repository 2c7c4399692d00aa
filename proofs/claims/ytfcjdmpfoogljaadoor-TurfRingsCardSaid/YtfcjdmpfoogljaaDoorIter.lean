/-
  The sides of a ring: the iterator's contract.
-/
import Derived.RangeFuncNested
import Derived.RangeFuncBound
import Derived.RangeFuncCalls
import Derived.RangeFuncLeaves
import Derived.Shelf.Abstract
import Derived.Shelf.RegionOpen
import Derived.WalkKit
import Derived.OwnWalkIn
import Derived.TacticsInMore
import Derived.LoopNIn
import Derived.LoopIn
import Derived.Test.YtfcjdmpfoogljaaDoorF
import Derived.Test.YtfcjdmpfoogljaaDoorGrowIn
set_option linter.unusedVariables false
set_option linter.unusedSimpArgs false
namespace Go.Proofs.YtfcjdmpfoogljaaDoor
open Go.ChangeShapes Go.WideShapes Go.ChangeAt Go.RowKit Go.Shelf

attribute [local go_sem] Oper.semAt_some

/-- The blocks of L lie as they lay; the heap has grown at most. -/
def KpL (L : List Nat) (W W' : World) : Prop := W.heap.size ≤ W'.heap.size ∧ ∀ k ∈ L, W'.heap[k]? = W.heap[k]?
theorem KpL.trans' {L : List Nat} {A B C : World} (h : KpL L A B) (h2 : KpL L B C) : KpL L A C := ⟨Nat.le_trans h.1 h2.1, fun k hk => (h2.2 k hk).trans (h.1 |> fun _ => h.2 k hk)⟩
theorem KpL.put {L : List Nat} {s : Nat} (hL : ∀ k ∈ L, k < s) (W : World) (l : Nat) (o o' : Obj) (hl : s ≤ l) (h1 : W.heap[l]? = some o) (h2 : o.isCells = false) (h3 : o.isWalk = false) : KpL L W (W.putObj l o') := by
  refine ⟨by simp [World.putObj], fun k hk => ?_⟩
  have := hL k hk
  simp only [World.putObj]
  rw [Array.getElem?_setIfInBounds_ne (by omega)]

/-- The next corner. -/
def nxt (k : Nat) : Nat := (k + 1) % 16
/-- The sides among the first k ways from corner to corner. -/
def sidesTo (pt : Nat → Int × Int) (k : Nat) : List Nat := (List.range k).filter (fun j => decide (pt j ≠ pt (nxt j)))
theorem sidesTo_yes {pt : Nat → Int × Int} {k : Nat} (h : pt k ≠ pt (nxt k)) : sidesTo pt (k + 1) = sidesTo pt k ++ [k] := by
  unfold sidesTo
  rw [List.range_succ, List.filter_append]
  simp [h]
theorem sidesTo_no {pt : Nat → Int × Int} {k : Nat} (h : pt k = pt (nxt k)) : sidesTo pt (k + 1) = sidesTo pt k := by
  unfold sidesTo
  rw [List.range_succ, List.filter_append]
  simp [h]
theorem sidesTo_len (pt : Nat → Int × Int) (k : Nat) : (sidesTo pt k).length ≤ k := by
  unfold sidesTo
  exact Nat.le_trans (List.length_filter_le _ _) (by simp)
/-- A point as a value. -/
def ptv (p : Int × Int) : Value := .agg #[.int .i64 p.1, .int .i64 p.2]
/-- What is handed to a round. -/
def encSide (pt : Nat → Int × Int) (k : Nat) : Array Value := #[ptv (pt k), ptv (pt (nxt k))]
/-- The corners lie in block b. -/
def Corners (W : World) (b : Nat) (pt : Nat → Int × Int) : Prop :=
  ∃ cs : Array Value, W.heap[b]? = some (.cells cs 34 (0, 0)) ∧ cs.size = 32 ∧ ∀ j, j < 16 → cs[j * 2]? = some (.int .i64 (pt j).1) ∧ cs[j * 2 + 1]? = some (.int .i64 (pt j).2)

set_option maxHeartbeats 1000000 in
theorem sides_in (n : Nat) (a : Option Addr) (len cap : Nat) (w : World) :
    CallsIn Fence.wide n Tryd.prog 80 #[.slice a len cap] w fun e w' => e = .returned (.func (.func 83) #[] #[.pointer (some ⟨w.heap.size, 0, none⟩)]) ∧ w' = w.alloc (.cells #[.slice a len cap] 46) := by
  refine callsIn_of_wp Tryd.func80 rfl trivial ?_ rfl
  simp only [Tryd.ntmps80, List.size_toArray, List.length_cons, List.length_nil, Nat.reduceAdd, Nat.reduceSub, Array.replicate_succ, Array.replicate_zero, List.push_toArray, List.append_toArray, List.nil_append, List.cons_append]
  gi_wp2
  go_ret
  exact ⟨rfl, rfl⟩

set_option maxRecDepth 100000 in
set_option maxHeartbeats 4000000 in
theorem sides1_in (n : Nat) (hn : 1 ≤ n) (l Bs b cap : Nat) (pt : Nat → Int × Int) (J Jx : List Nat → World → Prop) (W : World) (hBs : Bs < W.heap.size) (hb : b < W.heap.size) (hJ : AbidesFrom W.heap.size J)
    (hY : ∀ pre x W1, J pre W1 → pre.length < 16 → YieldAt Fence.wide (n - 1) Tryd.prog l (encSide pt x) W1 fun e W' =>
      (e = .returned (.bool true) ∧ J (pre ++ [x]) W' ∧ KpL [Bs, b] W1 W') ∨ (e = .returned (.bool false) ∧ Jx (pre ++ [x]) W'))
    (hs : W.heap[Bs]? = some (.cells #[.slice (some ⟨b, 0, none⟩) 16 cap] 46 (0, 0))) (hc : Corners W b pt) (h0 : J [] W) :
    CallsIn Fence.wide n Tryd.prog 83 #[.func (.yield l) #[] #[], .pointer (some ⟨Bs, 0, none⟩)] W fun e W' => (∃ v, e = .returned v) ∧
      ((∃ ys, ys = sidesTo pt 16 ∧ J ys W') ∨ (∃ pre, (∃ k, k ≤ 16 ∧ pre = sidesTo pt k) ∧ Jx pre W')) := by
  obtain ⟨cs, hc1, hc2, hc3⟩ := hc
  have ks := R.cell_blk hs 0
  have HS := Lib.hid hs
  have HC := Lib.hid hc1
  have HC3 := Lib.hid hc3
  have HY := Lib.hid hY
  have HJ := Lib.hid hJ
  clear hs hc1 hc3 hY hJ
  refine callsIn_of_wp Tryd.func83 rfl trivial ?_ rfl
  simp only [Tryd.ntmps83, List.size_toArray, List.length_cons, List.length_nil, Nat.reduceAdd, Nat.reduceSub, Array.replicate_succ, Array.replicate_zero, List.push_toArray, List.append_toArray, List.nil_append, List.cons_append]
  gi_wp2
  gi_loopw [8] (fun i wr => ∃ k : Nat, k ≤ 16 ∧ i = .int .i64 k ∧ J (sidesTo pt k) wr ∧ KpL [Bs, b] W wr)
    (fun i _ => 16 - (intOf i).toNat)
  case atStart => exact ⟨0, Nat.zero_le _, rfl, h0, Nat.le_refl _, fun _ _ => rfl⟩
  case round =>
    obtain ⟨k, hk, rfl, hJs, hK⟩ := hrel
    by_cases hlt : k < 16
    · have hm : nxt k < 16 := Nat.mod_lt _ (by omega)
      have hmod : ((k : Int) + 1) % 16 = (nxt k : Nat) := by unfold nxt; omega
      have hm' : ((nxt k : Nat) : Int) < 16 := by omega
      obtain ⟨w, hw⟩ : ∃ w, w = wr := ⟨_, rfl⟩
      subst hw
      have hbr : w.heap[b]? = some (.cells cs 34 (0, 0)) := (hK.2 b (by simp)).trans HC.out
      have hsr : w.heap[Bs]? = some (.cells #[.slice (some ⟨b, 0, none⟩) 16 cap] 46 (0, 0)) := (hK.2 Bs (by simp)).trans HS.out
      have hbl := R.heap_lt hbr
      have hsl := R.heap_lt hsr
      have c0 := (R.cell_blk hbr (k * 2)).trans (HC3.out k hlt).1
      have c1 := (R.cell_blk hbr (k * 2 + 1)).trans (HC3.out k hlt).2
      have f0 := R.free_blk hbr (k * 2)
      have f1 := R.free_blk hbr (k * 2 + 1)
      have d0 := (R.cell_blk hbr (nxt k * 2)).trans (HC3.out (nxt k) hm).1
      have d1 := (R.cell_blk hbr (nxt k * 2 + 1)).trans (HC3.out (nxt k) hm).2
      have s0 := R.cell_blk hsr 0
      have HE : encSide pt k = #[.agg #[.int .i64 (pt k).1, .int .i64 (pt k).2], .agg #[.int .i64 (pt (nxt k)).1, .int .i64 (pt (nxt k)).2]] := rfl
      have HNE : pt k = pt (nxt k) ↔ ((pt k).1 = (pt (nxt k)).1 ∧ (pt k).2 = (pt (nxt k)).2) := Prod.ext_iff
      have HK := Lib.hid hK
      have HJs := Lib.hid hJs
      have HJA := Lib.hid (fun w5 (h : Below w.heap.size w w5) => HJ.out _ w w5 none hJs ⟨h.os, h.tape, h.output, h.size, fun k hk _ => h.block k hk⟩ (fun r e => by cases e))
      have HYY := Lib.hid (fun w5 h => HE ▸ HY.out (sidesTo pt k) k w5 h (by have := sidesTo_len pt k; omega))
      have HNX := Lib.hid HNE
      have HKK := Lib.hid (fun w5 (h : Below w.heap.size w w5) => (show KpL [Bs, b] W w5 from KpL.trans' hK ⟨h.size, fun x hx => h.block x (by simp at hx; rcases hx with rfl | rfl <;> omega)⟩))
      clear hbr hsr hK hJs HE HNE
      generalize (pt k).1 = X0 at *
      generalize (pt k).2 = X1 at *
      generalize (pt (nxt k)).1 = Y0 at *
      generalize (pt (nxt k)).2 = Y1 at *
      gi_wp2
      have z0 : (w.alloc (.cells #[.int .i64 X0, .int .i64 X1] 34)).cell? ⟨w.heap.size, 0, none⟩ = some (.int .i64 X0) := by go_cell
      have z1 : (w.alloc (.cells #[.int .i64 X0, .int .i64 X1] 34)).cell? ⟨w.heap.size, 1, none⟩ = some (.int .i64 X1) := by go_cell
      refine R.region_grow_in [.val (.slice (some ⟨b, 0, none⟩) 16 cap), .val (.int .i64 k), .val (.int .i64 (k + 1)), .val (.slice (some ⟨b, 0, none⟩) 16 cap), .val (.int .i64 16), .val (.int .i64 (nxt k)), .val (.pointer (some ⟨b, nxt k * 2, none⟩)), .val (.agg #[.int .i64 Y0, .int .i64 Y1]), .new 34 #[.int .i64 0, .int .i64 0], .put 8 #[.int .i64 Y0, .int .i64 Y1]] (by kernel_rfl) (by kernel_rfl) (by kernel_rfl) (by kernel_rfl) ?_ ?_
      · refine ⟨?_, ?_, ?_, ?_, ?_, ?_, ?_, ?_, ?_, ?_, trivial⟩
        · intro act wx KK E hk hK
          have e1 := E 1 _ rfl
          obtain ⟨hc, hf⟩ := hk.cells rfl
          try simp only [World.size_drew] at hc hf
          go_simp
          exact hK _ (Below.refl _ _)
        · intro act wx KK E hk hK
          have e3 := E 3 _ rfl
          go_simp
          exact hK _ (Below.refl _ _)
        · intro act wx KK E hk hK
          have e14 := E 14 _ rfl
          go_simp
          try go_bits
          first | exact hK _ (Below.refl _ _) | (gi_step; exact hK _ (Below.refl _ _)) | (gi_step; gi_step; exact hK _ (Below.refl _ _))
        · intro act wx KK E hk hK
          have e1 := E 1 _ rfl
          obtain ⟨hc, hf⟩ := hk.cells rfl
          try simp only [World.size_drew] at hc hf
          go_simp
          exact hK _ (Below.refl _ _)
        · intro act wx KK E hk hK
          have e16 := E 16 _ rfl
          go_simp
          exact hK _ (Below.refl _ _)
        · intro act wx KK E hk hK
          have e15 := E 15 _ rfl
          have e17 := E 17 _ rfl
          go_simp
          try go_bits
          first | exact hK _ (Below.refl _ _) | (gi_step; exact hK _ (Below.refl _ _)) | (gi_step; gi_step; exact hK _ (Below.refl _ _))
        · intro act wx KK E hk hK
          have e13 := E 13 _ rfl
          have e18 := E 18 _ rfl
          go_simp
          exact hK _ (Below.refl _ _)
        · intro act wx KK E hk hK
          have e19 := E 19 _ rfl
          obtain ⟨hc, hf⟩ := hk.cells rfl
          try simp only [World.size_drew] at hc hf
          go_simp
          exact hK _ (Below.refl _ _)
        · intro act wx KK hK
          go_simp
          exact hK
        · intro TT zz hT act wx KK bb cs0 dd E hk hd hb hh hsz hK
          cases hT
          obtain ⟨c0, c1, rfl⟩ := R.of_size2 hsz
          cases hd
          have e20 := E 20 _ rfl
          have kc0 := R.cell_blk hh 0
          have kf0 := R.free_blk hh 0
          have kc1 := R.cell_blk hh 1
          have kf1 := R.free_blk hh 1
          have hK' := hK _ (R.rewrites2 hh)
          clear hK
          go_simp
          exact hK'
      intro β5 w5 F
      simp only [R.finAct, R.Item.value, Act.put, List.getElem?_toArray, List.getElem?_cons_zero, List.getElem?_cons_succ, List.size_toArray, List.length_cons, List.length_nil, Nat.reduceAdd, List.setIfInBounds_toArray, List.set_cons_zero, List.set_cons_succ]
      have hB5 := stepB (w := w) (by go_grown) (F.kept.below rfl)
      obtain ⟨hc5, hf5⟩ := F.kept.cells rfl
      try simp only [World.size_drew] at hc5 hf5
      have hz5 := F.kept.size
      try simp only [World.size_alloc, World.size_setCell, World.size_drew] at hz5
      try have ha5 : w.heap.size < w5.heap.size := (by omega)
      try have hi5 : w.heap.size + 1 < w5.heap.size := (by omega)
      try have hj5 : w.heap.size + 1 + 1 < w5.heap.size := (by omega)
      try have hk5 : w.heap.size + 1 + 1 + 1 < w5.heap.size := (by omega)
      try have hl5 : w.heap.size + 1 + 1 + 1 + 1 < w5.heap.size := (by omega)
      have hH5 := fun b hb => F.kept.block b hb (R.noOlds_isOld rfl _ b)
      obtain ⟨n8a5, n8b5, _⟩ := F.news 8 _ _ rfl
      have p95 := F.puts 9 8 _ _ _ rfl rfl
      have q9_05 := R.cell_blk p95 0
      have f9_05 := R.free_blk p95 0
      have q9_15 := R.cell_blk p95 1
      have f9_15 := R.free_blk p95 1
      replace p95 := Lib.hid p95
      clear F
      have hJ5 := HJA.out w5 hB5
      have hK5 := HKK.out w5 hB5
      by_cases e0 : X0 = Y0
      · by_cases e1 : X1 = Y1
        · have hno := sidesTo_no (HNX.out.2 ⟨e0, e1⟩)
          subst e0
          subst e1
          gi_wp2
          refine ⟨fun _ h => (by cases h), ?_⟩
          gi_wp2
          go_roundw
          case rel => exact ⟨k + 1, by omega, by simp, by rw [hno]; exact hJ5, hK5⟩
          case measure => simp [intOf]; omega
        · have hyes := sidesTo_yes (fun h => e1 (HNX.out.1 h).2)
          obtain ⟨fn, tmps, assign, body, hy, hR⟩ := HYY.out w5 hJ5
          subst e0
          gi_wp2
          refine hR.mono ?_
          rintro e W3 (⟨rfl, hJ3, hk3⟩ | ⟨rfl, hJx3⟩)
          · gi_wp2
            go_roundw
            case rel => exact ⟨k + 1, by omega, by simp, by rw [hyes]; exact hJ3, hK5.trans' hk3⟩
            case measure => simp [intOf]; omega
          · gi_wp2
            refine bodyPost_ret (results_none rfl _ _ _) rfl ?_
            exact ⟨⟨_, rfl⟩, .inr ⟨_, ⟨k + 1, by omega, hyes.symm⟩, hJx3⟩⟩
      · have hyes := sidesTo_yes (fun h => e0 (HNX.out.1 h).1)
        obtain ⟨fn, tmps, assign, body, hy, hR⟩ := HYY.out w5 hJ5
        gi_wp2
        refine hR.mono ?_
        rintro e W3 (⟨rfl, hJ3, hk3⟩ | ⟨rfl, hJx3⟩)
        · gi_wp2
          go_roundw
          case rel => exact ⟨k + 1, by omega, by simp, by rw [hyes]; exact hJ3, hK5.trans' hk3⟩
          case measure => simp [intOf]; omega
        · gi_wp2
          refine bodyPost_ret (results_none rfl _ _ _) rfl ?_
          exact ⟨⟨_, rfl⟩, .inr ⟨_, ⟨k + 1, by omega, hyes.symm⟩, hJx3⟩⟩
    · obtain rfl : k = 16 := by omega
      gi_wp2
      go_end0
      exact ⟨⟨_, rfl⟩, .inl ⟨_, rfl, hJs⟩⟩
end Go.Proofs.YtfcjdmpfoogljaaDoor
