/-
  Contracts of the document's own answers: the ring of a disc.
-/
import Derived.OwnWalk
import Derived.Maps.AppendAt
import Derived.Deep.AppendLies
import Derived.Test.YtfcjdmpfoogljaaDoorSegR
import Derived.Test.YtfcjdmpfoogljaaDoorF
set_option linter.unusedVariables false
set_option linter.unusedSimpArgs false
namespace Go.Proofs.YtfcjdmpfoogljaaDoor
open Go.ChangeShapes Go.WideShapes Go.ChangeAt Go.RowKit

theorem infoPoint : (Tryd.prog.info? 34).map (fun i => (i.zero, i.size, i.bytes)) = some (some (.agg #[.int .i64 0, .int .i64 0]), 2, 16) := by kernel_rfl
theorem infoInt : (Tryd.prog.info? 2).map (fun i => (i.zero, i.size, i.bytes)) = some (some (.int .i64 0), 1, 8) := by kernel_rfl

/-- The cells of the first k corners. -/
def rcells (x y r : Int) (k : Nat) : List Value := (List.range k).flatMap fun j => [.int .i64 (rpt x y r j).1, .int .i64 (rpt x y r j).2]
theorem rcells_succ (x y r : Int) (k : Nat) : rcells x y r (k + 1) = rcells x y r k ++ [.int .i64 (rpt x y r k).1, .int .i64 (rpt x y r k).2] := by
  unfold rcells
  rw [List.range_succ, List.flatMap_append]
  simp
theorem turn4 (m : Nat) (h : m < 12) : pc (m + 4) = -ps m ∧ ps (m + 4) = pc m := by
  have : ∀ i : Fin 12, pc (i.val + 4) = -ps i.val ∧ ps (i.val + 4) = pc i.val := by decide
  exact this ⟨m, h⟩
theorem c2new (w : World) (a b : Value) (t : TypeId) : ∀ j u, [a, b][j]? = some u → (w.alloc (.cells #[a, b] t)).cell? ((⟨w.heap.size, 0, none⟩ : Addr).add j) = some u := by
  intro j u hj
  match j, hj with
  | 0, hj => simp at hj; subst hj; simp [Addr.add]
  | 1, hj => simp at hj; subst hj; simp [Addr.add]
  | j + 2, hj => simp at hj
theorem c1new (w : World) (a : Value) (t : TypeId) : ∀ j u, [a][j]? = some u → (w.alloc (.cells #[a] t)).cell? ((⟨w.heap.size, 0, none⟩ : Addr).add j) = some u := by
  intro j u hj
  match j, hj with
  | 0, hj => simp at hj; subst hj; simp [Addr.add]
  | j + 1, hj => simp at hj
def md4 (k : Nat) : Nat := k % 4
def dv4 (k : Nat) : Nat := k / 4
theorem md4_add (k : Nat) : md4 k + 4 * dv4 k = k := by unfold md4 dv4; omega
def tableCells : Array Value := #[.int .i64 4096, .int .i64 0, .int .i64 3784, .int .i64 1567, .int .i64 2896, .int .i64 2896, .int .i64 1567, .int .i64 3784]
theorem table_get (j : Nat) (h : j < 4) : tableCells[j * 2]? = some (.int .i64 (pc j)) ∧ tableCells[j * 2 + 1]? = some (.int .i64 (ps j)) := by
  have : j = 0 ∨ j = 1 ∨ j = 2 ∨ j = 3 := by omega
  rcases this with rfl | rfl | rfl | rfl <;> exact ⟨rfl, rfl⟩
theorem set2b {W : World} {b : Nat} {u v u' v' : Value} {T : TypeId} (h : W.heap[b]? = some (.cells #[u, v] T (0, 0))) : ((W.setCell ⟨b, 0, none⟩ u').setCell ⟨b, 1, none⟩ v').heap[b]? = some (.cells #[u', v'] T (0, 0)) := by
  simp [World.setCell, Array.getElem?_modify, h]
set_option maxRecDepth 100000 in
set_option maxHeartbeats 8000000 in
theorem circle_any (x y r : Int) (w : World) (hx : M.In x y) (hr : 0 ≤ r) (hr2 : r ≤ 65536) :
    Calls Tryd.prog 64 #[.agg #[.int .i64 x, .int .i64 y, .int .i64 r]] w fun e w' => (∃ v, e = .returned v ∧ w'.ownsRow w.heap.size 34 2 v 16 (rcells x y r 16)) ∧ Below w.heap.size w w' := by
  obtain ⟨⟨hx1, hx2⟩, ⟨hy1, hy2⟩⟩ := hx
  obtain ⟨i0, hi, hz0, hz1, hz2⟩ := info_parts infoPoint
  go_enter Tryd.func64, Tryd.ntmps64
  go_wp2
  have hB0 : Below w.heap.size w ((w.alloc (.cells #[.int .i64 x, .int .i64 y, .int .i64 r] 36)).alloc (.cells tableCells 34)) := by go_grown
  have k0 : ((w.alloc (.cells #[.int .i64 x, .int .i64 y, .int .i64 r] 36)).alloc (.cells tableCells 34)).heap[w.heap.size]? = some (.cells #[.int .i64 x, .int .i64 y, .int .i64 r] 36 (0, 0)) := heap_alloc2_old _ _ _
  have k1 : ((w.alloc (.cells #[.int .i64 x, .int .i64 y, .int .i64 r] 36)).alloc (.cells tableCells 34)).heap[w.heap.size + 1]? = some (.cells tableCells 34 (0, 0)) := heap_alloc2_new _ _ _
  have hs0 : ((w.alloc (.cells #[.int .i64 x, .int .i64 y, .int .i64 r] 36)).alloc (.cells tableCells 34)).heap.size = w.heap.size + 2 := by simp
  rw [show (#[.int .i64 4096, .int .i64 0, .int .i64 3784, .int .i64 1567, .int .i64 2896, .int .i64 2896, .int .i64 1567, .int .i64 3784] : Array Value) = tableCells from rfl]
  generalize (w.alloc (.cells #[.int .i64 x, .int .i64 y, .int .i64 r] 36)).alloc (.cells tableCells 34) = w0 at *
  have H0 := Lib.hid (And.intro k0 (And.intro k1 (And.intro hB0 hs0)))
  clear k0 k1 hB0 hs0
  go_loopw [4, 5] (fun v i wr => ∃ k : Nat, k ≤ 16 ∧ i = .int .i64 k ∧ wr.ownsRow (w.heap.size + 2) 34 2 v k (rcells x y r k) ∧ wr.heap[w.heap.size]? = some (.cells #[.int .i64 x, .int .i64 y, .int .i64 r] 36 (0, 0)) ∧ wr.heap[w.heap.size + 1]? = some (.cells tableCells 34 (0, 0)) ∧ Below w.heap.size w wr ∧ w.heap.size + 2 ≤ wr.heap.size) (fun _ i _ => 16 - (intOf i).toNat)
  case atStart => exact ⟨0, by omega, rfl, World.ownsRow_nil _ _ _ _, H0.out.1, H0.out.2.1, H0.out.2.2.1, by rw [H0.out.2.2.2]; omega⟩
  case round =>
    obtain ⟨k, hk, rfl, hown, hdisc, htab, hBr, hsr⟩ := hrel
    obtain ⟨wo, hwo⟩ : ∃ wo, wo = wr := ⟨_, rfl⟩
    subst hwo
    by_cases hlt : k < 16
    · have hj : md4 k < 4 := Nat.mod_lt _ (by omega)
      have hj' : ((md4 k : Nat) : Int) < 4 := by omega
      have hmod : (k : Int) % 4 = (md4 k : Nat) := by unfold md4; omega
      have hmod2 : (k : Int).tmod 4 = (md4 k : Nat) := by rw [Int.tmod_eq_emod_of_nonneg (by omega)]; exact hmod
      have t0 := (R.cell_blk htab (md4 k * 2)).trans (table_get _ hj).1
      have t1 := (R.cell_blk htab (md4 k * 2 + 1)).trans (table_get _ hj).2
      have HO := Lib.hid hown
      have HD := Lib.hid hdisc
      have HTB := Lib.hid htab
      clear hown hdisc htab
      have hlt1 : (k : Int) < 16 := by omega
      go_wp2
      have hs7 := hBr.size
      obtain ⟨W1, hW1⟩ : ∃ W1, wo.alloc (.cells #[.int .i64 (pc (md4 k)), .int .i64 (ps (md4 k))] 34) = W1 := ⟨_, rfl⟩
      have e1 : W1.heap.size = wo.heap.size + 1 := by rw [← hW1]; simp
      have e2 : W1.heap[wo.heap.size]? = some (.cells #[.int .i64 (pc (md4 k)), .int .i64 (ps (md4 k))] 34 (0, 0)) := by rw [← hW1]; exact heap_alloc_new _ _
      have e3 : Below wo.heap.size wo W1 := by rw [← hW1]; exact (Below.refl _ _).alloc (Nat.le_refl _) _
      rw [hW1]
      clear hW1
      have E1 := Lib.hid e1
      have E2 := Lib.hid e2
      have E3 := Lib.hid e3
      clear e2 e3 t0 t1 hmod hmod2
      have hdiv : (k : Int) / 4 = (dv4 k : Nat) := by unfold dv4; omega
      have hdiv2 : (k : Int).tdiv 4 = (dv4 k : Nat) := by rw [Int.tdiv_eq_ediv_of_nonneg (by omega)]; exact hdiv
      have hdv : dv4 k ≤ 4 := by unfold dv4; omega
      go_loopw [7] (fun i wr => ∃ m : Nat, m ≤ dv4 k ∧ i = .int .i64 m ∧ wr.heap[wo.heap.size]? = some (.cells #[.int .i64 (pc (md4 k + 4 * m)), .int .i64 (ps (md4 k + 4 * m))] 34 (0, 0)) ∧ Below wo.heap.size W1 wr ∧ wr.heap.size = W1.heap.size) (fun i _ => dv4 k - (intOf i).toNat)
      case atStart => exact ⟨0, Nat.zero_le _, rfl, E2.out, Below.refl _ _, rfl⟩
      case round =>
        obtain ⟨m, hm, rfl, hT, hBq, hsq⟩ := hrel
        have c0 := R.cell_blk hT 0
        have c1 := R.cell_blk hT 1
        have f0 := R.free_blk hT 0
        have f1 := R.free_blk hT 1
        simp at c0 c1
        have HT := Lib.hid hT
        have hlq : wo.heap.size < wr.heap.size := by omega
        clear hT
        by_cases hml : m < dv4 k
        · have hml' : (m : Int) < (dv4 k : Nat) := by omega
          obtain ⟨p1, p2⟩ := turn4 (md4 k + 4 * m) (by have := md4_add k; omega)
          obtain ⟨b1, b2, b3, b4⟩ := pcs_bd (md4 k + 4 * m)
          have P1 := Lib.hid p1
          have P2 := Lib.hid p2
          clear p1 p2
          go_wp2
          refine ⟨⟨m + 1, by omega, by go_num, ?_, (hBq.setCell (by simp) _).setCell (by simp) _, by simpa [World.setCell] using hsq⟩, by simp [intOf]; omega⟩
          rw [show md4 k + 4 * (m + 1) = md4 k + 4 * m + 4 by omega, P1.out, P2.out]
          exact set2b HT.out
        · obtain rfl : m = dv4 k := by omega
          rw [md4_add] at c0 c1 HT
          have hB2 : Below wo.heap.size wo wr := E3.out.trans hBq
          have d0 := (hB2.block w.heap.size (by omega)).trans HD.out
          have d1 := (hB2.block (w.heap.size + 1) (by omega)).trans HTB.out
          have x0 := R.cell_blk d0 0
          have x1 := R.cell_blk d0 1
          have x2 := R.cell_blk d0 2
          simp at x0 x1 x2
          have hown1 : wr.ownsRow (w.heap.size + 2) 34 2 u4 k (rcells x y r k) := HO.out.kept (w' := wr) (row := none) ⟨hB2.os, hB2.tape, hB2.output, hB2.size, fun b hb _ => hB2.block b hb⟩ (by cases hv : u4.ownBlock <;> simp)
          have HO1 := Lib.hid hown1
          have D0 := Lib.hid d0
          have D1 := Lib.hid d1
          have HB2 := Lib.hid hB2
          clear hown1 d0 d1 hB2
          have HSQ := Lib.hid hsq
          have lq0 : w.heap.size < wr.heap.size := by omega
          have lq1 : w.heap.size + 1 < wr.heap.size := by omega
          have lq2 : w.heap.size + 2 ≤ wr.heap.size := by omega
          clear hsq e1
          obtain ⟨p1, p2, p3, p4⟩ := pcs_bd k
          obtain ⟨b1, b2⟩ := M.mul_bd r (pc k) 65536 4096 (by omega) (by omega) (by omega) (by omega)
          obtain ⟨b3, b4⟩ := M.mul_bd r (ps k) 65536 4096 (by omega) (by omega) (by omega) (by omega)
          obtain ⟨b5, b6⟩ := M.tdiv_bd (r * pc k) 4096 (by omega) (-268435456) 268435456 (by omega) (by omega) (by omega) (by omega)
          obtain ⟨b7, b8⟩ := M.tdiv_bd (r * ps k) 4096 (by omega) (-268435456) 268435456 (by omega) (by omega) (by omega) (by omega)
          go_wp2_with (at_builtin; refine wpList_append_own_at _ rfl _ _ 46 rfl (w.heap.size + 2) 34 i0 (.agg #[.int .i64 0, .int .i64 0]) 2 16 Tryd.underlying46 hi hz0 hz1 hz2 rfl (by decide) _ _ _ rfl (HO1.out.alloc _) ⟨wr.heap.size, 0, none⟩ 1 1 [.int .i64 (x + (r * pc k).tdiv 4096), .int .i64 (y + (r * ps k).tdiv 4096)] rfl rfl (c2new _ _ _ _) (fun u hu => by simp at hu; rcases hu with rfl | rfl <;> rfl) (by unfold maxLen; omega) (by omega) (by simp; omega) ?_; intro v' w3 hown' hgrow3 hnil3 hat3)
          go_wp2
          have hB4 : Below w.heap.size w (wr.alloc (.cells #[.int .i64 (x + (r * pc k).tdiv 4096), .int .i64 (y + (r * ps k).tdiv 4096)] 34)) := (hBr.trans (HB2.out.mono hs7)).alloc (by omega) _
          have lown := HO1.out.lt
          have hB5 : Below w.heap.size w w3 := hB4.grown hgrow3 (by simp; omega) (fun b hb => by have := (lown b hb).1; omega)
          have g0 : ∀ b, b < w.heap.size + 2 → w3.heap[b]? = wr.heap[b]? := fun b hb => (hgrow3.block b (by simp; omega) (fun h => by have := (lown b h.symm).1; omega)).trans (Below.heap_alloc _ _ _ (by omega))
          refine ⟨⟨k + 1, by omega, by go_num, ?_, (g0 _ (by omega)).trans D0.out, (g0 _ (by omega)).trans D1.out, hB5, by have := hgrow3.size; simp at this; omega⟩, by simp [intOf]; omega⟩
          rw [rcells_succ]
          exact hown'
    · obtain rfl : k = 16 := by omega
      go_wp2
      go_returns
      exact ⟨⟨_, rfl, ⟨hown.1, by rcases hown.2 with h | ⟨g, cap, cur, h1, h2, h3⟩; exact .inl h; exact .inr ⟨g, cap, cur, h1, by omega, h3⟩⟩⟩, hBr⟩
end Go.Proofs.YtfcjdmpfoogljaaDoor
