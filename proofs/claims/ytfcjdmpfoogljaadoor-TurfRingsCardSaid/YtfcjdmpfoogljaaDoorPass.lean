/-
  Passing a ring: the contract.
-/
import Derived.Test.YtfcjdmpfoogljaaDoorIter
import Derived.Test.YtfcjdmpfoogljaaDoorLess
import Derived.Test.YtfcjdmpfoogljaaDoorPassM
import Derived.Test.YtfcjdmpfoogljaaDoorSeg
set_option linter.unusedVariables false
set_option linter.unusedSimpArgs false
namespace Go.Proofs.YtfcjdmpfoogljaaDoor
open Go.ChangeShapes Go.WideShapes Go.ChangeAt Go.RowKit Go.Shelf

attribute [local go_sem] Oper.semAt_some

/-- How far both ends are on the left of the way from a corner to the next one. -/
def lr (pt : Nat → Int × Int) (a0 a1 b0 b1 : Int) (j : Nat) : Int × Int :=
  (M.left (pt j).1 (pt j).2 (pt (nxt j)).1 (pt (nxt j)).2 a0 a1, M.left (pt j).1 (pt j).2 (pt (nxt j)).1 (pt (nxt j)).2 b0 b1)

theorem Corners.below {w w' : World} {b B : Nat} {pt : Nat → Int × Int} (h : Corners w b pt) (hb : Below B w w') (hB : b < B) : Corners w' b pt := by
  obtain ⟨cs, h1, h2, h3⟩ := h
  exact ⟨cs, (hb.block b hB).trans h1, h2, h3⟩
theorem sides_stops (n : Nat) (hn : 1 ≤ n) (Bs b cap : Nat) (pt : Nat → Int × Int) (w : World) (hBs : Bs < w.heap.size) (hb : b < w.heap.size)
    (hs : w.heap[Bs]? = some (.cells #[.slice (some ⟨b, 0, none⟩) 16 cap] 46 (0, 0))) (hc : Corners w b pt) :
    SeqStopsK Fence.wide n Tryd.prog 83 #[.pointer (some ⟨Bs, 0, none⟩)] (encSide pt) (KpL [Bs, b]) (fun ys => ys = sidesTo pt 16) (fun pre => ∃ k, k ≤ 16 ∧ pre = sidesTo pt k) 16 w := fun l J Jx W hW hJ _ hY h0 => by
  have h1 := hW.size
  exact sides1_in n hn l Bs b cap pt J Jx W (by omega) (by omega) hJ hY ((hW.block Bs hBs).trans hs) (hc.below hW hb) h0

/-- The state between two rounds. -/
def PS (w : World) (a0 a1 b0 b1 : Int) (pt : Nat → Int × Int) (pre : List Nat) (W : World) : Prop :=
  Below w.heap.size w W ∧ w.heap.size + 7 ≤ W.heap.size ∧ W.heap[w.heap.size]? = some (.cells #[.int .i64 a0, .int .i64 a1] 34 (0, 0)) ∧ W.heap[w.heap.size + 1]? = some (.cells #[.int .i64 b0, .int .i64 b1] 34 (0, 0)) ∧
  W.heap[w.heap.size + 1 + 1]? = some (.cells #[.bool false] 4 (0, 0)) ∧ W.heap[w.heap.size + 1 + 1 + 1]? = some (.cells #[.bool (!pre.isEmpty)] 4 (0, 0)) ∧ M.NoBad (pre.map (lr pt a0 a1 b0 b1)) ∧
  ∃ e1 e2 l1 l2 : Int, M.Ent (pre.map (lr pt a0 a1 b0 b1)) e1 e2 ∧ M.Lea (pre.map (lr pt a0 a1 b0 b1)) l1 l2 ∧ (e1 ≤ 281474976710656 ∧ e2 ≤ 281474976710656 ∧ l1 ≤ 281474976710656 ∧ l2 ≤ 281474976710656) ∧
    W.heap[w.heap.size + 1 + 1 + 1 + 1]? = some (.cells #[.int .i64 e1, .int .i64 e2] 100 (0, 0)) ∧ W.heap[w.heap.size + 1 + 1 + 1 + 1 + 1]? = some (.cells #[.int .i64 l1, .int .i64 l2] 100 (0, 0))
theorem PS.of {w W W' : World} {a0 a1 b0 b1 : Int} {pt : Nat → Int × Int} {pre : List Nat} (h : PS w a0 a1 b0 b1 pt pre W) (hb : Below w.heap.size w W') (hs : W.heap.size ≤ W'.heap.size) (hk : ∀ k cs T, k < w.heap.size + 6 → W.heap[k]? = some (.cells cs T (0, 0)) → W'.heap[k]? = some (.cells cs T (0, 0))) : PS w a0 a1 b0 b1 pt pre W' := by
  obtain ⟨_, h0, h1, h2, h3, h4, h5, e1, e2, l1, l2, h6, h7, h8, h9, h10⟩ := h
  exact ⟨hb, Nat.le_trans h0 hs, hk _ _ _ (by omega) h1, hk _ _ _ (by omega) h2, hk _ _ _ (by omega) h3, hk _ _ _ (by omega) h4, h5, e1, e2, l1, l2, h6, h7, h8, hk _ _ _ (by omega) h9, hk _ _ _ (by omega) h10⟩
theorem grown_cells {W W' : World} {row : Option Nat} {k : Nat} {cs : Array Value} {T : TypeId} (hg : W.grownBy W' row) (hr : ∀ r, row = some r → ∃ o : Obj, W.heap[r]? = some o ∧ o.isCells = false) (h : W.heap[k]? = some (.cells cs T (0, 0))) : W'.heap[k]? = some (.cells cs T (0, 0)) := by
  refine (hg.block k (R.heap_lt h) (fun e => ?_)).trans h
  obtain ⟨o, h1, h2⟩ := hr k e.symm
  rw [h] at h1
  cases h1
  cases h2
theorem PS.own (w : World) (a0 a1 b0 b1 : Int) (pt : Nat → Int × Int) (B : Nat) (hB : w.heap.size ≤ B) : OwnFrom B (PS w a0 a1 b0 b1 pt) := fun s W W' row hs hg hr =>
  hs.of (hs.1.grown hg hs.1.size (fun k e => by have := (hr k e).1; omega)) hg.size (fun k cs T _ h => grown_cells hg (fun r e => (hr r e).2) h)

/-- What a round leaves as it lay. -/
def Kp7 (s : Nat) (W W' : World) : Prop := W.heap.size ≤ W'.heap.size ∧ ∀ k, k < W.heap.size → k ≠ s + 2 → k ≠ s + 3 → k ≠ s + 4 → k ≠ s + 5 → W'.heap[k]? = W.heap[k]?
theorem Kp7.refl (s : Nat) (W : World) : Kp7 s W W := ⟨Nat.le_refl _, fun _ _ _ _ _ _ => rfl⟩
theorem Kp7.trans {s : Nat} {A B C : World} (h : Kp7 s A B) (k : Kp7 s B C) : Kp7 s A C := ⟨Nat.le_trans h.1 k.1, fun i h1 h2 h3 h4 h5 => (k.2 i (Nat.lt_of_lt_of_le h1 h.1) h2 h3 h4 h5).trans (h.2 i h1 h2 h3 h4 h5)⟩
theorem Kp7.set {s b o : Nat} {A B : World} (h : Kp7 s A B) (u : Value) (hb : b = s + 2 ∨ b = s + 3 ∨ b = s + 4 ∨ b = s + 5) : Kp7 s A (B.setCell ⟨b, o, none⟩ u) :=
  h.trans ⟨by simp [World.setCell], fun k h1 h2 h3 h4 h5 => Below.heap_setCell _ _ _ _ (by simp only []; omega)⟩
theorem Kp7.below {s : Nat} {A B C : World} (h : Kp7 s A B) (hb : ∀ k, k < B.heap.size → C.heap[k]? = B.heap[k]?) (hs : B.heap.size ≤ C.heap.size) : Kp7 s A C := h.trans ⟨hs, fun k h1 _ _ _ _ => hb k h1⟩
theorem Kp7.alloc {s : Nat} {A B : World} (h : Kp7 s A B) (o : Obj) : Kp7 s A (B.alloc o) := h.below (fun k hk => Below.heap_alloc _ _ _ hk) (by simp)
theorem Kp7.keeps {s : Nat} {A B : World} (h : Kp7 s A B) : KeepsFrom (s + 7) A B := ⟨h.1, fun k o hk hA _ => (h.2 k (R.heap_lt hA) (by omega) (by omega) (by omega) (by omega)).trans hA⟩
theorem Kp7.kpl {s g : Nat} {A B : World} (h : Kp7 s A B) (hg : g < s) (hA : s + 7 ≤ A.heap.size) : KpL [s + 1 + 1 + 1 + 1 + 1 + 1, g] A B := ⟨h.1, fun k hk => by
  simp at hk
  rcases hk with rfl | rfl
  · exact h.2 _ (by omega) (by omega) (by omega) (by omega) (by omega)
  · exact h.2 _ (by omega) (by omega) (by omega) (by omega) (by omega)⟩
theorem set2blk {W : World} {b : Nat} {u v u' v' : Value} {T : TypeId} (h : W.heap[b]? = some (.cells #[u, v] T (0, 0))) : ((W.setCell ⟨b, 0, none⟩ u').setCell ⟨b, 1, none⟩ v').heap[b]? = some (.cells #[u', v'] T (0, 0)) := by
  simp [World.setCell, Array.getElem?_modify, h]
theorem set1blk {W : World} {b : Nat} {u u' : Value} {T : TypeId} (h : W.heap[b]? = some (.cells #[u] T (0, 0))) : (W.setCell ⟨b, 0, none⟩ u').heap[b]? = some (.cells #[u'] T (0, 0)) := by
  simp [World.setCell, Array.getElem?_modify, h]

theorem PS.next {w W W' : World} {a0 a1 b0 b1 : Int} {pt : Nat → Int × Int} {pre : List Nat} {x : Nat} {P Q e1 e2 l1 l2 : Int} (hP : PS w a0 a1 b0 b1 pt pre W) (hx : lr pt a0 a1 b0 b1 x = (P, Q)) (kp : Kp7 w.heap.size W W') (hb : Below w.heap.size w W')
    (t2 : W'.heap[w.heap.size + 1 + 1]? = some (.cells #[.bool false] 4 (0, 0))) (t3 : W'.heap[w.heap.size + 1 + 1 + 1]? = some (.cells #[.bool true] 4 (0, 0))) (nb : M.NoBad (pre.map (lr pt a0 a1 b0 b1) ++ [(P, Q)])) (hE : M.Ent (pre.map (lr pt a0 a1 b0 b1) ++ [(P, Q)]) e1 e2) (hL : M.Lea (pre.map (lr pt a0 a1 b0 b1) ++ [(P, Q)]) l1 l2)
    (bd : e1 ≤ 281474976710656 ∧ e2 ≤ 281474976710656 ∧ l1 ≤ 281474976710656 ∧ l2 ≤ 281474976710656)
    (t4 : W'.heap[w.heap.size + 1 + 1 + 1 + 1]? = some (.cells #[.int .i64 e1, .int .i64 e2] 100 (0, 0))) (t5 : W'.heap[w.heap.size + 1 + 1 + 1 + 1 + 1]? = some (.cells #[.int .i64 l1, .int .i64 l2] 100 (0, 0))) :
    PS w a0 a1 b0 b1 pt (pre ++ [x]) W' := by
  obtain ⟨_, h7, p0, p1, _⟩ := hP
  have hm : (pre ++ [x]).map (lr pt a0 a1 b0 b1) = pre.map (lr pt a0 a1 b0 b1) ++ [(P, Q)] := by rw [List.map_append, List.map_cons, List.map_nil, hx]
  have hs := kp.1
  refine ⟨hb, by omega, (kp.2 _ (by omega) (by omega) (by omega) (by omega) (by omega)).trans p0, (kp.2 _ (by omega) (by omega) (by omega) (by omega) (by omega)).trans p1, t2, by rw [show (!(pre ++ [x]).isEmpty) = true from by cases pre <;> rfl]; exact t3, ?_⟩
  rw [hm]
  exact ⟨nb, e1, e2, l1, l2, hE, hL, bd, t4, t5⟩

/-- What the body of a round finds: the two boxed ends of a side; the frame. -/
def PAx (w : World) (a0 a1 b0 b1 : Int) (g : Nat) (pt : Nat → Int × Int) (x : Nat) (a' : Act) (W : World) : Prop :=
  ∃ B10 B11 : Nat, w.heap.size + 6 < B10 ∧ w.heap.size + 6 < B11 ∧ W.heap[B10]? = some (.cells #[.int .i64 (pt x).1, .int .i64 (pt x).2] 34 (0, 0)) ∧ W.heap[B11]? = some (.cells #[.int .i64 (pt (nxt x)).1, .int .i64 (pt (nxt x)).2] 34 (0, 0)) ∧
    a' = { tmps := #[.agg #[.int .i64 a0, .int .i64 a1], .agg #[.int .i64 b0, .int .i64 b1], .slice (some ⟨g, 0, none⟩) 16 16, .pointer (some ⟨w.heap.size, 0, none⟩), .pointer (some ⟨w.heap.size + 1, 0, none⟩), undef, .pointer (some ⟨w.heap.size + 1 + 1, 0, none⟩), .pointer (some ⟨w.heap.size + 1 + 1 + 1, 0, none⟩), .pointer (some ⟨w.heap.size + 1 + 1 + 1 + 1, 0, none⟩), .pointer (some ⟨w.heap.size + 1 + 1 + 1 + 1 + 1, 0, none⟩), .pointer (some ⟨B10, 0, none⟩), .pointer (some ⟨B11, 0, none⟩), undef, undef, undef, undef, .slice (some ⟨g, 0, none⟩) 16 16, .func (.func 83) #[] #[.pointer (some ⟨w.heap.size + 1 + 1 + 1 + 1 + 1 + 1, 0, none⟩)], .agg #[.int .i64 (pt x).1, .int .i64 (pt x).2], .agg #[.int .i64 (pt (nxt x)).1, .int .i64 (pt (nxt x)).2], undef, undef, undef, undef, undef, undef, undef, undef, undef, undef, undef, undef, undef, undef, undef, undef, undef, undef, undef, undef, undef, undef, undef, undef, undef, undef, undef, undef, undef, undef, undef, undef, undef, undef, undef, undef, undef, undef, undef, undef, undef, undef, undef, undef, undef, undef, undef, undef, undef, undef, undef, undef, undef, undef, undef, undef, undef, undef, undef, undef, undef, undef], defers := [] }
theorem lr_bd {pt : Nat → Int × Int} {a0 a1 b0 b1 : Int} (ha : M.In a0 a1) (hb : M.In b0 b1) (hpt : ∀ j, M.In (pt j).1 (pt j).2) (j : Nat) :
    -140737488355328 ≤ (lr pt a0 a1 b0 b1 j).1 ∧ (lr pt a0 a1 b0 b1 j).1 ≤ 140737488355328 ∧ -140737488355328 ≤ (lr pt a0 a1 b0 b1 j).2 ∧ (lr pt a0 a1 b0 b1 j).2 ≤ 140737488355328 := by
  obtain ⟨h1, h2⟩ := M.left_bd (hpt j) (hpt (nxt j)) ha
  obtain ⟨h3, h4⟩ := M.left_bd (hpt j) (hpt (nxt j)) hb
  exact ⟨h1, h2, h3, h4⟩
end Go.Proofs.YtfcjdmpfoogljaaDoor
