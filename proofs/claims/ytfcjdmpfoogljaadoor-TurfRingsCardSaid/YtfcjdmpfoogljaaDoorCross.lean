/-
  Contracts of the document's own answers: does a segment pass a ring? The two lists.
-/
import Derived.BigQuiet
import Derived.Deep.QuietTactic
import Derived.Deep.RegionHeldLaw
import Derived.Test.YtfcjdmpfoogljaaDoorRingR
import Derived.Test.YtfcjdmpfoogljaaDoorPass
import Derived.Test.YtfcjdmpfoogljaaDoorLessR
set_option linter.unusedVariables false
set_option linter.unusedSimpArgs false
namespace Go.Proofs.YtfcjdmpfoogljaaDoor
open Go.ChangeShapes Go.WideShapes Go.ChangeAt Go.RowKit

/-- The six cells that a region reads. -/
def S6 (g k j B : Nat) (X0 X1 Y0 Y1 a0 a1 : Int) (w : World) : Prop :=
  w.cell? ⟨g, k * 2, none⟩ = some (.int .i64 X0) ∧ w.cell? ⟨g, k * 2 + 1, none⟩ = some (.int .i64 X1) ∧ w.cell? ⟨g, j * 2, none⟩ = some (.int .i64 Y0) ∧ w.cell? ⟨g, j * 2 + 1, none⟩ = some (.int .i64 Y1) ∧ w.cell? ⟨B, 0, none⟩ = some (.int .i64 a0) ∧ w.cell? ⟨B, 1, none⟩ = some (.int .i64 a1)
theorem S6.of {g k j B : Nat} {X0 X1 Y0 Y1 a0 a1 : Int} {w w' : World} (h : S6 g k j B X0 X1 Y0 Y1 a0 a1 w) (hg : w'.heap[g]? = w.heap[g]?) (hB : w'.heap[B]? = w.heap[B]?) : S6 g k j B X0 X1 Y0 Y1 a0 a1 w' := by
  obtain ⟨h1, h2, h3, h4, h5, h6⟩ := h
  exact ⟨(World.cell?_of_block (a := ⟨g, _, none⟩) hg).trans h1, (World.cell?_of_block (a := ⟨g, _, none⟩) hg).trans h2, (World.cell?_of_block (a := ⟨g, _, none⟩) hg).trans h3, (World.cell?_of_block (a := ⟨g, _, none⟩) hg).trans h4, (World.cell?_of_block (a := ⟨B, _, none⟩) hB).trans h5, (World.cell?_of_block (a := ⟨B, _, none⟩) hB).trans h6⟩
/-- The numbers of a list as cells. -/
def icells (l : List Int) : List Value := l.map (fun x => .int .i64 x)
/-- Both lists, in rows of their own. -/
def TwoRows (w : World) (base : Nat) (p q : Value) (L : List (Int × Int)) : Prop :=
  w.ownsRow base 2 1 p L.length (icells (L.map Prod.fst)) ∧ w.ownsRow base 2 1 q L.length (icells (L.map Prod.snd)) ∧ (p.ownBlock = none ∨ p.ownBlock ≠ q.ownBlock)
theorem TwoRows.kept {w w' : World} {base : Nat} {p q : Value} {L : List (Int × Int)} (h : TwoRows w base p q L) (hb : Below w.heap.size w w') : TwoRows w' base p q L :=
  ⟨h.1.kept (row := none) ⟨hb.os, hb.tape, hb.output, hb.size, fun k hk _ => hb.block k hk⟩ (by cases hv : p.ownBlock <;> simp), h.2.1.kept (row := none) ⟨hb.os, hb.tape, hb.output, hb.size, fun k hk _ => hb.block k hk⟩ (by cases hv : q.ownBlock <;> simp), h.2.2⟩

theorem after_p {w6 w9 w10 : World} {base n n' : Nat} {p q : Value} {ps qs : List Value} {o : Obj} {gp : Nat} (hp : w6.ownsRow base 2 1 p n' ps) (hq : w6.ownsRow base 2 1 q n qs) (hpq : p.ownBlock = none ∨ p.ownBlock ≠ q.ownBlock)
    (hb9 : Below w6.heap.size w6 w9) (hgrow : (w9.alloc o).grownBy w10 p.ownBlock) (hat : p.ownBlock = some gp ∨ gp = (w9.alloc o).heap.size) :
    w10.ownsRow base 2 1 q n qs ∧ q.ownBlock ≠ some gp ∧ (∀ b, b < w6.heap.size → b < base → w10.heap[b]? = w6.heap[b]?) ∧ w6.heap.size ≤ w10.heap.size ∧ (w10.os = w6.os ∧ w10.tape = w6.tape ∧ w10.output = w6.output) := by
  have h9 := hb9.size
  have hs := hgrow.size
  simp only [World.size_alloc] at hs
  have q1 : w9.ownsRow base 2 1 q n qs := hq.kept (row := none) ⟨hb9.os, hb9.tape, hb9.output, hb9.size, fun k hk _ => hb9.block k hk⟩ (by cases hv : q.ownBlock <;> simp)
  refine ⟨(q1.alloc o).kept hgrow ?_, ?_, fun b hb1 hb2 => ?_, by omega, hgrow.os.trans hb9.os, hgrow.tape.trans hb9.tape, hgrow.output.trans hb9.output⟩
  · rcases hpq with h | h
    · rw [h]; cases hv : q.ownBlock <;> simp
    · exact .inr (Ne.symm h)
  · rcases hat with h | h
    · rcases hpq with k | k
      · rw [k] at h; cases h
      · rw [← h]; exact Ne.symm k
    · intro e
      have := (hq.lt gp e).2
      simp at h
      omega
  · refine (hgrow.block b (by simp; omega) (fun e => by have := (hp.lt b e.symm).1; omega)).trans ((Below.heap_alloc _ _ _ (by omega)).trans (hb9.block b hb1))

theorem TwoRows.snoc {w : World} {base gp gq capp capq n : Nat} {L : List (Int × Int)} {P Q : Int} (h1 : w.ownsRow base 2 1 (.slice (some ⟨gp, 0, none⟩) (n + 1) capp) (n + 1) (icells (L.map Prod.fst) ++ [.int .i64 P])) (h2 : w.ownsRow base 2 1 (.slice (some ⟨gq, 0, none⟩) (n + 1) capq) (n + 1) (icells (L.map Prod.snd) ++ [.int .i64 Q]))
    (h3 : (Value.slice (some ⟨gp, 0, none⟩) (n + 1) capp).ownBlock ≠ some gq) (hn : n = L.length) : TwoRows w base (.slice (some ⟨gp, 0, none⟩) (n + 1) capp) (.slice (some ⟨gq, 0, none⟩) (n + 1) capq) (L ++ [(P, Q)]) := by
  subst hn
  refine ⟨?_, ?_, .inr h3⟩
  · simpa [icells] using h1
  · simpa [icells] using h2
/-- The lists read. -/
theorem TwoRows.read {w : World} {base : Nat} {p q : Value} {L : List (Int × Int)} (h : TwoRows w base p q L) (hL : 0 < L.length) :
    ∃ gp cp gq cq, p = .slice (some ⟨gp, 0, none⟩) L.length cp ∧ q = .slice (some ⟨gq, 0, none⟩) L.length cq ∧ gp < w.heap.size ∧ gq < w.heap.size ∧ ∀ j : Nat, j < L.length → ∃ P Q, (P, Q) ∈ L ∧ L[j]? = some (P, Q) ∧ w.cell? ⟨gp, j, none⟩ = some (.int .i64 P) ∧ w.cell? ⟨gq, j, none⟩ = some (.int .i64 Q) := by
  obtain ⟨gp, cp, rfl, _, h1⟩ := h.1.form hL
  obtain ⟨gq, cq, rfl, _, h2⟩ := h.2.1.form hL
  refine ⟨gp, cp, gq, cq, rfl, rfl, h1, h2, fun j hj => ⟨L[j].1, L[j].2, List.getElem_mem hj, List.getElem?_eq_getElem hj, ?_, ?_⟩⟩
  · have k := h.1.cells (g := gp) rfl j (.int .i64 L[j].1) (by simp [icells, List.getElem?_map, List.getElem?_eq_getElem hj])
    rwa [addr_add] at k
  · have k := h.2.1.cells (g := gq) rfl j (.int .i64 L[j].2) (by simp [icells, List.getElem?_map, List.getElem?_eq_getElem hj])
    rwa [addr_add] at k

/-- The old cells stay. -/
def Kc (w w' : World) : Prop := w.heap.size ≤ w'.heap.size ∧ ∀ b o, b < w.heap.size → w'.cell? ⟨b, o, none⟩ = w.cell? ⟨b, o, none⟩
theorem Kc.refl (w : World) : Kc w w := ⟨Nat.le_refl _, fun _ _ _ => rfl⟩
theorem Kc.next {w W W' : World} (h : Kc w W) (hc : ∀ b o, b < W.heap.size → W'.cell? ⟨b, o, none⟩ = W.cell? ⟨b, o, none⟩) (hz : W.heap.size ≤ W'.heap.size) : Kc w W' := ⟨Nat.le_trans h.1 hz, fun b o hb => (hc b o (Nat.lt_of_lt_of_le hb h.1)).trans (h.2 b o hb)⟩
def BoolIff (e : Ending) (p : Prop) : Prop := ∃ r : Bool, e = .returned (.bool r) ∧ (r = true ↔ p)
theorem BoolIff.no {p : Prop} (h : ¬ p) : BoolIff (.returned (.bool false)) p := ⟨false, rfl, by simpa using h⟩
theorem BoolIff.yes {p : Prop} (h : p) : BoolIff (.returned (.bool true)) p := ⟨true, rfl, by simpa using h⟩
/-- The pairs of one way with the first m ones. -/
def Pairs (L : List (Int × Int)) (P Q : Int) (m : Nat) : Prop := ∀ j, j < m → ∀ R S, L[j]? = some (R, S) → ¬ (R ≤ 0 ∧ S ≤ 0) → P ≤ 0 → S ≤ 0 → -P * (R - S) < R * (Q - P)
def Scan (L : List (Int × Int)) (k : Nat) : Prop := ∀ i, i < k → ∀ P Q, L[i]? = some (P, Q) → ¬ (P ≤ 0 ∧ Q ≤ 0) ∧ Pairs L P Q L.length
theorem Pairs.zero (L : List (Int × Int)) (P Q : Int) : Pairs L P Q 0 := fun j hj => by omega
theorem Scan.zero (L : List (Int × Int)) : Scan L 0 := fun j hj => by omega
theorem Pairs.succ {L : List (Int × Int)} {P Q R S : Int} {m : Nat} (h : Pairs L P Q m) (hm : L[m]? = some (R, S)) (hc : ¬ (R ≤ 0 ∧ S ≤ 0) → P ≤ 0 → S ≤ 0 → -P * (R - S) < R * (Q - P)) : Pairs L P Q (m + 1) := fun j hj R' S' hg => by
  rcases Nat.lt_or_ge j m with k | k
  · exact h j k R' S' hg
  · obtain rfl : j = m := by omega
    rw [hm] at hg
    cases hg
    exact hc
theorem Scan.succ {L : List (Int × Int)} {P Q : Int} {k : Nat} (h : Scan L k) (hk : L[k]? = some (P, Q)) (hn : ¬ (P ≤ 0 ∧ Q ≤ 0)) (hp : Pairs L P Q L.length) : Scan L (k + 1) := fun j hj P' Q' hg => by
  rcases Nat.lt_or_ge j k with x | x
  · exact h j x P' Q' hg
  · obtain rfl : j = k := by omega
    rw [hk] at hg
    cases hg
    exact ⟨hn, hp⟩
theorem Scan.done {L : List (Int × Int)} (h : Scan L L.length) (hz : 0 < L.length) : M.CrossP L := by
  refine ⟨fun e => by subst e; simp at hz, fun i hi => ?_, fun i hi k hk h1 h2 => ?_⟩
  · obtain ⟨n, hn, e⟩ := List.mem_iff_getElem.1 hi
    exact (h n hn i.1 i.2 (by rw [List.getElem?_eq_getElem hn, e])).1
  · obtain ⟨n, hn, e⟩ := List.mem_iff_getElem.1 hi
    obtain ⟨m, hm, e'⟩ := List.mem_iff_getElem.1 hk
    have hb := (h m hm k.1 k.2 (by rw [List.getElem?_eq_getElem hm, e'])).1
    exact (h n hn i.1 i.2 (by rw [List.getElem?_eq_getElem hn, e])).2 m hm k.1 k.2 (by rw [List.getElem?_eq_getElem hm, e']) hb h1 h2
theorem cross_pair {L : List (Int × Int)} {P Q R S : Int} (h1 : (P, Q) ∈ L) (h2 : (R, S) ∈ L) (p : P ≤ 0) (q : S ≤ 0) (hn : ¬ -P * (R - S) < R * (Q - P)) : ¬ M.CrossP L := fun h => hn (h.2.2 _ h1 _ h2 p q)

set_option maxRecDepth 100000 in
set_option maxHeartbeats 16000000 in
theorem rCross_any (L : List (Int × Int)) (a0 a1 b0 b1 : Int) (g cap : Nat) (pt : Nat → Int × Int) (w : World) (ha : M.In a0 a1) (hb : M.In b0 b1) (hpt : ∀ j, M.In (pt j).1 (pt j).2) (hg : g < w.heap.size) (hL : (sidesTo pt 16).map (lr pt a0 a1 b0 b1) = L)
    (hc : ∀ j, j < 16 → w.cell? ⟨g, j * 2, none⟩ = some (.int .i64 (pt j).1) ∧ w.cell? ⟨g, j * 2 + 1, none⟩ = some (.int .i64 (pt j).2)) :
    Calls Tryd.prog 66 #[.agg #[.int .i64 a0, .int .i64 a1], .agg #[.int .i64 b0, .int .i64 b1], .slice (some ⟨g, 0, none⟩) 16 cap] w fun e w' => BoolIff e (M.CrossP L) ∧ Below w.heap.size w w' := by
  have HLL := Lib.hid hL
  clear hL
  obtain ⟨i1, hi, hz0, hz1, hz2⟩ := info_parts infoInt
  have HPT := Lib.hid hpt
  have HA := Lib.hid ha
  have HBB := Lib.hid hb
  have HC := Lib.hid hc
  clear hpt ha hb hc
  go_enter Tryd.func66, Tryd.ntmps66
  go_wp2
  have hB0 : Below w.heap.size w ((w.alloc (.cells #[.int .i64 a0, .int .i64 a1] 34)).alloc (.cells #[.int .i64 b0, .int .i64 b1] 34)) := by go_grown
  have k0 : ((w.alloc (.cells #[.int .i64 a0, .int .i64 a1] 34)).alloc (.cells #[.int .i64 b0, .int .i64 b1] 34)).heap[w.heap.size]? = some (.cells #[.int .i64 a0, .int .i64 a1] 34 (0, 0)) := heap_alloc2_old _ _ _
  have k1 : ((w.alloc (.cells #[.int .i64 a0, .int .i64 a1] 34)).alloc (.cells #[.int .i64 b0, .int .i64 b1] 34)).heap[w.heap.size + 1]? = some (.cells #[.int .i64 b0, .int .i64 b1] 34 (0, 0)) := heap_alloc2_new _ _ _
  have hs0 : ((w.alloc (.cells #[.int .i64 a0, .int .i64 a1] 34)).alloc (.cells #[.int .i64 b0, .int .i64 b1] 34)).heap.size = w.heap.size + 2 := by simp
  generalize (w.alloc (.cells #[.int .i64 a0, .int .i64 a1] 34)).alloc (.cells #[.int .i64 b0, .int .i64 b1] 34) = w0 at *
  have H0 := Lib.hid (And.intro k0 (And.intro k1 (And.intro hB0 hs0)))
  clear k0 k1 hB0 hs0
  go_loopw [7, 8, 9] (fun p q i wr => ∃ k : Nat, k ≤ 16 ∧ i = .int .i64 k ∧ TwoRows wr (w.heap.size + 2) p q ((sidesTo pt k).map (lr pt a0 a1 b0 b1)) ∧ wr.heap[w.heap.size]? = some (.cells #[.int .i64 a0, .int .i64 a1] 34 (0, 0)) ∧ wr.heap[w.heap.size + 1]? = some (.cells #[.int .i64 b0, .int .i64 b1] 34 (0, 0)) ∧ Below w.heap.size w wr ∧ w.heap.size + 2 ≤ wr.heap.size) (fun _ _ i _ => 16 - (intOf i).toNat)
  case atStart => exact ⟨0, by omega, rfl, ⟨World.ownsRow_nil _ _ _ _, World.ownsRow_nil _ _ _ _, .inl rfl⟩, H0.out.1, H0.out.2.1, H0.out.2.2.1, by rw [H0.out.2.2.2]; omega⟩
  case round =>
    obtain ⟨k, hk, rfl, hrows, hA, hB, hBr, hsr⟩ := hrel
    by_cases hlt : k < 16
    · have hm : nxt k < 16 := Nat.mod_lt _ (by omega)
      have hmod : ((k : Int) + 1) % 16 = (nxt k : Nat) := by unfold nxt; omega
      have hm' : ((nxt k : Nat) : Int) < 16 := by omega
      have hlt1 : (k : Int) < 16 := by omega
      have six : S6 g k (nxt k) w.heap.size (pt k).1 (pt k).2 (pt (nxt k)).1 (pt (nxt k)).2 a0 a1 wr := ⟨(hBr.cell (p := ⟨g, _, none⟩) hg).trans (HC.out k hlt).1, (hBr.cell (p := ⟨g, _, none⟩) hg).trans (HC.out k hlt).2, (hBr.cell (p := ⟨g, _, none⟩) hg).trans (HC.out _ hm).1, (hBr.cell (p := ⟨g, _, none⟩) hg).trans (HC.out _ hm).2, R.cell_blk hA 0, R.cell_blk hA 1⟩
      have six2 : S6 g k (nxt k) (w.heap.size + 1) (pt k).1 (pt k).2 (pt (nxt k)).1 (pt (nxt k)).2 b0 b1 wr := ⟨six.1, six.2.1, six.2.2.1, six.2.2.2.1, R.cell_blk hB 0, R.cell_blk hB 1⟩
      have SX := Lib.hid six
      have SX2 := Lib.hid six2
      have HR := Lib.hid hrows
      have HAB := Lib.hid (And.intro hA hB)
      obtain ⟨c0, c1, d0, d1, _⟩ := six
      clear six2 hrows hA hB
      have hgr : g < wr.heap.size := Nat.lt_of_lt_of_le hg hBr.size
      have LC1 := Lib.hid (fun w => turn_any (pt k).1 (pt k).2 (pt (nxt k)).1 (pt (nxt k)).2 a0 a1 w (HPT.out k) (HPT.out (nxt k)) HA.out)
      have LC2 := Lib.hid (fun w => turn_any (pt k).1 (pt k).2 (pt (nxt k)).1 (pt (nxt k)).2 b0 b1 w (HPT.out k) (HPT.out (nxt k)) HBB.out)
      have HNX := Lib.hid (show pt k = pt (nxt k) ↔ ((pt k).1 = (pt (nxt k)).1 ∧ (pt k).2 = (pt (nxt k)).2) from Prod.ext_iff)
      have HLR := Lib.hid (show lr pt a0 a1 b0 b1 k = (M.left (pt k).1 (pt k).2 (pt (nxt k)).1 (pt (nxt k)).2 a0 a1, M.left (pt k).1 (pt k).2 (pt (nxt k)).1 (pt (nxt k)).2 b0 b1) from rfl)
      generalize M.left (pt k).1 (pt k).2 (pt (nxt k)).1 (pt (nxt k)).2 a0 a1 = P at *
      generalize M.left (pt k).1 (pt k).2 (pt (nxt k)).1 (pt (nxt k)).2 b0 b1 = Q at *
      generalize (pt k).1 = X0 at *
      generalize (pt k).2 = X1 at *
      generalize (pt (nxt k)).1 = Y0 at *
      generalize (pt (nxt k)).2 = Y1 at *
      by_cases ee : X0 = Y0 ∧ X1 = Y1
      · have hno := Lib.hid (sidesTo_no (HNX.out.2 ee))
        obtain ⟨e0, e1⟩ := ee
        subst e0
        subst e1
        go_wp2
        go_quiet (fail)
        go_wp2
        exact ⟨⟨k + 1, by omega, by go_num, by rw [hno.out]; exact HR.out, HAB.out.1, HAB.out.2, below_drewN hBr _, by simpa using hsr⟩, by simp [intOf]; omega⟩
      · have hyes := Lib.hid (sidesTo_yes (fun h => ee (HNX.out.1 h)))
        have hL := sidesTo_len pt k
        have hL16 : ((sidesTo pt k).map (lr pt a0 a1 b0 b1)).length ≤ 16 := by rw [List.length_map]; omega
        clear hL
        by_cases e0 : X0 = Y0
        · have e1 : ¬ X1 = Y1 := fun h => ee ⟨e0, h⟩
          clear ee
          subst e0
          go_wp2
          go_quiet (fail)
          go_wp2
          obtain ⟨w6, hw6⟩ : ∃ w6, wr.drewN nq = w6 := ⟨_, rfl⟩
          have s6 := SX.out.of (w' := w6) (by rw [← hw6]; rfl) (by rw [← hw6]; rfl)
          have s6b := SX2.out.of (w' := w6) (by rw [← hw6]; rfl) (by rw [← hw6]; rfl)
          have r6 : TwoRows w6 (w.heap.size + 2) u7 u8 ((sidesTo pt k).map (lr pt a0 a1 b0 b1)) := by rw [← hw6]; exact HR.out
          have hB6 : Below w.heap.size w w6 := by rw [← hw6]; exact below_drewN hBr _
          have hs6 : wr.heap.size = w6.heap.size := by rw [← hw6]; rfl
          have hab6 : w6.heap[w.heap.size]? = some (.cells #[.int .i64 a0, .int .i64 a1] 34 (0, 0)) ∧ w6.heap[w.heap.size + 1]? = some (.cells #[.int .i64 b0, .int .i64 b1] 34 (0, 0)) := by rw [← hw6]; exact HAB.out
          rw [hw6]
          clear hw6 c0 c1 d0 d1
          have S60 := Lib.hid s6
          have S6B := Lib.hid s6b
          have R6 := Lib.hid r6
          have AB6 := Lib.hid hab6
          have pn : ∀ b : Nat, b < w.heap.size + 2 → some b ≠ u7.ownBlock := fun b hb h => by have := (r6.1.lt b h.symm).1; omega
          have qn : ∀ b : Nat, b < w.heap.size + 2 → some b ≠ u8.ownBlock := fun b hb h => by have := (r6.2.1.lt b h.symm).1; omega
          have PN := Lib.hid pn
          have QN := Lib.hid qn
          clear pn qn
          clear s6 s6b r6 hab6
          have hgl : g < w6.heap.size := by omega
          have hbl : w.heap.size < w6.heap.size := by omega
          go_region_held_law (fun w' => w'.cell? ⟨g, k * 2, none⟩ = some (.int .i64 X0) ∧ w'.cell? ⟨g, k * 2 + 1, none⟩ = some (.int .i64 X1) ∧ w'.cell? ⟨g, nxt k * 2, none⟩ = some (.int .i64 X0) ∧ w'.cell? ⟨g, nxt k * 2 + 1, none⟩ = some (.int .i64 Y1) ∧ w'.cell? ⟨w.heap.size, 0, none⟩ = some (.int .i64 a0) ∧ w'.cell? ⟨w.heap.size, 1, none⟩ = some (.int .i64 a1))
            (first
              | exact S60.out.of rfl rfl
              | exact S60.out.of (hb9.block g hgl) (hb9.block _ hbl)
              | exact (S60.out.of (hb9.block g hgl) (hb9.block _ hbl)).of (Below.heap_alloc _ _ _ (Nat.lt_of_lt_of_le hgl hb9.size)) (Below.heap_alloc _ _ _ (Nat.lt_of_lt_of_le hbl hb9.size))
              | exact ((S60.out.of (hb9.block g hgl) (hb9.block _ hbl)).of (Below.heap_alloc _ _ _ (Nat.lt_of_lt_of_le hgl hb9.size)) (Below.heap_alloc _ _ _ (Nat.lt_of_lt_of_le hbl hb9.size))).of (hgrow10.block g (by have q := hb9.size; simp at q ⊢; omega) (PN.out g (by omega))) (hgrow10.block _ (by have q := hb9.size; simp at q ⊢; omega) (PN.out _ (by omega))))
            (first
              | (go_at_call 60; refine (LC1.out _).mono ?_; rintro e w9 ⟨rfl, hb9⟩)
              | (refine step_append_lies _ rfl (.tmp 33) (.tmp 44) 76 rfl (w.heap.size + 2) 2 i1 (.int .i64 0) 1 8 Tryd.underlying76 hi hz0 hz1 hz2 rfl (by decide) _ _ _ rfl ((TwoRows.kept (w := w6.drew) R6.out hb9).1.alloc _) ⟨w9.heap.size, 0, none⟩ 1 1 [.int .i64 P] rfl rfl (c1new _ _ _) (fun u hu => by simp at hu; subst hu; rfl) (by decide) (by unfold maxLen; omega) (by omega) (by have := hb9.size; simp at this ⊢; omega) _ rfl ?_; intro gp capp w10 hown10 hgrow10 hat10 hlt10))
          have hb9' := hb9
          have G10 := Lib.hid (after_p R6.out.1 R6.out.2.1 R6.out.2.2 (show Below w6.heap.size w6 w9 from ⟨hb9.os, hb9.tape, hb9.output, hb9.size, hb9.block⟩) hgrow10 hat10)
          have W10 := Lib.hid hown10
          have hs10 := G10.out.2.2.2.1
          have S10B := Lib.hid (S6B.out.of (G10.out.2.2.1 g hgl (by omega)) (G10.out.2.2.1 (w.heap.size + 1) (by omega) (by omega)))
          have AB10 := Lib.hid (And.intro ((G10.out.2.2.1 w.heap.size hbl (by omega)).trans AB6.out.1) ((G10.out.2.2.1 (w.heap.size + 1) (by omega) (by omega)).trans AB6.out.2))
          have hB10 : Below w.heap.size w w10 := hB6.trans ⟨G10.out.2.2.2.2.1, G10.out.2.2.2.2.2.1, G10.out.2.2.2.2.2.2, hs10, fun b hb => G10.out.2.2.1 b (by omega) (by omega)⟩
          have hgl2 : g < w10.heap.size := by omega
          have hbl2 : w.heap.size + 1 < w10.heap.size := by omega
          clear hgrow10 hat10 hown10 hb9 hb9'
          simp only [List.getElem_toArray, List.getElem_cons_zero, List.getElem_cons_succ, List.setIfInBounds_toArray, List.set_cons_zero, List.set_cons_succ]
          go_wp2
          go_region_held_law (fun w' => w'.cell? ⟨g, k * 2, none⟩ = some (.int .i64 X0) ∧ w'.cell? ⟨g, k * 2 + 1, none⟩ = some (.int .i64 X1) ∧ w'.cell? ⟨g, nxt k * 2, none⟩ = some (.int .i64 X0) ∧ w'.cell? ⟨g, nxt k * 2 + 1, none⟩ = some (.int .i64 Y1) ∧ w'.cell? ⟨w.heap.size + 1, 0, none⟩ = some (.int .i64 b0) ∧ w'.cell? ⟨w.heap.size + 1, 1, none⟩ = some (.int .i64 b1))
            (first
              | exact S10B.out.of rfl rfl
              | exact S10B.out.of (hb11.block g hgl2) (hb11.block _ hbl2)
              | exact (S10B.out.of (hb11.block g hgl2) (hb11.block _ hbl2)).of (Below.heap_alloc _ _ _ (Nat.lt_of_lt_of_le hgl2 hb11.size)) (Below.heap_alloc _ _ _ (Nat.lt_of_lt_of_le hbl2 hb11.size))
              | exact ((S10B.out.of (hb11.block g hgl2) (hb11.block _ hbl2)).of (Below.heap_alloc _ _ _ (Nat.lt_of_lt_of_le hgl2 hb11.size)) (Below.heap_alloc _ _ _ (Nat.lt_of_lt_of_le hbl2 hb11.size))).of (hgrow12.block g (by have q := hb11.size; simp at q ⊢; omega) (QN.out g (by omega))) (hgrow12.block _ (by have q := hb11.size; simp at q ⊢; omega) (QN.out _ (by omega))))
            (first
              | (go_at_call 60; refine (LC2.out _).mono ?_; rintro e w11 ⟨rfl, hb11⟩)
              | (refine step_append_lies _ rfl (.tmp 46) (.tmp 57) 76 rfl (w.heap.size + 2) 2 i1 (.int .i64 0) 1 8 Tryd.underlying76 hi hz0 hz1 hz2 rfl (by decide) _ _ _ rfl ((World.ownsRow.kept (w := w10.drew) (row := none) G10.out.1 ⟨hb11.os, hb11.tape, hb11.output, hb11.size, fun k hk _ => hb11.block k hk⟩ (by cases hv : u8.ownBlock <;> simp)).alloc _) ⟨w11.heap.size, 0, none⟩ 1 1 [.int .i64 Q] rfl rfl (c1new _ _ _) (fun u hu => by simp at hu; subst hu; rfl) (by decide) (by unfold maxLen; omega) (by omega) (by have := hb11.size; simp at this ⊢; omega) _ rfl ?_; intro gq capq w12 hown12 hgrow12 hat12 hlt12))
          have G12 := Lib.hid (after_p (p := u8) (q := .slice (some ⟨gp, 0, none⟩) (((sidesTo pt k).map (lr pt a0 a1 b0 b1)).length + 1) capp) (n := ((sidesTo pt k).map (lr pt a0 a1 b0 b1)).length + 1) (qs := icells (((sidesTo pt k).map (lr pt a0 a1 b0 b1)).map Prod.fst) ++ [.int .i64 P]) (gp := gq) G10.out.1 W10.out (.inr G10.out.2.1) (show Below w10.heap.size w10 w11 from ⟨hb11.os, hb11.tape, hb11.output, hb11.size, hb11.block⟩) hgrow12 hat12)
          have W12 := Lib.hid hown12
          have hs12 := G12.out.2.2.2.1
          have hB12 : Below w.heap.size w w12 := hB10.trans ⟨G12.out.2.2.2.2.1, G12.out.2.2.2.2.2.1, G12.out.2.2.2.2.2.2, hs12, fun b hb => G12.out.2.2.1 b (by omega) (by omega)⟩
          have AB12 := Lib.hid (And.intro ((G12.out.2.2.1 w.heap.size (by omega) (by omega)).trans AB10.out.1) ((G12.out.2.2.1 (w.heap.size + 1) (by omega) (by omega)).trans AB10.out.2))
          have TR := Lib.hid (TwoRows.snoc G12.out.1 W12.out G12.out.2.1 rfl)
          clear hgrow12 hat12 hown12 hb11
          simp only [List.getElem_toArray, List.getElem_cons_zero, List.getElem_cons_succ, List.setIfInBounds_toArray, List.set_cons_zero, List.set_cons_succ]
          go_wp2
          exact ⟨⟨k + 1, by omega, by go_num, by rw [hyes.out, List.map_append, List.map_singleton, HLR.out]; simpa using TR.out, AB12.out.1, AB12.out.2, hB12, by omega⟩, by simp [intOf]; omega⟩
        · clear ee
          go_wp2
          go_quiet (fail)
          go_wp2
          obtain ⟨w6, hw6⟩ : ∃ w6, wr.drewN nq = w6 := ⟨_, rfl⟩
          have s6 := SX.out.of (w' := w6) (by rw [← hw6]; rfl) (by rw [← hw6]; rfl)
          have s6b := SX2.out.of (w' := w6) (by rw [← hw6]; rfl) (by rw [← hw6]; rfl)
          have r6 : TwoRows w6 (w.heap.size + 2) u7 u8 ((sidesTo pt k).map (lr pt a0 a1 b0 b1)) := by rw [← hw6]; exact HR.out
          have hB6 : Below w.heap.size w w6 := by rw [← hw6]; exact below_drewN hBr _
          have hs6 : wr.heap.size = w6.heap.size := by rw [← hw6]; rfl
          have hab6 : w6.heap[w.heap.size]? = some (.cells #[.int .i64 a0, .int .i64 a1] 34 (0, 0)) ∧ w6.heap[w.heap.size + 1]? = some (.cells #[.int .i64 b0, .int .i64 b1] 34 (0, 0)) := by rw [← hw6]; exact HAB.out
          rw [hw6]
          clear hw6 c0 c1 d0 d1
          have S60 := Lib.hid s6
          have S6B := Lib.hid s6b
          have R6 := Lib.hid r6
          have AB6 := Lib.hid hab6
          have pn : ∀ b : Nat, b < w.heap.size + 2 → some b ≠ u7.ownBlock := fun b hb h => by have := (r6.1.lt b h.symm).1; omega
          have qn : ∀ b : Nat, b < w.heap.size + 2 → some b ≠ u8.ownBlock := fun b hb h => by have := (r6.2.1.lt b h.symm).1; omega
          have PN := Lib.hid pn
          have QN := Lib.hid qn
          clear pn qn
          clear s6 s6b r6 hab6
          have hgl : g < w6.heap.size := by omega
          have hbl : w.heap.size < w6.heap.size := by omega
          go_region_held_law (fun w' => w'.cell? ⟨g, k * 2, none⟩ = some (.int .i64 X0) ∧ w'.cell? ⟨g, k * 2 + 1, none⟩ = some (.int .i64 X1) ∧ w'.cell? ⟨g, nxt k * 2, none⟩ = some (.int .i64 Y0) ∧ w'.cell? ⟨g, nxt k * 2 + 1, none⟩ = some (.int .i64 Y1) ∧ w'.cell? ⟨w.heap.size, 0, none⟩ = some (.int .i64 a0) ∧ w'.cell? ⟨w.heap.size, 1, none⟩ = some (.int .i64 a1))
            (first
              | exact S60.out.of rfl rfl
              | exact S60.out.of (hb9.block g hgl) (hb9.block _ hbl)
              | exact (S60.out.of (hb9.block g hgl) (hb9.block _ hbl)).of (Below.heap_alloc _ _ _ (Nat.lt_of_lt_of_le hgl hb9.size)) (Below.heap_alloc _ _ _ (Nat.lt_of_lt_of_le hbl hb9.size))
              | exact ((S60.out.of (hb9.block g hgl) (hb9.block _ hbl)).of (Below.heap_alloc _ _ _ (Nat.lt_of_lt_of_le hgl hb9.size)) (Below.heap_alloc _ _ _ (Nat.lt_of_lt_of_le hbl hb9.size))).of (hgrow10.block g (by have q := hb9.size; simp at q ⊢; omega) (PN.out g (by omega))) (hgrow10.block _ (by have q := hb9.size; simp at q ⊢; omega) (PN.out _ (by omega))))
            (first
              | (go_at_call 60; refine (LC1.out _).mono ?_; rintro e w9 ⟨rfl, hb9⟩)
              | (refine step_append_lies _ rfl (.tmp 33) (.tmp 44) 76 rfl (w.heap.size + 2) 2 i1 (.int .i64 0) 1 8 Tryd.underlying76 hi hz0 hz1 hz2 rfl (by decide) _ _ _ rfl ((TwoRows.kept (w := w6.drew) R6.out hb9).1.alloc _) ⟨w9.heap.size, 0, none⟩ 1 1 [.int .i64 P] rfl rfl (c1new _ _ _) (fun u hu => by simp at hu; subst hu; rfl) (by decide) (by unfold maxLen; omega) (by omega) (by have := hb9.size; simp at this ⊢; omega) _ rfl ?_; intro gp capp w10 hown10 hgrow10 hat10 hlt10))
          have hb9' := hb9
          have G10 := Lib.hid (after_p R6.out.1 R6.out.2.1 R6.out.2.2 (show Below w6.heap.size w6 w9 from ⟨hb9.os, hb9.tape, hb9.output, hb9.size, hb9.block⟩) hgrow10 hat10)
          have W10 := Lib.hid hown10
          have hs10 := G10.out.2.2.2.1
          have S10B := Lib.hid (S6B.out.of (G10.out.2.2.1 g hgl (by omega)) (G10.out.2.2.1 (w.heap.size + 1) (by omega) (by omega)))
          have AB10 := Lib.hid (And.intro ((G10.out.2.2.1 w.heap.size hbl (by omega)).trans AB6.out.1) ((G10.out.2.2.1 (w.heap.size + 1) (by omega) (by omega)).trans AB6.out.2))
          have hB10 : Below w.heap.size w w10 := hB6.trans ⟨G10.out.2.2.2.2.1, G10.out.2.2.2.2.2.1, G10.out.2.2.2.2.2.2, hs10, fun b hb => G10.out.2.2.1 b (by omega) (by omega)⟩
          have hgl2 : g < w10.heap.size := by omega
          have hbl2 : w.heap.size + 1 < w10.heap.size := by omega
          clear hgrow10 hat10 hown10 hb9 hb9'
          simp only [List.getElem_toArray, List.getElem_cons_zero, List.getElem_cons_succ, List.setIfInBounds_toArray, List.set_cons_zero, List.set_cons_succ]
          go_wp2
          go_region_held_law (fun w' => w'.cell? ⟨g, k * 2, none⟩ = some (.int .i64 X0) ∧ w'.cell? ⟨g, k * 2 + 1, none⟩ = some (.int .i64 X1) ∧ w'.cell? ⟨g, nxt k * 2, none⟩ = some (.int .i64 Y0) ∧ w'.cell? ⟨g, nxt k * 2 + 1, none⟩ = some (.int .i64 Y1) ∧ w'.cell? ⟨w.heap.size + 1, 0, none⟩ = some (.int .i64 b0) ∧ w'.cell? ⟨w.heap.size + 1, 1, none⟩ = some (.int .i64 b1))
            (first
              | exact S10B.out.of rfl rfl
              | exact S10B.out.of (hb11.block g hgl2) (hb11.block _ hbl2)
              | exact (S10B.out.of (hb11.block g hgl2) (hb11.block _ hbl2)).of (Below.heap_alloc _ _ _ (Nat.lt_of_lt_of_le hgl2 hb11.size)) (Below.heap_alloc _ _ _ (Nat.lt_of_lt_of_le hbl2 hb11.size))
              | exact ((S10B.out.of (hb11.block g hgl2) (hb11.block _ hbl2)).of (Below.heap_alloc _ _ _ (Nat.lt_of_lt_of_le hgl2 hb11.size)) (Below.heap_alloc _ _ _ (Nat.lt_of_lt_of_le hbl2 hb11.size))).of (hgrow12.block g (by have q := hb11.size; simp at q ⊢; omega) (QN.out g (by omega))) (hgrow12.block _ (by have q := hb11.size; simp at q ⊢; omega) (QN.out _ (by omega))))
            (first
              | (go_at_call 60; refine (LC2.out _).mono ?_; rintro e w11 ⟨rfl, hb11⟩)
              | (refine step_append_lies _ rfl (.tmp 46) (.tmp 57) 76 rfl (w.heap.size + 2) 2 i1 (.int .i64 0) 1 8 Tryd.underlying76 hi hz0 hz1 hz2 rfl (by decide) _ _ _ rfl ((World.ownsRow.kept (w := w10.drew) (row := none) G10.out.1 ⟨hb11.os, hb11.tape, hb11.output, hb11.size, fun k hk _ => hb11.block k hk⟩ (by cases hv : u8.ownBlock <;> simp)).alloc _) ⟨w11.heap.size, 0, none⟩ 1 1 [.int .i64 Q] rfl rfl (c1new _ _ _) (fun u hu => by simp at hu; subst hu; rfl) (by decide) (by unfold maxLen; omega) (by omega) (by have := hb11.size; simp at this ⊢; omega) _ rfl ?_; intro gq capq w12 hown12 hgrow12 hat12 hlt12))
          have G12 := Lib.hid (after_p (p := u8) (q := .slice (some ⟨gp, 0, none⟩) (((sidesTo pt k).map (lr pt a0 a1 b0 b1)).length + 1) capp) (n := ((sidesTo pt k).map (lr pt a0 a1 b0 b1)).length + 1) (qs := icells (((sidesTo pt k).map (lr pt a0 a1 b0 b1)).map Prod.fst) ++ [.int .i64 P]) (gp := gq) G10.out.1 W10.out (.inr G10.out.2.1) (show Below w10.heap.size w10 w11 from ⟨hb11.os, hb11.tape, hb11.output, hb11.size, hb11.block⟩) hgrow12 hat12)
          have W12 := Lib.hid hown12
          have hs12 := G12.out.2.2.2.1
          have hB12 : Below w.heap.size w w12 := hB10.trans ⟨G12.out.2.2.2.2.1, G12.out.2.2.2.2.2.1, G12.out.2.2.2.2.2.2, hs12, fun b hb => G12.out.2.2.1 b (by omega) (by omega)⟩
          have AB12 := Lib.hid (And.intro ((G12.out.2.2.1 w.heap.size (by omega) (by omega)).trans AB10.out.1) ((G12.out.2.2.1 (w.heap.size + 1) (by omega) (by omega)).trans AB10.out.2))
          have TR := Lib.hid (TwoRows.snoc G12.out.1 W12.out G12.out.2.1 rfl)
          clear hgrow12 hat12 hown12 hb11
          simp only [List.getElem_toArray, List.getElem_cons_zero, List.getElem_cons_succ, List.setIfInBounds_toArray, List.set_cons_zero, List.set_cons_succ]
          go_wp2
          exact ⟨⟨k + 1, by omega, by go_num, by rw [hyes.out, List.map_append, List.map_singleton, HLR.out]; simpa using TR.out, AB12.out.1, AB12.out.2, hB12, by omega⟩, by simp [intOf]; omega⟩
    · have e16 : k = 16 := by omega
      have hk16 : ¬ (k : Int) < 16 := by omega
      rw [e16] at hrows
      clear hk hlt e16
      have hbd : ∀ P Q, (P, Q) ∈ (sidesTo pt 16).map (lr pt a0 a1 b0 b1) → (-140737488355328 ≤ P ∧ P ≤ 140737488355328 ∧ -140737488355328 ≤ Q ∧ Q ≤ 140737488355328) := by
        intro P Q h
        obtain ⟨j, _, hj⟩ := List.mem_map.1 h
        have := lr_bd HA.out HBB.out HPT.out j
        rw [hj] at this
        exact this
      have hn : ((sidesTo pt 16).map (lr pt a0 a1 b0 b1)).length ≤ 16 := by rw [List.length_map]; have := sidesTo_len pt 16; omega
      rw [HLL.out] at hrows hbd hn
      have HBD := Lib.hid hbd
      have HBR := Lib.hid hBr
      clear hbd hA hB HPT HA HBB HC H0 HLL hBr
      rcases Nat.eq_zero_or_pos L.length with hz | hz
      · have hnil : L = [] := List.eq_nil_of_length_eq_zero hz
        have HX := Lib.hid (show ¬ M.CrossP L from fun h => h.1 hnil)
        have h1 := hrows.1.2
        rw [hz] at h1
        clear hrows hnil
        rcases h1 with ⟨rfl, _⟩ | ⟨g', cap', cur, rfl, _⟩
        · go_wp2
          go_returns
          exact ⟨BoolIff.no HX.out, HBR.out⟩
        · go_wp2
          go_returns
          exact ⟨BoolIff.no HX.out, HBR.out⟩
      · obtain ⟨gp, cp, gq, cq, rfl, rfl, hgp, hgq, hcells⟩ := hrows.read hz
        have HCL := Lib.hid hcells
        clear hrows hcells
        obtain ⟨wo, hwo⟩ : ∃ wo, wo = wr := ⟨_, rfl⟩
        subst hwo
        go_wp2
        go_loopw [11] (fun i wr => ∃ k : Nat, k ≤ L.length ∧ i = .int .i64 k ∧ Kc wo wr ∧ Below w.heap.size w wr ∧ Scan L k) (fun i _ => L.length - (intOf i).toNat)
        case atStart => exact ⟨0, by omega, rfl, Kc.refl _, HBR.out, Scan.zero L⟩
        case round =>
          obtain ⟨i, hi', rfl, hBk, hBi, hS⟩ := hrel
          have HS := Lib.hid hS
          have HBK := Lib.hid hBk
          clear hS
          by_cases hlt : i < L.length
          · have hlt1 : (i : Int) < L.length := by omega
            obtain ⟨P, Q, hmem, hget, cP, cQ⟩ := HCL.out i hlt
            have c0 := (hBk.2 gp i hgp).trans cP
            have c1 := (hBk.2 gq i hgq).trans cQ
            have HM := Lib.hid (And.intro hmem hget)
            have HCP := Lib.hid cP
            have HCQ := Lib.hid cQ
            clear cP cQ hmem hget
            by_cases hb : P ≤ 0 ∧ Q ≤ 0
            · have HX := Lib.hid (M.cross_bad (P, Q) HM.out.1 hb)
              obtain ⟨p0, q0⟩ := hb
              go_wp2
              go_returns
              exact ⟨BoolIff.no HX.out, hBi⟩
            · have HNB := Lib.hid hb
              by_cases p0 : P ≤ 0
              · have q0 : ¬ Q ≤ 0 := fun h => hb ⟨p0, h⟩
                clear hb
                obtain ⟨wi, hwi⟩ : ∃ wi, wi = wr := ⟨_, rfl⟩
                subst hwi
                go_wp2
                go_loopw [12] (fun m wr => ∃ k : Nat, k ≤ L.length ∧ m = .int .i64 k ∧ Kc wo wr ∧ Below w.heap.size w wr ∧ Pairs L P Q k) (fun m _ => L.length - (intOf m).toNat)
                case atStart => exact ⟨0, by omega, rfl, HBK.out, hBi, Pairs.zero L P Q⟩
                case round =>
                  obtain ⟨m, hm', rfl, hBk2, hBi2, hP⟩ := hrel
                  have HBK2 := Lib.hid hBk2
                  have HPS := Lib.hid hP
                  clear hP
                  by_cases hlm : m < L.length
                  · have hlm1 : (m : Int) < L.length := by omega
                    obtain ⟨U, V, hmem2, hget2, cU, cV⟩ := HCL.out m hlm
                    have d0 := (hBk2.2 gp i hgp).trans HCP.out
                    have d1 := (hBk2.2 gp m hgp).trans cU
                    have d2 := (hBk2.2 gq m hgq).trans cV
                    have d3 := (hBk2.2 gq i hgq).trans HCQ.out
                    have HM2 := Lib.hid (And.intro hmem2 hget2)
                    have lgp : gp < wr.heap.size := by have := hBk2.1; omega
                    have lgq : gq < wr.heap.size := by have := hBk2.1; omega
                    obtain ⟨b1, b2, b3, b4⟩ := HBD.out P Q HM.out.1
                    obtain ⟨b5, b6, b7, b8⟩ := HBD.out U V hmem2
                    clear cU cV hmem2 hget2 c0 c1
                    go_wp2
                    by_cases v0 : V ≤ 0
                    · by_cases u0 : U ≤ 0
                      · have HX := Lib.hid (M.cross_bad (U, V) HM2.out.1 ⟨u0, v0⟩)
                        have hbad := Lib.hid (And.intro u0 v0)
                        have LF := Lib.hid (fun w => less_fix (-P) (U - V) U (Q - P) w)
                        generalize lessD (-P) (U - V) U (Q - P) = D at *
                        clear u0
                        by_cases hD : D ≥ 0
                        · skip
                          refine R.region_grow [.val (.slice (some ⟨gp, 0, none⟩) L.length cp), .val (.int .i64 i), .val (.pointer (some ⟨gp, i, none⟩)), .val (.int .i64 P), .val (.bool true), .val (.bool true), .val (.slice (some ⟨gq, 0, none⟩) L.length cq), .val (.int .i64 m), .val (.pointer (some ⟨gq, m, none⟩)), .val (.int .i64 V), .val (.bool true), .val (.bool true), .val (.bool true), .val (.slice (some ⟨gp, 0, none⟩) L.length cp), .val (.int .i64 i), .val (.pointer (some ⟨gp, i, none⟩)), .val (.int .i64 P), .val (.int .i64 (-P)), .val (.slice (some ⟨gp, 0, none⟩) L.length cp), .val (.int .i64 m), .val (.pointer (some ⟨gp, m, none⟩)), .val (.int .i64 U), .val (.slice (some ⟨gq, 0, none⟩) L.length cq), .val (.int .i64 m), .val (.pointer (some ⟨gq, m, none⟩)), .val (.int .i64 V), .val (.int .i64 (U - V)), .val (.slice (some ⟨gp, 0, none⟩) L.length cp), .val (.int .i64 m), .val (.pointer (some ⟨gp, m, none⟩)), .val (.int .i64 U), .val (.slice (some ⟨gq, 0, none⟩) L.length cq), .val (.int .i64 i), .val (.pointer (some ⟨gq, i, none⟩)), .val (.int .i64 Q), .val (.slice (some ⟨gp, 0, none⟩) L.length cp), .val (.int .i64 i), .val (.pointer (some ⟨gp, i, none⟩)), .val (.int .i64 P), .val (.int .i64 (Q - P)), .val (.int .i64 D), .val (.bool true), .val (.bool true)] (by kernel_rfl) (by kernel_rfl) (by kernel_rfl) (by kernel_rfl) ?_ ?_
                          · refine ⟨?_, ?_, ?_, ?_, ?_, ?_, ?_, ?_, ?_, ?_, ?_, ?_, ?_, ?_, ?_, ?_, ?_, ?_, ?_, ?_, ?_, ?_, ?_, ?_, ?_, ?_, ?_, ?_, ?_, ?_, ?_, ?_, ?_, ?_, ?_, ?_, ?_, ?_, ?_, ?_, ?_, ?_, ?_, trivial⟩
                            · intro act wx KK E hk hK
                              have e7 := E 7 _ rfl
                              go_simp
                              exact hK _ (Below.refl _ _)
                            · intro act wx KK E hk hK
                              have e11 := E 11 _ rfl
                              go_simp
                              exact hK _ (Below.refl _ _)
                            · intro act wx KK E hk hK
                              have e86 := E 86 _ rfl
                              have e87 := E 87 _ rfl
                              go_simp
                              exact hK _ (Below.refl _ _)
                            · intro act wx KK E hk hK
                              have e88 := E 88 _ rfl
                              obtain ⟨hc, hf⟩ := hk.cells rfl
                              try simp only [World.size_drew] at hc hf
                              go_simp
                              exact hK _ (Below.refl _ _)
                            · intro act wx KK E hk hK
                              have e89 := E 89 _ rfl
                              go_simp
                              try go_bits
                              first | exact hK _ (Below.refl _ _) | (go_step; exact hK _ (Below.refl _ _)) | (go_step; go_step; exact hK _ (Below.refl _ _))
                            · intro act wx KK E hk hK
                              have e90 := E 90 _ rfl
                              go_simp
                              exact hK _ (Below.refl _ _)
                            · intro act wx KK E hk hK
                              have e8 := E 8 _ rfl
                              go_simp
                              exact hK _ (Below.refl _ _)
                            · intro act wx KK E hk hK
                              have e12 := E 12 _ rfl
                              go_simp
                              exact hK _ (Below.refl _ _)
                            · intro act wx KK E hk hK
                              have e92 := E 92 _ rfl
                              have e93 := E 93 _ rfl
                              go_simp
                              exact hK _ (Below.refl _ _)
                            · intro act wx KK E hk hK
                              have e94 := E 94 _ rfl
                              obtain ⟨hc, hf⟩ := hk.cells rfl
                              try simp only [World.size_drew] at hc hf
                              go_simp
                              exact hK _ (Below.refl _ _)
                            · intro act wx KK E hk hK
                              have e95 := E 95 _ rfl
                              go_simp
                              try go_bits
                              first | exact hK _ (Below.refl _ _) | (go_step; exact hK _ (Below.refl _ _)) | (go_step; go_step; exact hK _ (Below.refl _ _))
                            · intro act wx KK E hk hK
                              have e91 := E 91 _ rfl
                              have e96 := E 96 _ rfl
                              go_simp
                              exact hK _ (Below.refl _ _)
                            · intro act wx KK E hk hK
                              have e97 := E 97 _ rfl
                              go_simp
                              exact hK _ (Below.refl _ _)
                            · intro act wx KK E hk hK
                              have e7 := E 7 _ rfl
                              go_simp
                              exact hK _ (Below.refl _ _)
                            · intro act wx KK E hk hK
                              have e11 := E 11 _ rfl
                              go_simp
                              exact hK _ (Below.refl _ _)
                            · intro act wx KK E hk hK
                              have e99 := E 99 _ rfl
                              have e100 := E 100 _ rfl
                              go_simp
                              exact hK _ (Below.refl _ _)
                            · intro act wx KK E hk hK
                              have e101 := E 101 _ rfl
                              obtain ⟨hc, hf⟩ := hk.cells rfl
                              try simp only [World.size_drew] at hc hf
                              go_simp
                              exact hK _ (Below.refl _ _)
                            · intro act wx KK E hk hK
                              have e102 := E 102 _ rfl
                              go_simp
                              try go_bits
                              first | exact hK _ (Below.refl _ _) | (go_step; exact hK _ (Below.refl _ _)) | (go_step; go_step; exact hK _ (Below.refl _ _))
                            · intro act wx KK E hk hK
                              have e7 := E 7 _ rfl
                              go_simp
                              exact hK _ (Below.refl _ _)
                            · intro act wx KK E hk hK
                              have e12 := E 12 _ rfl
                              go_simp
                              exact hK _ (Below.refl _ _)
                            · intro act wx KK E hk hK
                              have e104 := E 104 _ rfl
                              have e105 := E 105 _ rfl
                              go_simp
                              exact hK _ (Below.refl _ _)
                            · intro act wx KK E hk hK
                              have e106 := E 106 _ rfl
                              obtain ⟨hc, hf⟩ := hk.cells rfl
                              try simp only [World.size_drew] at hc hf
                              go_simp
                              exact hK _ (Below.refl _ _)
                            · intro act wx KK E hk hK
                              have e8 := E 8 _ rfl
                              go_simp
                              exact hK _ (Below.refl _ _)
                            · intro act wx KK E hk hK
                              have e12 := E 12 _ rfl
                              go_simp
                              exact hK _ (Below.refl _ _)
                            · intro act wx KK E hk hK
                              have e108 := E 108 _ rfl
                              have e109 := E 109 _ rfl
                              go_simp
                              exact hK _ (Below.refl _ _)
                            · intro act wx KK E hk hK
                              have e110 := E 110 _ rfl
                              obtain ⟨hc, hf⟩ := hk.cells rfl
                              try simp only [World.size_drew] at hc hf
                              go_simp
                              exact hK _ (Below.refl _ _)
                            · intro act wx KK E hk hK
                              have e107 := E 107 _ rfl
                              have e111 := E 111 _ rfl
                              go_simp
                              try go_bits
                              first | exact hK _ (Below.refl _ _) | (go_step; exact hK _ (Below.refl _ _)) | (go_step; go_step; exact hK _ (Below.refl _ _))
                            · intro act wx KK E hk hK
                              have e7 := E 7 _ rfl
                              go_simp
                              exact hK _ (Below.refl _ _)
                            · intro act wx KK E hk hK
                              have e12 := E 12 _ rfl
                              go_simp
                              exact hK _ (Below.refl _ _)
                            · intro act wx KK E hk hK
                              have e113 := E 113 _ rfl
                              have e114 := E 114 _ rfl
                              go_simp
                              exact hK _ (Below.refl _ _)
                            · intro act wx KK E hk hK
                              have e115 := E 115 _ rfl
                              obtain ⟨hc, hf⟩ := hk.cells rfl
                              try simp only [World.size_drew] at hc hf
                              go_simp
                              exact hK _ (Below.refl _ _)
                            · intro act wx KK E hk hK
                              have e8 := E 8 _ rfl
                              go_simp
                              exact hK _ (Below.refl _ _)
                            · intro act wx KK E hk hK
                              have e11 := E 11 _ rfl
                              go_simp
                              exact hK _ (Below.refl _ _)
                            · intro act wx KK E hk hK
                              have e117 := E 117 _ rfl
                              have e118 := E 118 _ rfl
                              go_simp
                              exact hK _ (Below.refl _ _)
                            · intro act wx KK E hk hK
                              have e119 := E 119 _ rfl
                              obtain ⟨hc, hf⟩ := hk.cells rfl
                              try simp only [World.size_drew] at hc hf
                              go_simp
                              exact hK _ (Below.refl _ _)
                            · intro act wx KK E hk hK
                              have e7 := E 7 _ rfl
                              go_simp
                              exact hK _ (Below.refl _ _)
                            · intro act wx KK E hk hK
                              have e11 := E 11 _ rfl
                              go_simp
                              exact hK _ (Below.refl _ _)
                            · intro act wx KK E hk hK
                              have e121 := E 121 _ rfl
                              have e122 := E 122 _ rfl
                              go_simp
                              exact hK _ (Below.refl _ _)
                            · intro act wx KK E hk hK
                              have e123 := E 123 _ rfl
                              obtain ⟨hc, hf⟩ := hk.cells rfl
                              try simp only [World.size_drew] at hc hf
                              go_simp
                              exact hK _ (Below.refl _ _)
                            · intro act wx KK E hk hK
                              have e120 := E 120 _ rfl
                              have e124 := E 124 _ rfl
                              go_simp
                              try go_bits
                              first | exact hK _ (Below.refl _ _) | (go_step; exact hK _ (Below.refl _ _)) | (go_step; go_step; exact hK _ (Below.refl _ _))
                            · intro act wx KK E hk hK
                              have e103 := E 103 _ rfl
                              have e112 := E 112 _ rfl
                              have e116 := E 116 _ rfl
                              have e125 := E 125 _ rfl
                              go_simp
                              refine (LF.out _).mono ?_
                              rintro e w' ⟨rfl, hb⟩
                              exact hK _ hb
                            · intro act wx KK E hk hK
                              have e126 := E 126 _ rfl
                              go_simp
                              try go_bits
                              first | exact hK _ (Below.refl _ _) | (go_step; exact hK _ (Below.refl _ _)) | (go_step; go_step; exact hK _ (Below.refl _ _))
                            · intro act wx KK E hk hK
                              have e98 := E 98 _ rfl
                              have e127 := E 127 _ rfl
                              go_simp
                              exact hK _ (Below.refl _ _)
                          intro β20 w20 F
                          simp only [R.finAct, R.Item.value, Act.put, List.getElem?_toArray, List.getElem?_cons_zero, List.getElem?_cons_succ, List.size_toArray, List.length_cons, List.length_nil, Nat.reduceAdd, List.setIfInBounds_toArray, List.set_cons_zero, List.set_cons_succ]
                          have hB20 := stepB (w := w) (by go_grown) (F.kept.below rfl)
                          obtain ⟨hc20, hf20⟩ := F.kept.cells rfl
                          try simp only [World.size_drew] at hc20 hf20
                          have hz20 := F.kept.size
                          try simp only [World.size_alloc, World.size_setCell, World.size_drew] at hz20
                          try have ha20 : w.heap.size < w20.heap.size := (by omega)
                          try have hi20 : w.heap.size + 1 < w20.heap.size := (by omega)
                          try have hj20 : w.heap.size + 1 + 1 < w20.heap.size := (by omega)
                          try have hk20 : w.heap.size + 1 + 1 + 1 < w20.heap.size := (by omega)
                          try have hl20 : w.heap.size + 1 + 1 + 1 + 1 < w20.heap.size := (by omega)
                          clear F
                          go_wp2
                          go_returns
                          exact ⟨BoolIff.no HX.out, hB20⟩
                        · skip
                          refine R.region_grow [.val (.slice (some ⟨gp, 0, none⟩) L.length cp), .val (.int .i64 i), .val (.pointer (some ⟨gp, i, none⟩)), .val (.int .i64 P), .val (.bool true), .val (.bool true), .val (.slice (some ⟨gq, 0, none⟩) L.length cq), .val (.int .i64 m), .val (.pointer (some ⟨gq, m, none⟩)), .val (.int .i64 V), .val (.bool true), .val (.bool true), .val (.bool true), .val (.slice (some ⟨gp, 0, none⟩) L.length cp), .val (.int .i64 i), .val (.pointer (some ⟨gp, i, none⟩)), .val (.int .i64 P), .val (.int .i64 (-P)), .val (.slice (some ⟨gp, 0, none⟩) L.length cp), .val (.int .i64 m), .val (.pointer (some ⟨gp, m, none⟩)), .val (.int .i64 U), .val (.slice (some ⟨gq, 0, none⟩) L.length cq), .val (.int .i64 m), .val (.pointer (some ⟨gq, m, none⟩)), .val (.int .i64 V), .val (.int .i64 (U - V)), .val (.slice (some ⟨gp, 0, none⟩) L.length cp), .val (.int .i64 m), .val (.pointer (some ⟨gp, m, none⟩)), .val (.int .i64 U), .val (.slice (some ⟨gq, 0, none⟩) L.length cq), .val (.int .i64 i), .val (.pointer (some ⟨gq, i, none⟩)), .val (.int .i64 Q), .val (.slice (some ⟨gp, 0, none⟩) L.length cp), .val (.int .i64 i), .val (.pointer (some ⟨gp, i, none⟩)), .val (.int .i64 P), .val (.int .i64 (Q - P)), .val (.int .i64 D), .val (.bool false), .val (.bool false)] (by kernel_rfl) (by kernel_rfl) (by kernel_rfl) (by kernel_rfl) ?_ ?_
                          · refine ⟨?_, ?_, ?_, ?_, ?_, ?_, ?_, ?_, ?_, ?_, ?_, ?_, ?_, ?_, ?_, ?_, ?_, ?_, ?_, ?_, ?_, ?_, ?_, ?_, ?_, ?_, ?_, ?_, ?_, ?_, ?_, ?_, ?_, ?_, ?_, ?_, ?_, ?_, ?_, ?_, ?_, ?_, ?_, trivial⟩
                            · intro act wx KK E hk hK
                              have e7 := E 7 _ rfl
                              go_simp
                              exact hK _ (Below.refl _ _)
                            · intro act wx KK E hk hK
                              have e11 := E 11 _ rfl
                              go_simp
                              exact hK _ (Below.refl _ _)
                            · intro act wx KK E hk hK
                              have e86 := E 86 _ rfl
                              have e87 := E 87 _ rfl
                              go_simp
                              exact hK _ (Below.refl _ _)
                            · intro act wx KK E hk hK
                              have e88 := E 88 _ rfl
                              obtain ⟨hc, hf⟩ := hk.cells rfl
                              try simp only [World.size_drew] at hc hf
                              go_simp
                              exact hK _ (Below.refl _ _)
                            · intro act wx KK E hk hK
                              have e89 := E 89 _ rfl
                              go_simp
                              try go_bits
                              first | exact hK _ (Below.refl _ _) | (go_step; exact hK _ (Below.refl _ _)) | (go_step; go_step; exact hK _ (Below.refl _ _))
                            · intro act wx KK E hk hK
                              have e90 := E 90 _ rfl
                              go_simp
                              exact hK _ (Below.refl _ _)
                            · intro act wx KK E hk hK
                              have e8 := E 8 _ rfl
                              go_simp
                              exact hK _ (Below.refl _ _)
                            · intro act wx KK E hk hK
                              have e12 := E 12 _ rfl
                              go_simp
                              exact hK _ (Below.refl _ _)
                            · intro act wx KK E hk hK
                              have e92 := E 92 _ rfl
                              have e93 := E 93 _ rfl
                              go_simp
                              exact hK _ (Below.refl _ _)
                            · intro act wx KK E hk hK
                              have e94 := E 94 _ rfl
                              obtain ⟨hc, hf⟩ := hk.cells rfl
                              try simp only [World.size_drew] at hc hf
                              go_simp
                              exact hK _ (Below.refl _ _)
                            · intro act wx KK E hk hK
                              have e95 := E 95 _ rfl
                              go_simp
                              try go_bits
                              first | exact hK _ (Below.refl _ _) | (go_step; exact hK _ (Below.refl _ _)) | (go_step; go_step; exact hK _ (Below.refl _ _))
                            · intro act wx KK E hk hK
                              have e91 := E 91 _ rfl
                              have e96 := E 96 _ rfl
                              go_simp
                              exact hK _ (Below.refl _ _)
                            · intro act wx KK E hk hK
                              have e97 := E 97 _ rfl
                              go_simp
                              exact hK _ (Below.refl _ _)
                            · intro act wx KK E hk hK
                              have e7 := E 7 _ rfl
                              go_simp
                              exact hK _ (Below.refl _ _)
                            · intro act wx KK E hk hK
                              have e11 := E 11 _ rfl
                              go_simp
                              exact hK _ (Below.refl _ _)
                            · intro act wx KK E hk hK
                              have e99 := E 99 _ rfl
                              have e100 := E 100 _ rfl
                              go_simp
                              exact hK _ (Below.refl _ _)
                            · intro act wx KK E hk hK
                              have e101 := E 101 _ rfl
                              obtain ⟨hc, hf⟩ := hk.cells rfl
                              try simp only [World.size_drew] at hc hf
                              go_simp
                              exact hK _ (Below.refl _ _)
                            · intro act wx KK E hk hK
                              have e102 := E 102 _ rfl
                              go_simp
                              try go_bits
                              first | exact hK _ (Below.refl _ _) | (go_step; exact hK _ (Below.refl _ _)) | (go_step; go_step; exact hK _ (Below.refl _ _))
                            · intro act wx KK E hk hK
                              have e7 := E 7 _ rfl
                              go_simp
                              exact hK _ (Below.refl _ _)
                            · intro act wx KK E hk hK
                              have e12 := E 12 _ rfl
                              go_simp
                              exact hK _ (Below.refl _ _)
                            · intro act wx KK E hk hK
                              have e104 := E 104 _ rfl
                              have e105 := E 105 _ rfl
                              go_simp
                              exact hK _ (Below.refl _ _)
                            · intro act wx KK E hk hK
                              have e106 := E 106 _ rfl
                              obtain ⟨hc, hf⟩ := hk.cells rfl
                              try simp only [World.size_drew] at hc hf
                              go_simp
                              exact hK _ (Below.refl _ _)
                            · intro act wx KK E hk hK
                              have e8 := E 8 _ rfl
                              go_simp
                              exact hK _ (Below.refl _ _)
                            · intro act wx KK E hk hK
                              have e12 := E 12 _ rfl
                              go_simp
                              exact hK _ (Below.refl _ _)
                            · intro act wx KK E hk hK
                              have e108 := E 108 _ rfl
                              have e109 := E 109 _ rfl
                              go_simp
                              exact hK _ (Below.refl _ _)
                            · intro act wx KK E hk hK
                              have e110 := E 110 _ rfl
                              obtain ⟨hc, hf⟩ := hk.cells rfl
                              try simp only [World.size_drew] at hc hf
                              go_simp
                              exact hK _ (Below.refl _ _)
                            · intro act wx KK E hk hK
                              have e107 := E 107 _ rfl
                              have e111 := E 111 _ rfl
                              go_simp
                              try go_bits
                              first | exact hK _ (Below.refl _ _) | (go_step; exact hK _ (Below.refl _ _)) | (go_step; go_step; exact hK _ (Below.refl _ _))
                            · intro act wx KK E hk hK
                              have e7 := E 7 _ rfl
                              go_simp
                              exact hK _ (Below.refl _ _)
                            · intro act wx KK E hk hK
                              have e12 := E 12 _ rfl
                              go_simp
                              exact hK _ (Below.refl _ _)
                            · intro act wx KK E hk hK
                              have e113 := E 113 _ rfl
                              have e114 := E 114 _ rfl
                              go_simp
                              exact hK _ (Below.refl _ _)
                            · intro act wx KK E hk hK
                              have e115 := E 115 _ rfl
                              obtain ⟨hc, hf⟩ := hk.cells rfl
                              try simp only [World.size_drew] at hc hf
                              go_simp
                              exact hK _ (Below.refl _ _)
                            · intro act wx KK E hk hK
                              have e8 := E 8 _ rfl
                              go_simp
                              exact hK _ (Below.refl _ _)
                            · intro act wx KK E hk hK
                              have e11 := E 11 _ rfl
                              go_simp
                              exact hK _ (Below.refl _ _)
                            · intro act wx KK E hk hK
                              have e117 := E 117 _ rfl
                              have e118 := E 118 _ rfl
                              go_simp
                              exact hK _ (Below.refl _ _)
                            · intro act wx KK E hk hK
                              have e119 := E 119 _ rfl
                              obtain ⟨hc, hf⟩ := hk.cells rfl
                              try simp only [World.size_drew] at hc hf
                              go_simp
                              exact hK _ (Below.refl _ _)
                            · intro act wx KK E hk hK
                              have e7 := E 7 _ rfl
                              go_simp
                              exact hK _ (Below.refl _ _)
                            · intro act wx KK E hk hK
                              have e11 := E 11 _ rfl
                              go_simp
                              exact hK _ (Below.refl _ _)
                            · intro act wx KK E hk hK
                              have e121 := E 121 _ rfl
                              have e122 := E 122 _ rfl
                              go_simp
                              exact hK _ (Below.refl _ _)
                            · intro act wx KK E hk hK
                              have e123 := E 123 _ rfl
                              obtain ⟨hc, hf⟩ := hk.cells rfl
                              try simp only [World.size_drew] at hc hf
                              go_simp
                              exact hK _ (Below.refl _ _)
                            · intro act wx KK E hk hK
                              have e120 := E 120 _ rfl
                              have e124 := E 124 _ rfl
                              go_simp
                              try go_bits
                              first | exact hK _ (Below.refl _ _) | (go_step; exact hK _ (Below.refl _ _)) | (go_step; go_step; exact hK _ (Below.refl _ _))
                            · intro act wx KK E hk hK
                              have e103 := E 103 _ rfl
                              have e112 := E 112 _ rfl
                              have e116 := E 116 _ rfl
                              have e125 := E 125 _ rfl
                              go_simp
                              refine (LF.out _).mono ?_
                              rintro e w' ⟨rfl, hb⟩
                              exact hK _ hb
                            · intro act wx KK E hk hK
                              have e126 := E 126 _ rfl
                              go_simp
                              try go_bits
                              first | exact hK _ (Below.refl _ _) | (go_step; exact hK _ (Below.refl _ _)) | (go_step; go_step; exact hK _ (Below.refl _ _))
                            · intro act wx KK E hk hK
                              have e98 := E 98 _ rfl
                              have e127 := E 127 _ rfl
                              go_simp
                              exact hK _ (Below.refl _ _)
                          intro β20 w20 F
                          simp only [R.finAct, R.Item.value, Act.put, List.getElem?_toArray, List.getElem?_cons_zero, List.getElem?_cons_succ, List.size_toArray, List.length_cons, List.length_nil, Nat.reduceAdd, List.setIfInBounds_toArray, List.set_cons_zero, List.set_cons_succ]
                          have hB20 := stepB (w := w) (by go_grown) (F.kept.below rfl)
                          obtain ⟨hc20, hf20⟩ := F.kept.cells rfl
                          try simp only [World.size_drew] at hc20 hf20
                          have hz20 := F.kept.size
                          try simp only [World.size_alloc, World.size_setCell, World.size_drew] at hz20
                          try have ha20 : w.heap.size < w20.heap.size := (by omega)
                          try have hi20 : w.heap.size + 1 < w20.heap.size := (by omega)
                          try have hj20 : w.heap.size + 1 + 1 < w20.heap.size := (by omega)
                          try have hk20 : w.heap.size + 1 + 1 + 1 < w20.heap.size := (by omega)
                          try have hl20 : w.heap.size + 1 + 1 + 1 + 1 < w20.heap.size := (by omega)
                          clear F
                          go_wp2
                          exact ⟨⟨m + 1, by omega, by go_num, HBK2.out.next hc20 hz20, hB20, HPS.out.succ HM2.out.2 (fun h => absurd hbad.out h)⟩, by simp [intOf]; omega⟩
                      · have hu1 : 0 < U := by omega
                        have LF := Lib.hid (fun w => less_any (-P) (U - V) U (Q - P) w ⟨by omega, by omega⟩ ⟨by omega, by omega⟩ ⟨by omega, by omega⟩ ⟨by omega, by omega⟩)
                        rcases Int.lt_trichotomy (-P * (U - V)) (U * (Q - P)) with hc | hc | hc
                        · have HL := Lib.hid hc
                          rw [M.cmp_lt hc] at LF
                          clear hc
                          refine R.region_grow [.val (.slice (some ⟨gp, 0, none⟩) L.length cp), .val (.int .i64 i), .val (.pointer (some ⟨gp, i, none⟩)), .val (.int .i64 P), .val (.bool true), .val (.bool true), .val (.slice (some ⟨gq, 0, none⟩) L.length cq), .val (.int .i64 m), .val (.pointer (some ⟨gq, m, none⟩)), .val (.int .i64 V), .val (.bool true), .val (.bool true), .val (.bool true), .val (.slice (some ⟨gp, 0, none⟩) L.length cp), .val (.int .i64 i), .val (.pointer (some ⟨gp, i, none⟩)), .val (.int .i64 P), .val (.int .i64 (-P)), .val (.slice (some ⟨gp, 0, none⟩) L.length cp), .val (.int .i64 m), .val (.pointer (some ⟨gp, m, none⟩)), .val (.int .i64 U), .val (.slice (some ⟨gq, 0, none⟩) L.length cq), .val (.int .i64 m), .val (.pointer (some ⟨gq, m, none⟩)), .val (.int .i64 V), .val (.int .i64 (U - V)), .val (.slice (some ⟨gp, 0, none⟩) L.length cp), .val (.int .i64 m), .val (.pointer (some ⟨gp, m, none⟩)), .val (.int .i64 U), .val (.slice (some ⟨gq, 0, none⟩) L.length cq), .val (.int .i64 i), .val (.pointer (some ⟨gq, i, none⟩)), .val (.int .i64 Q), .val (.slice (some ⟨gp, 0, none⟩) L.length cp), .val (.int .i64 i), .val (.pointer (some ⟨gp, i, none⟩)), .val (.int .i64 P), .val (.int .i64 (Q - P)), .val (.int .i64 (-1)), .val (.bool false), .val (.bool false)] (by kernel_rfl) (by kernel_rfl) (by kernel_rfl) (by kernel_rfl) ?_ ?_
                          · refine ⟨?_, ?_, ?_, ?_, ?_, ?_, ?_, ?_, ?_, ?_, ?_, ?_, ?_, ?_, ?_, ?_, ?_, ?_, ?_, ?_, ?_, ?_, ?_, ?_, ?_, ?_, ?_, ?_, ?_, ?_, ?_, ?_, ?_, ?_, ?_, ?_, ?_, ?_, ?_, ?_, ?_, ?_, ?_, trivial⟩
                            · intro act wx KK E hk hK
                              have e7 := E 7 _ rfl
                              go_simp
                              exact hK _ (Below.refl _ _)
                            · intro act wx KK E hk hK
                              have e11 := E 11 _ rfl
                              go_simp
                              exact hK _ (Below.refl _ _)
                            · intro act wx KK E hk hK
                              have e86 := E 86 _ rfl
                              have e87 := E 87 _ rfl
                              go_simp
                              exact hK _ (Below.refl _ _)
                            · intro act wx KK E hk hK
                              have e88 := E 88 _ rfl
                              obtain ⟨hc, hf⟩ := hk.cells rfl
                              try simp only [World.size_drew] at hc hf
                              go_simp
                              exact hK _ (Below.refl _ _)
                            · intro act wx KK E hk hK
                              have e89 := E 89 _ rfl
                              go_simp
                              try go_bits
                              first | exact hK _ (Below.refl _ _) | (go_step; exact hK _ (Below.refl _ _)) | (go_step; go_step; exact hK _ (Below.refl _ _))
                            · intro act wx KK E hk hK
                              have e90 := E 90 _ rfl
                              go_simp
                              exact hK _ (Below.refl _ _)
                            · intro act wx KK E hk hK
                              have e8 := E 8 _ rfl
                              go_simp
                              exact hK _ (Below.refl _ _)
                            · intro act wx KK E hk hK
                              have e12 := E 12 _ rfl
                              go_simp
                              exact hK _ (Below.refl _ _)
                            · intro act wx KK E hk hK
                              have e92 := E 92 _ rfl
                              have e93 := E 93 _ rfl
                              go_simp
                              exact hK _ (Below.refl _ _)
                            · intro act wx KK E hk hK
                              have e94 := E 94 _ rfl
                              obtain ⟨hc, hf⟩ := hk.cells rfl
                              try simp only [World.size_drew] at hc hf
                              go_simp
                              exact hK _ (Below.refl _ _)
                            · intro act wx KK E hk hK
                              have e95 := E 95 _ rfl
                              go_simp
                              try go_bits
                              first | exact hK _ (Below.refl _ _) | (go_step; exact hK _ (Below.refl _ _)) | (go_step; go_step; exact hK _ (Below.refl _ _))
                            · intro act wx KK E hk hK
                              have e91 := E 91 _ rfl
                              have e96 := E 96 _ rfl
                              go_simp
                              exact hK _ (Below.refl _ _)
                            · intro act wx KK E hk hK
                              have e97 := E 97 _ rfl
                              go_simp
                              exact hK _ (Below.refl _ _)
                            · intro act wx KK E hk hK
                              have e7 := E 7 _ rfl
                              go_simp
                              exact hK _ (Below.refl _ _)
                            · intro act wx KK E hk hK
                              have e11 := E 11 _ rfl
                              go_simp
                              exact hK _ (Below.refl _ _)
                            · intro act wx KK E hk hK
                              have e99 := E 99 _ rfl
                              have e100 := E 100 _ rfl
                              go_simp
                              exact hK _ (Below.refl _ _)
                            · intro act wx KK E hk hK
                              have e101 := E 101 _ rfl
                              obtain ⟨hc, hf⟩ := hk.cells rfl
                              try simp only [World.size_drew] at hc hf
                              go_simp
                              exact hK _ (Below.refl _ _)
                            · intro act wx KK E hk hK
                              have e102 := E 102 _ rfl
                              go_simp
                              try go_bits
                              first | exact hK _ (Below.refl _ _) | (go_step; exact hK _ (Below.refl _ _)) | (go_step; go_step; exact hK _ (Below.refl _ _))
                            · intro act wx KK E hk hK
                              have e7 := E 7 _ rfl
                              go_simp
                              exact hK _ (Below.refl _ _)
                            · intro act wx KK E hk hK
                              have e12 := E 12 _ rfl
                              go_simp
                              exact hK _ (Below.refl _ _)
                            · intro act wx KK E hk hK
                              have e104 := E 104 _ rfl
                              have e105 := E 105 _ rfl
                              go_simp
                              exact hK _ (Below.refl _ _)
                            · intro act wx KK E hk hK
                              have e106 := E 106 _ rfl
                              obtain ⟨hc, hf⟩ := hk.cells rfl
                              try simp only [World.size_drew] at hc hf
                              go_simp
                              exact hK _ (Below.refl _ _)
                            · intro act wx KK E hk hK
                              have e8 := E 8 _ rfl
                              go_simp
                              exact hK _ (Below.refl _ _)
                            · intro act wx KK E hk hK
                              have e12 := E 12 _ rfl
                              go_simp
                              exact hK _ (Below.refl _ _)
                            · intro act wx KK E hk hK
                              have e108 := E 108 _ rfl
                              have e109 := E 109 _ rfl
                              go_simp
                              exact hK _ (Below.refl _ _)
                            · intro act wx KK E hk hK
                              have e110 := E 110 _ rfl
                              obtain ⟨hc, hf⟩ := hk.cells rfl
                              try simp only [World.size_drew] at hc hf
                              go_simp
                              exact hK _ (Below.refl _ _)
                            · intro act wx KK E hk hK
                              have e107 := E 107 _ rfl
                              have e111 := E 111 _ rfl
                              go_simp
                              try go_bits
                              first | exact hK _ (Below.refl _ _) | (go_step; exact hK _ (Below.refl _ _)) | (go_step; go_step; exact hK _ (Below.refl _ _))
                            · intro act wx KK E hk hK
                              have e7 := E 7 _ rfl
                              go_simp
                              exact hK _ (Below.refl _ _)
                            · intro act wx KK E hk hK
                              have e12 := E 12 _ rfl
                              go_simp
                              exact hK _ (Below.refl _ _)
                            · intro act wx KK E hk hK
                              have e113 := E 113 _ rfl
                              have e114 := E 114 _ rfl
                              go_simp
                              exact hK _ (Below.refl _ _)
                            · intro act wx KK E hk hK
                              have e115 := E 115 _ rfl
                              obtain ⟨hc, hf⟩ := hk.cells rfl
                              try simp only [World.size_drew] at hc hf
                              go_simp
                              exact hK _ (Below.refl _ _)
                            · intro act wx KK E hk hK
                              have e8 := E 8 _ rfl
                              go_simp
                              exact hK _ (Below.refl _ _)
                            · intro act wx KK E hk hK
                              have e11 := E 11 _ rfl
                              go_simp
                              exact hK _ (Below.refl _ _)
                            · intro act wx KK E hk hK
                              have e117 := E 117 _ rfl
                              have e118 := E 118 _ rfl
                              go_simp
                              exact hK _ (Below.refl _ _)
                            · intro act wx KK E hk hK
                              have e119 := E 119 _ rfl
                              obtain ⟨hc, hf⟩ := hk.cells rfl
                              try simp only [World.size_drew] at hc hf
                              go_simp
                              exact hK _ (Below.refl _ _)
                            · intro act wx KK E hk hK
                              have e7 := E 7 _ rfl
                              go_simp
                              exact hK _ (Below.refl _ _)
                            · intro act wx KK E hk hK
                              have e11 := E 11 _ rfl
                              go_simp
                              exact hK _ (Below.refl _ _)
                            · intro act wx KK E hk hK
                              have e121 := E 121 _ rfl
                              have e122 := E 122 _ rfl
                              go_simp
                              exact hK _ (Below.refl _ _)
                            · intro act wx KK E hk hK
                              have e123 := E 123 _ rfl
                              obtain ⟨hc, hf⟩ := hk.cells rfl
                              try simp only [World.size_drew] at hc hf
                              go_simp
                              exact hK _ (Below.refl _ _)
                            · intro act wx KK E hk hK
                              have e120 := E 120 _ rfl
                              have e124 := E 124 _ rfl
                              go_simp
                              try go_bits
                              first | exact hK _ (Below.refl _ _) | (go_step; exact hK _ (Below.refl _ _)) | (go_step; go_step; exact hK _ (Below.refl _ _))
                            · intro act wx KK E hk hK
                              have e103 := E 103 _ rfl
                              have e112 := E 112 _ rfl
                              have e116 := E 116 _ rfl
                              have e125 := E 125 _ rfl
                              go_simp
                              refine (LF.out _).mono ?_
                              rintro e w' ⟨rfl, hb⟩
                              exact hK _ hb
                            · intro act wx KK E hk hK
                              have e126 := E 126 _ rfl
                              go_simp
                              try go_bits
                              first | exact hK _ (Below.refl _ _) | (go_step; exact hK _ (Below.refl _ _)) | (go_step; go_step; exact hK _ (Below.refl _ _))
                            · intro act wx KK E hk hK
                              have e98 := E 98 _ rfl
                              have e127 := E 127 _ rfl
                              go_simp
                              exact hK _ (Below.refl _ _)
                          intro β20 w20 F
                          simp only [R.finAct, R.Item.value, Act.put, List.getElem?_toArray, List.getElem?_cons_zero, List.getElem?_cons_succ, List.size_toArray, List.length_cons, List.length_nil, Nat.reduceAdd, List.setIfInBounds_toArray, List.set_cons_zero, List.set_cons_succ]
                          have hB20 := stepB (w := w) (by go_grown) (F.kept.below rfl)
                          obtain ⟨hc20, hf20⟩ := F.kept.cells rfl
                          try simp only [World.size_drew] at hc20 hf20
                          have hz20 := F.kept.size
                          try simp only [World.size_alloc, World.size_setCell, World.size_drew] at hz20
                          try have ha20 : w.heap.size < w20.heap.size := (by omega)
                          try have hi20 : w.heap.size + 1 < w20.heap.size := (by omega)
                          try have hj20 : w.heap.size + 1 + 1 < w20.heap.size := (by omega)
                          try have hk20 : w.heap.size + 1 + 1 + 1 < w20.heap.size := (by omega)
                          try have hl20 : w.heap.size + 1 + 1 + 1 + 1 < w20.heap.size := (by omega)
                          clear F
                          go_wp2
                          exact ⟨⟨m + 1, by omega, by go_num, HBK2.out.next hc20 hz20, hB20, HPS.out.succ HM2.out.2 (fun _ _ _ => HL.out)⟩, by simp [intOf]; omega⟩
                        · have HX := Lib.hid (cross_pair HM.out.1 HM2.out.1 p0 v0 (by omega))
                          rw [hc, M.cmp_eq] at LF
                          clear hc
                          refine R.region_grow [.val (.slice (some ⟨gp, 0, none⟩) L.length cp), .val (.int .i64 i), .val (.pointer (some ⟨gp, i, none⟩)), .val (.int .i64 P), .val (.bool true), .val (.bool true), .val (.slice (some ⟨gq, 0, none⟩) L.length cq), .val (.int .i64 m), .val (.pointer (some ⟨gq, m, none⟩)), .val (.int .i64 V), .val (.bool true), .val (.bool true), .val (.bool true), .val (.slice (some ⟨gp, 0, none⟩) L.length cp), .val (.int .i64 i), .val (.pointer (some ⟨gp, i, none⟩)), .val (.int .i64 P), .val (.int .i64 (-P)), .val (.slice (some ⟨gp, 0, none⟩) L.length cp), .val (.int .i64 m), .val (.pointer (some ⟨gp, m, none⟩)), .val (.int .i64 U), .val (.slice (some ⟨gq, 0, none⟩) L.length cq), .val (.int .i64 m), .val (.pointer (some ⟨gq, m, none⟩)), .val (.int .i64 V), .val (.int .i64 (U - V)), .val (.slice (some ⟨gp, 0, none⟩) L.length cp), .val (.int .i64 m), .val (.pointer (some ⟨gp, m, none⟩)), .val (.int .i64 U), .val (.slice (some ⟨gq, 0, none⟩) L.length cq), .val (.int .i64 i), .val (.pointer (some ⟨gq, i, none⟩)), .val (.int .i64 Q), .val (.slice (some ⟨gp, 0, none⟩) L.length cp), .val (.int .i64 i), .val (.pointer (some ⟨gp, i, none⟩)), .val (.int .i64 P), .val (.int .i64 (Q - P)), .val (.int .i64 0), .val (.bool true), .val (.bool true)] (by kernel_rfl) (by kernel_rfl) (by kernel_rfl) (by kernel_rfl) ?_ ?_
                          · refine ⟨?_, ?_, ?_, ?_, ?_, ?_, ?_, ?_, ?_, ?_, ?_, ?_, ?_, ?_, ?_, ?_, ?_, ?_, ?_, ?_, ?_, ?_, ?_, ?_, ?_, ?_, ?_, ?_, ?_, ?_, ?_, ?_, ?_, ?_, ?_, ?_, ?_, ?_, ?_, ?_, ?_, ?_, ?_, trivial⟩
                            · intro act wx KK E hk hK
                              have e7 := E 7 _ rfl
                              go_simp
                              exact hK _ (Below.refl _ _)
                            · intro act wx KK E hk hK
                              have e11 := E 11 _ rfl
                              go_simp
                              exact hK _ (Below.refl _ _)
                            · intro act wx KK E hk hK
                              have e86 := E 86 _ rfl
                              have e87 := E 87 _ rfl
                              go_simp
                              exact hK _ (Below.refl _ _)
                            · intro act wx KK E hk hK
                              have e88 := E 88 _ rfl
                              obtain ⟨hc, hf⟩ := hk.cells rfl
                              try simp only [World.size_drew] at hc hf
                              go_simp
                              exact hK _ (Below.refl _ _)
                            · intro act wx KK E hk hK
                              have e89 := E 89 _ rfl
                              go_simp
                              try go_bits
                              first | exact hK _ (Below.refl _ _) | (go_step; exact hK _ (Below.refl _ _)) | (go_step; go_step; exact hK _ (Below.refl _ _))
                            · intro act wx KK E hk hK
                              have e90 := E 90 _ rfl
                              go_simp
                              exact hK _ (Below.refl _ _)
                            · intro act wx KK E hk hK
                              have e8 := E 8 _ rfl
                              go_simp
                              exact hK _ (Below.refl _ _)
                            · intro act wx KK E hk hK
                              have e12 := E 12 _ rfl
                              go_simp
                              exact hK _ (Below.refl _ _)
                            · intro act wx KK E hk hK
                              have e92 := E 92 _ rfl
                              have e93 := E 93 _ rfl
                              go_simp
                              exact hK _ (Below.refl _ _)
                            · intro act wx KK E hk hK
                              have e94 := E 94 _ rfl
                              obtain ⟨hc, hf⟩ := hk.cells rfl
                              try simp only [World.size_drew] at hc hf
                              go_simp
                              exact hK _ (Below.refl _ _)
                            · intro act wx KK E hk hK
                              have e95 := E 95 _ rfl
                              go_simp
                              try go_bits
                              first | exact hK _ (Below.refl _ _) | (go_step; exact hK _ (Below.refl _ _)) | (go_step; go_step; exact hK _ (Below.refl _ _))
                            · intro act wx KK E hk hK
                              have e91 := E 91 _ rfl
                              have e96 := E 96 _ rfl
                              go_simp
                              exact hK _ (Below.refl _ _)
                            · intro act wx KK E hk hK
                              have e97 := E 97 _ rfl
                              go_simp
                              exact hK _ (Below.refl _ _)
                            · intro act wx KK E hk hK
                              have e7 := E 7 _ rfl
                              go_simp
                              exact hK _ (Below.refl _ _)
                            · intro act wx KK E hk hK
                              have e11 := E 11 _ rfl
                              go_simp
                              exact hK _ (Below.refl _ _)
                            · intro act wx KK E hk hK
                              have e99 := E 99 _ rfl
                              have e100 := E 100 _ rfl
                              go_simp
                              exact hK _ (Below.refl _ _)
                            · intro act wx KK E hk hK
                              have e101 := E 101 _ rfl
                              obtain ⟨hc, hf⟩ := hk.cells rfl
                              try simp only [World.size_drew] at hc hf
                              go_simp
                              exact hK _ (Below.refl _ _)
                            · intro act wx KK E hk hK
                              have e102 := E 102 _ rfl
                              go_simp
                              try go_bits
                              first | exact hK _ (Below.refl _ _) | (go_step; exact hK _ (Below.refl _ _)) | (go_step; go_step; exact hK _ (Below.refl _ _))
                            · intro act wx KK E hk hK
                              have e7 := E 7 _ rfl
                              go_simp
                              exact hK _ (Below.refl _ _)
                            · intro act wx KK E hk hK
                              have e12 := E 12 _ rfl
                              go_simp
                              exact hK _ (Below.refl _ _)
                            · intro act wx KK E hk hK
                              have e104 := E 104 _ rfl
                              have e105 := E 105 _ rfl
                              go_simp
                              exact hK _ (Below.refl _ _)
                            · intro act wx KK E hk hK
                              have e106 := E 106 _ rfl
                              obtain ⟨hc, hf⟩ := hk.cells rfl
                              try simp only [World.size_drew] at hc hf
                              go_simp
                              exact hK _ (Below.refl _ _)
                            · intro act wx KK E hk hK
                              have e8 := E 8 _ rfl
                              go_simp
                              exact hK _ (Below.refl _ _)
                            · intro act wx KK E hk hK
                              have e12 := E 12 _ rfl
                              go_simp
                              exact hK _ (Below.refl _ _)
                            · intro act wx KK E hk hK
                              have e108 := E 108 _ rfl
                              have e109 := E 109 _ rfl
                              go_simp
                              exact hK _ (Below.refl _ _)
                            · intro act wx KK E hk hK
                              have e110 := E 110 _ rfl
                              obtain ⟨hc, hf⟩ := hk.cells rfl
                              try simp only [World.size_drew] at hc hf
                              go_simp
                              exact hK _ (Below.refl _ _)
                            · intro act wx KK E hk hK
                              have e107 := E 107 _ rfl
                              have e111 := E 111 _ rfl
                              go_simp
                              try go_bits
                              first | exact hK _ (Below.refl _ _) | (go_step; exact hK _ (Below.refl _ _)) | (go_step; go_step; exact hK _ (Below.refl _ _))
                            · intro act wx KK E hk hK
                              have e7 := E 7 _ rfl
                              go_simp
                              exact hK _ (Below.refl _ _)
                            · intro act wx KK E hk hK
                              have e12 := E 12 _ rfl
                              go_simp
                              exact hK _ (Below.refl _ _)
                            · intro act wx KK E hk hK
                              have e113 := E 113 _ rfl
                              have e114 := E 114 _ rfl
                              go_simp
                              exact hK _ (Below.refl _ _)
                            · intro act wx KK E hk hK
                              have e115 := E 115 _ rfl
                              obtain ⟨hc, hf⟩ := hk.cells rfl
                              try simp only [World.size_drew] at hc hf
                              go_simp
                              exact hK _ (Below.refl _ _)
                            · intro act wx KK E hk hK
                              have e8 := E 8 _ rfl
                              go_simp
                              exact hK _ (Below.refl _ _)
                            · intro act wx KK E hk hK
                              have e11 := E 11 _ rfl
                              go_simp
                              exact hK _ (Below.refl _ _)
                            · intro act wx KK E hk hK
                              have e117 := E 117 _ rfl
                              have e118 := E 118 _ rfl
                              go_simp
                              exact hK _ (Below.refl _ _)
                            · intro act wx KK E hk hK
                              have e119 := E 119 _ rfl
                              obtain ⟨hc, hf⟩ := hk.cells rfl
                              try simp only [World.size_drew] at hc hf
                              go_simp
                              exact hK _ (Below.refl _ _)
                            · intro act wx KK E hk hK
                              have e7 := E 7 _ rfl
                              go_simp
                              exact hK _ (Below.refl _ _)
                            · intro act wx KK E hk hK
                              have e11 := E 11 _ rfl
                              go_simp
                              exact hK _ (Below.refl _ _)
                            · intro act wx KK E hk hK
                              have e121 := E 121 _ rfl
                              have e122 := E 122 _ rfl
                              go_simp
                              exact hK _ (Below.refl _ _)
                            · intro act wx KK E hk hK
                              have e123 := E 123 _ rfl
                              obtain ⟨hc, hf⟩ := hk.cells rfl
                              try simp only [World.size_drew] at hc hf
                              go_simp
                              exact hK _ (Below.refl _ _)
                            · intro act wx KK E hk hK
                              have e120 := E 120 _ rfl
                              have e124 := E 124 _ rfl
                              go_simp
                              try go_bits
                              first | exact hK _ (Below.refl _ _) | (go_step; exact hK _ (Below.refl _ _)) | (go_step; go_step; exact hK _ (Below.refl _ _))
                            · intro act wx KK E hk hK
                              have e103 := E 103 _ rfl
                              have e112 := E 112 _ rfl
                              have e116 := E 116 _ rfl
                              have e125 := E 125 _ rfl
                              go_simp
                              refine (LF.out _).mono ?_
                              rintro e w' ⟨rfl, hb⟩
                              exact hK _ hb
                            · intro act wx KK E hk hK
                              have e126 := E 126 _ rfl
                              go_simp
                              try go_bits
                              first | exact hK _ (Below.refl _ _) | (go_step; exact hK _ (Below.refl _ _)) | (go_step; go_step; exact hK _ (Below.refl _ _))
                            · intro act wx KK E hk hK
                              have e98 := E 98 _ rfl
                              have e127 := E 127 _ rfl
                              go_simp
                              exact hK _ (Below.refl _ _)
                          intro β20 w20 F
                          simp only [R.finAct, R.Item.value, Act.put, List.getElem?_toArray, List.getElem?_cons_zero, List.getElem?_cons_succ, List.size_toArray, List.length_cons, List.length_nil, Nat.reduceAdd, List.setIfInBounds_toArray, List.set_cons_zero, List.set_cons_succ]
                          have hB20 := stepB (w := w) (by go_grown) (F.kept.below rfl)
                          obtain ⟨hc20, hf20⟩ := F.kept.cells rfl
                          try simp only [World.size_drew] at hc20 hf20
                          have hz20 := F.kept.size
                          try simp only [World.size_alloc, World.size_setCell, World.size_drew] at hz20
                          try have ha20 : w.heap.size < w20.heap.size := (by omega)
                          try have hi20 : w.heap.size + 1 < w20.heap.size := (by omega)
                          try have hj20 : w.heap.size + 1 + 1 < w20.heap.size := (by omega)
                          try have hk20 : w.heap.size + 1 + 1 + 1 < w20.heap.size := (by omega)
                          try have hl20 : w.heap.size + 1 + 1 + 1 + 1 < w20.heap.size := (by omega)
                          clear F
                          go_wp2
                          go_returns
                          exact ⟨BoolIff.no HX.out, hB20⟩
                        · have HX := Lib.hid (cross_pair HM.out.1 HM2.out.1 p0 v0 (by omega))
                          rw [M.cmp_gt hc] at LF
                          clear hc
                          refine R.region_grow [.val (.slice (some ⟨gp, 0, none⟩) L.length cp), .val (.int .i64 i), .val (.pointer (some ⟨gp, i, none⟩)), .val (.int .i64 P), .val (.bool true), .val (.bool true), .val (.slice (some ⟨gq, 0, none⟩) L.length cq), .val (.int .i64 m), .val (.pointer (some ⟨gq, m, none⟩)), .val (.int .i64 V), .val (.bool true), .val (.bool true), .val (.bool true), .val (.slice (some ⟨gp, 0, none⟩) L.length cp), .val (.int .i64 i), .val (.pointer (some ⟨gp, i, none⟩)), .val (.int .i64 P), .val (.int .i64 (-P)), .val (.slice (some ⟨gp, 0, none⟩) L.length cp), .val (.int .i64 m), .val (.pointer (some ⟨gp, m, none⟩)), .val (.int .i64 U), .val (.slice (some ⟨gq, 0, none⟩) L.length cq), .val (.int .i64 m), .val (.pointer (some ⟨gq, m, none⟩)), .val (.int .i64 V), .val (.int .i64 (U - V)), .val (.slice (some ⟨gp, 0, none⟩) L.length cp), .val (.int .i64 m), .val (.pointer (some ⟨gp, m, none⟩)), .val (.int .i64 U), .val (.slice (some ⟨gq, 0, none⟩) L.length cq), .val (.int .i64 i), .val (.pointer (some ⟨gq, i, none⟩)), .val (.int .i64 Q), .val (.slice (some ⟨gp, 0, none⟩) L.length cp), .val (.int .i64 i), .val (.pointer (some ⟨gp, i, none⟩)), .val (.int .i64 P), .val (.int .i64 (Q - P)), .val (.int .i64 1), .val (.bool true), .val (.bool true)] (by kernel_rfl) (by kernel_rfl) (by kernel_rfl) (by kernel_rfl) ?_ ?_
                          · refine ⟨?_, ?_, ?_, ?_, ?_, ?_, ?_, ?_, ?_, ?_, ?_, ?_, ?_, ?_, ?_, ?_, ?_, ?_, ?_, ?_, ?_, ?_, ?_, ?_, ?_, ?_, ?_, ?_, ?_, ?_, ?_, ?_, ?_, ?_, ?_, ?_, ?_, ?_, ?_, ?_, ?_, ?_, ?_, trivial⟩
                            · intro act wx KK E hk hK
                              have e7 := E 7 _ rfl
                              go_simp
                              exact hK _ (Below.refl _ _)
                            · intro act wx KK E hk hK
                              have e11 := E 11 _ rfl
                              go_simp
                              exact hK _ (Below.refl _ _)
                            · intro act wx KK E hk hK
                              have e86 := E 86 _ rfl
                              have e87 := E 87 _ rfl
                              go_simp
                              exact hK _ (Below.refl _ _)
                            · intro act wx KK E hk hK
                              have e88 := E 88 _ rfl
                              obtain ⟨hc, hf⟩ := hk.cells rfl
                              try simp only [World.size_drew] at hc hf
                              go_simp
                              exact hK _ (Below.refl _ _)
                            · intro act wx KK E hk hK
                              have e89 := E 89 _ rfl
                              go_simp
                              try go_bits
                              first | exact hK _ (Below.refl _ _) | (go_step; exact hK _ (Below.refl _ _)) | (go_step; go_step; exact hK _ (Below.refl _ _))
                            · intro act wx KK E hk hK
                              have e90 := E 90 _ rfl
                              go_simp
                              exact hK _ (Below.refl _ _)
                            · intro act wx KK E hk hK
                              have e8 := E 8 _ rfl
                              go_simp
                              exact hK _ (Below.refl _ _)
                            · intro act wx KK E hk hK
                              have e12 := E 12 _ rfl
                              go_simp
                              exact hK _ (Below.refl _ _)
                            · intro act wx KK E hk hK
                              have e92 := E 92 _ rfl
                              have e93 := E 93 _ rfl
                              go_simp
                              exact hK _ (Below.refl _ _)
                            · intro act wx KK E hk hK
                              have e94 := E 94 _ rfl
                              obtain ⟨hc, hf⟩ := hk.cells rfl
                              try simp only [World.size_drew] at hc hf
                              go_simp
                              exact hK _ (Below.refl _ _)
                            · intro act wx KK E hk hK
                              have e95 := E 95 _ rfl
                              go_simp
                              try go_bits
                              first | exact hK _ (Below.refl _ _) | (go_step; exact hK _ (Below.refl _ _)) | (go_step; go_step; exact hK _ (Below.refl _ _))
                            · intro act wx KK E hk hK
                              have e91 := E 91 _ rfl
                              have e96 := E 96 _ rfl
                              go_simp
                              exact hK _ (Below.refl _ _)
                            · intro act wx KK E hk hK
                              have e97 := E 97 _ rfl
                              go_simp
                              exact hK _ (Below.refl _ _)
                            · intro act wx KK E hk hK
                              have e7 := E 7 _ rfl
                              go_simp
                              exact hK _ (Below.refl _ _)
                            · intro act wx KK E hk hK
                              have e11 := E 11 _ rfl
                              go_simp
                              exact hK _ (Below.refl _ _)
                            · intro act wx KK E hk hK
                              have e99 := E 99 _ rfl
                              have e100 := E 100 _ rfl
                              go_simp
                              exact hK _ (Below.refl _ _)
                            · intro act wx KK E hk hK
                              have e101 := E 101 _ rfl
                              obtain ⟨hc, hf⟩ := hk.cells rfl
                              try simp only [World.size_drew] at hc hf
                              go_simp
                              exact hK _ (Below.refl _ _)
                            · intro act wx KK E hk hK
                              have e102 := E 102 _ rfl
                              go_simp
                              try go_bits
                              first | exact hK _ (Below.refl _ _) | (go_step; exact hK _ (Below.refl _ _)) | (go_step; go_step; exact hK _ (Below.refl _ _))
                            · intro act wx KK E hk hK
                              have e7 := E 7 _ rfl
                              go_simp
                              exact hK _ (Below.refl _ _)
                            · intro act wx KK E hk hK
                              have e12 := E 12 _ rfl
                              go_simp
                              exact hK _ (Below.refl _ _)
                            · intro act wx KK E hk hK
                              have e104 := E 104 _ rfl
                              have e105 := E 105 _ rfl
                              go_simp
                              exact hK _ (Below.refl _ _)
                            · intro act wx KK E hk hK
                              have e106 := E 106 _ rfl
                              obtain ⟨hc, hf⟩ := hk.cells rfl
                              try simp only [World.size_drew] at hc hf
                              go_simp
                              exact hK _ (Below.refl _ _)
                            · intro act wx KK E hk hK
                              have e8 := E 8 _ rfl
                              go_simp
                              exact hK _ (Below.refl _ _)
                            · intro act wx KK E hk hK
                              have e12 := E 12 _ rfl
                              go_simp
                              exact hK _ (Below.refl _ _)
                            · intro act wx KK E hk hK
                              have e108 := E 108 _ rfl
                              have e109 := E 109 _ rfl
                              go_simp
                              exact hK _ (Below.refl _ _)
                            · intro act wx KK E hk hK
                              have e110 := E 110 _ rfl
                              obtain ⟨hc, hf⟩ := hk.cells rfl
                              try simp only [World.size_drew] at hc hf
                              go_simp
                              exact hK _ (Below.refl _ _)
                            · intro act wx KK E hk hK
                              have e107 := E 107 _ rfl
                              have e111 := E 111 _ rfl
                              go_simp
                              try go_bits
                              first | exact hK _ (Below.refl _ _) | (go_step; exact hK _ (Below.refl _ _)) | (go_step; go_step; exact hK _ (Below.refl _ _))
                            · intro act wx KK E hk hK
                              have e7 := E 7 _ rfl
                              go_simp
                              exact hK _ (Below.refl _ _)
                            · intro act wx KK E hk hK
                              have e12 := E 12 _ rfl
                              go_simp
                              exact hK _ (Below.refl _ _)
                            · intro act wx KK E hk hK
                              have e113 := E 113 _ rfl
                              have e114 := E 114 _ rfl
                              go_simp
                              exact hK _ (Below.refl _ _)
                            · intro act wx KK E hk hK
                              have e115 := E 115 _ rfl
                              obtain ⟨hc, hf⟩ := hk.cells rfl
                              try simp only [World.size_drew] at hc hf
                              go_simp
                              exact hK _ (Below.refl _ _)
                            · intro act wx KK E hk hK
                              have e8 := E 8 _ rfl
                              go_simp
                              exact hK _ (Below.refl _ _)
                            · intro act wx KK E hk hK
                              have e11 := E 11 _ rfl
                              go_simp
                              exact hK _ (Below.refl _ _)
                            · intro act wx KK E hk hK
                              have e117 := E 117 _ rfl
                              have e118 := E 118 _ rfl
                              go_simp
                              exact hK _ (Below.refl _ _)
                            · intro act wx KK E hk hK
                              have e119 := E 119 _ rfl
                              obtain ⟨hc, hf⟩ := hk.cells rfl
                              try simp only [World.size_drew] at hc hf
                              go_simp
                              exact hK _ (Below.refl _ _)
                            · intro act wx KK E hk hK
                              have e7 := E 7 _ rfl
                              go_simp
                              exact hK _ (Below.refl _ _)
                            · intro act wx KK E hk hK
                              have e11 := E 11 _ rfl
                              go_simp
                              exact hK _ (Below.refl _ _)
                            · intro act wx KK E hk hK
                              have e121 := E 121 _ rfl
                              have e122 := E 122 _ rfl
                              go_simp
                              exact hK _ (Below.refl _ _)
                            · intro act wx KK E hk hK
                              have e123 := E 123 _ rfl
                              obtain ⟨hc, hf⟩ := hk.cells rfl
                              try simp only [World.size_drew] at hc hf
                              go_simp
                              exact hK _ (Below.refl _ _)
                            · intro act wx KK E hk hK
                              have e120 := E 120 _ rfl
                              have e124 := E 124 _ rfl
                              go_simp
                              try go_bits
                              first | exact hK _ (Below.refl _ _) | (go_step; exact hK _ (Below.refl _ _)) | (go_step; go_step; exact hK _ (Below.refl _ _))
                            · intro act wx KK E hk hK
                              have e103 := E 103 _ rfl
                              have e112 := E 112 _ rfl
                              have e116 := E 116 _ rfl
                              have e125 := E 125 _ rfl
                              go_simp
                              refine (LF.out _).mono ?_
                              rintro e w' ⟨rfl, hb⟩
                              exact hK _ hb
                            · intro act wx KK E hk hK
                              have e126 := E 126 _ rfl
                              go_simp
                              try go_bits
                              first | exact hK _ (Below.refl _ _) | (go_step; exact hK _ (Below.refl _ _)) | (go_step; go_step; exact hK _ (Below.refl _ _))
                            · intro act wx KK E hk hK
                              have e98 := E 98 _ rfl
                              have e127 := E 127 _ rfl
                              go_simp
                              exact hK _ (Below.refl _ _)
                          intro β20 w20 F
                          simp only [R.finAct, R.Item.value, Act.put, List.getElem?_toArray, List.getElem?_cons_zero, List.getElem?_cons_succ, List.size_toArray, List.length_cons, List.length_nil, Nat.reduceAdd, List.setIfInBounds_toArray, List.set_cons_zero, List.set_cons_succ]
                          have hB20 := stepB (w := w) (by go_grown) (F.kept.below rfl)
                          obtain ⟨hc20, hf20⟩ := F.kept.cells rfl
                          try simp only [World.size_drew] at hc20 hf20
                          have hz20 := F.kept.size
                          try simp only [World.size_alloc, World.size_setCell, World.size_drew] at hz20
                          try have ha20 : w.heap.size < w20.heap.size := (by omega)
                          try have hi20 : w.heap.size + 1 < w20.heap.size := (by omega)
                          try have hj20 : w.heap.size + 1 + 1 < w20.heap.size := (by omega)
                          try have hk20 : w.heap.size + 1 + 1 + 1 < w20.heap.size := (by omega)
                          try have hl20 : w.heap.size + 1 + 1 + 1 + 1 < w20.heap.size := (by omega)
                          clear F
                          go_wp2
                          go_returns
                          exact ⟨BoolIff.no HX.out, hB20⟩
                    · have hVw : ¬ V ≤ 0 := v0
                      have hv1 : 0 < V := by omega
                      refine R.region_grow [.val (.slice (some ⟨gp, 0, none⟩) L.length cp), .val (.int .i64 i), .val (.pointer (some ⟨gp, i, none⟩)), .val (.int .i64 P), .val (.bool true), .val (.bool true), .val (.slice (some ⟨gq, 0, none⟩) L.length cq), .val (.int .i64 m), .val (.pointer (some ⟨gq, m, none⟩)), .val (.int .i64 V), .val (.bool false), .val (.bool false), .val (.bool false), .skip, .skip, .skip, .skip, .skip, .skip, .skip, .skip, .skip, .skip, .skip, .skip, .skip, .skip, .skip, .skip, .skip, .skip, .skip, .skip, .skip, .skip, .skip, .skip, .skip, .skip, .skip, .skip, .skip, .val (.bool false)] (by kernel_rfl) (by kernel_rfl) (by kernel_rfl) (by kernel_rfl) ?_ ?_
                      · refine ⟨?_, ?_, ?_, ?_, ?_, ?_, ?_, ?_, ?_, ?_, ?_, ?_, ?_, ?_, ?_, ?_, ?_, ?_, ?_, ?_, ?_, ?_, ?_, ?_, ?_, ?_, ?_, ?_, ?_, ?_, ?_, ?_, ?_, ?_, ?_, ?_, ?_, ?_, ?_, ?_, ?_, ?_, ?_, trivial⟩
                        · intro act wx KK E hk hK
                          have e7 := E 7 _ rfl
                          go_simp
                          exact hK _ (Below.refl _ _)
                        · intro act wx KK E hk hK
                          have e11 := E 11 _ rfl
                          go_simp
                          exact hK _ (Below.refl _ _)
                        · intro act wx KK E hk hK
                          have e86 := E 86 _ rfl
                          have e87 := E 87 _ rfl
                          go_simp
                          exact hK _ (Below.refl _ _)
                        · intro act wx KK E hk hK
                          have e88 := E 88 _ rfl
                          obtain ⟨hc, hf⟩ := hk.cells rfl
                          try simp only [World.size_drew] at hc hf
                          go_simp
                          exact hK _ (Below.refl _ _)
                        · intro act wx KK E hk hK
                          have e89 := E 89 _ rfl
                          go_simp
                          try go_bits
                          first | exact hK _ (Below.refl _ _) | (go_step; exact hK _ (Below.refl _ _)) | (go_step; go_step; exact hK _ (Below.refl _ _))
                        · intro act wx KK E hk hK
                          have e90 := E 90 _ rfl
                          go_simp
                          exact hK _ (Below.refl _ _)
                        · intro act wx KK E hk hK
                          have e8 := E 8 _ rfl
                          go_simp
                          exact hK _ (Below.refl _ _)
                        · intro act wx KK E hk hK
                          have e12 := E 12 _ rfl
                          go_simp
                          exact hK _ (Below.refl _ _)
                        · intro act wx KK E hk hK
                          have e92 := E 92 _ rfl
                          have e93 := E 93 _ rfl
                          go_simp
                          exact hK _ (Below.refl _ _)
                        · intro act wx KK E hk hK
                          have e94 := E 94 _ rfl
                          obtain ⟨hc, hf⟩ := hk.cells rfl
                          try simp only [World.size_drew] at hc hf
                          go_simp
                          exact hK _ (Below.refl _ _)
                        · intro act wx KK E hk hK
                          have e95 := E 95 _ rfl
                          go_simp
                          try go_bits
                          first | exact hK _ (Below.refl _ _) | (go_step; exact hK _ (Below.refl _ _)) | (go_step; go_step; exact hK _ (Below.refl _ _))
                        · intro act wx KK E hk hK
                          have e91 := E 91 _ rfl
                          have e96 := E 96 _ rfl
                          go_simp
                          exact hK _ (Below.refl _ _)
                        · intro act wx KK E hk hK
                          have e97 := E 97 _ rfl
                          go_simp
                          exact hK _ (Below.refl _ _)
                        · trivial
                        · trivial
                        · trivial
                        · trivial
                        · trivial
                        · trivial
                        · trivial
                        · trivial
                        · trivial
                        · trivial
                        · trivial
                        · trivial
                        · trivial
                        · trivial
                        · trivial
                        · trivial
                        · trivial
                        · trivial
                        · trivial
                        · trivial
                        · trivial
                        · trivial
                        · trivial
                        · trivial
                        · trivial
                        · trivial
                        · trivial
                        · trivial
                        · trivial
                        · intro act wx KK E hk hK
                          have e98 := E 98 _ rfl
                          go_simp
                          exact hK _ (Below.refl _ _)
                      intro β20 w20 F
                      simp only [R.finAct, R.Item.value, Act.put, List.getElem?_toArray, List.getElem?_cons_zero, List.getElem?_cons_succ, List.size_toArray, List.length_cons, List.length_nil, Nat.reduceAdd, List.setIfInBounds_toArray, List.set_cons_zero, List.set_cons_succ]
                      have hB20 := stepB (w := w) (by go_grown) (F.kept.below rfl)
                      obtain ⟨hc20, hf20⟩ := F.kept.cells rfl
                      try simp only [World.size_drew] at hc20 hf20
                      have hz20 := F.kept.size
                      try simp only [World.size_alloc, World.size_setCell, World.size_drew] at hz20
                      try have ha20 : w.heap.size < w20.heap.size := (by omega)
                      try have hi20 : w.heap.size + 1 < w20.heap.size := (by omega)
                      try have hj20 : w.heap.size + 1 + 1 < w20.heap.size := (by omega)
                      try have hk20 : w.heap.size + 1 + 1 + 1 < w20.heap.size := (by omega)
                      try have hl20 : w.heap.size + 1 + 1 + 1 + 1 < w20.heap.size := (by omega)
                      clear F
                      go_wp2
                      exact ⟨⟨m + 1, by omega, by go_num, HBK2.out.next hc20 hz20, hB20, HPS.out.succ HM2.out.2 (fun _ _ h => absurd h (by omega))⟩, by simp [intOf]; omega⟩
                  · obtain rfl : m = L.length := by omega
                    go_wp2
                    exact ⟨⟨i + 1, by omega, by go_num, HBK2.out, hBi2, HS.out.succ HM.out.2 HNB.out HPS.out⟩, by simp [intOf]; omega⟩
              · clear hb
                obtain ⟨wi, hwi⟩ : ∃ wi, wi = wr := ⟨_, rfl⟩
                subst hwi
                go_wp2
                go_loopw [12] (fun m wr => ∃ k : Nat, k ≤ L.length ∧ m = .int .i64 k ∧ Kc wo wr ∧ Below w.heap.size w wr ∧ Pairs L P Q k) (fun m _ => L.length - (intOf m).toNat)
                case atStart => exact ⟨0, by omega, rfl, HBK.out, hBi, Pairs.zero L P Q⟩
                case round =>
                  obtain ⟨m, hm', rfl, hBk2, hBi2, hP⟩ := hrel
                  have HBK2 := Lib.hid hBk2
                  have HPS := Lib.hid hP
                  clear hP
                  by_cases hlm : m < L.length
                  · have hlm1 : (m : Int) < L.length := by omega
                    obtain ⟨U, V, hmem2, hget2, cU, cV⟩ := HCL.out m hlm
                    have d0 := (hBk2.2 gp i hgp).trans HCP.out
                    have d1 := (hBk2.2 gp m hgp).trans cU
                    have d2 := (hBk2.2 gq m hgq).trans cV
                    have d3 := (hBk2.2 gq i hgq).trans HCQ.out
                    have HM2 := Lib.hid (And.intro hmem2 hget2)
                    have lgp : gp < wr.heap.size := by have := hBk2.1; omega
                    have lgq : gq < wr.heap.size := by have := hBk2.1; omega
                    obtain ⟨b1, b2, b3, b4⟩ := HBD.out P Q HM.out.1
                    obtain ⟨b5, b6, b7, b8⟩ := HBD.out U V hmem2
                    clear cU cV hmem2 hget2 c0 c1
                    go_wp2
                    have hPw : ¬ P ≤ 0 := by omega
                    refine R.region_grow [.val (.slice (some ⟨gp, 0, none⟩) L.length cp), .val (.int .i64 i), .val (.pointer (some ⟨gp, i, none⟩)), .val (.int .i64 P), .val (.bool false), .val (.bool false), .skip, .skip, .skip, .skip, .skip, .val (.bool false), .val (.bool false), .skip, .skip, .skip, .skip, .skip, .skip, .skip, .skip, .skip, .skip, .skip, .skip, .skip, .skip, .skip, .skip, .skip, .skip, .skip, .skip, .skip, .skip, .skip, .skip, .skip, .skip, .skip, .skip, .skip, .val (.bool false)] (by kernel_rfl) (by kernel_rfl) (by kernel_rfl) (by kernel_rfl) ?_ ?_
                    · refine ⟨?_, ?_, ?_, ?_, ?_, ?_, ?_, ?_, ?_, ?_, ?_, ?_, ?_, ?_, ?_, ?_, ?_, ?_, ?_, ?_, ?_, ?_, ?_, ?_, ?_, ?_, ?_, ?_, ?_, ?_, ?_, ?_, ?_, ?_, ?_, ?_, ?_, ?_, ?_, ?_, ?_, ?_, ?_, trivial⟩
                      · intro act wx KK E hk hK
                        have e7 := E 7 _ rfl
                        go_simp
                        exact hK _ (Below.refl _ _)
                      · intro act wx KK E hk hK
                        have e11 := E 11 _ rfl
                        go_simp
                        exact hK _ (Below.refl _ _)
                      · intro act wx KK E hk hK
                        have e86 := E 86 _ rfl
                        have e87 := E 87 _ rfl
                        go_simp
                        exact hK _ (Below.refl _ _)
                      · intro act wx KK E hk hK
                        have e88 := E 88 _ rfl
                        obtain ⟨hc, hf⟩ := hk.cells rfl
                        try simp only [World.size_drew] at hc hf
                        go_simp
                        exact hK _ (Below.refl _ _)
                      · intro act wx KK E hk hK
                        have e89 := E 89 _ rfl
                        go_simp
                        try go_bits
                        first | exact hK _ (Below.refl _ _) | (go_step; exact hK _ (Below.refl _ _)) | (go_step; go_step; exact hK _ (Below.refl _ _))
                      · intro act wx KK E hk hK
                        have e90 := E 90 _ rfl
                        go_simp
                        exact hK _ (Below.refl _ _)
                      · trivial
                      · trivial
                      · trivial
                      · trivial
                      · trivial
                      · intro act wx KK E hk hK
                        have e91 := E 91 _ rfl
                        go_simp
                        exact hK _ (Below.refl _ _)
                      · intro act wx KK E hk hK
                        have e97 := E 97 _ rfl
                        go_simp
                        exact hK _ (Below.refl _ _)
                      · trivial
                      · trivial
                      · trivial
                      · trivial
                      · trivial
                      · trivial
                      · trivial
                      · trivial
                      · trivial
                      · trivial
                      · trivial
                      · trivial
                      · trivial
                      · trivial
                      · trivial
                      · trivial
                      · trivial
                      · trivial
                      · trivial
                      · trivial
                      · trivial
                      · trivial
                      · trivial
                      · trivial
                      · trivial
                      · trivial
                      · trivial
                      · trivial
                      · trivial
                      · intro act wx KK E hk hK
                        have e98 := E 98 _ rfl
                        go_simp
                        exact hK _ (Below.refl _ _)
                    intro β20 w20 F
                    simp only [R.finAct, R.Item.value, Act.put, List.getElem?_toArray, List.getElem?_cons_zero, List.getElem?_cons_succ, List.size_toArray, List.length_cons, List.length_nil, Nat.reduceAdd, List.setIfInBounds_toArray, List.set_cons_zero, List.set_cons_succ]
                    have hB20 := stepB (w := w) (by go_grown) (F.kept.below rfl)
                    obtain ⟨hc20, hf20⟩ := F.kept.cells rfl
                    try simp only [World.size_drew] at hc20 hf20
                    have hz20 := F.kept.size
                    try simp only [World.size_alloc, World.size_setCell, World.size_drew] at hz20
                    try have ha20 : w.heap.size < w20.heap.size := (by omega)
                    try have hi20 : w.heap.size + 1 < w20.heap.size := (by omega)
                    try have hj20 : w.heap.size + 1 + 1 < w20.heap.size := (by omega)
                    try have hk20 : w.heap.size + 1 + 1 + 1 < w20.heap.size := (by omega)
                    try have hl20 : w.heap.size + 1 + 1 + 1 + 1 < w20.heap.size := (by omega)
                    clear F
                    go_wp2
                    exact ⟨⟨m + 1, by omega, by go_num, HBK2.out.next hc20 hz20, hB20, HPS.out.succ HM2.out.2 (fun _ h => absurd h hPw)⟩, by simp [intOf]; omega⟩
                  · obtain rfl : m = L.length := by omega
                    go_wp2
                    exact ⟨⟨i + 1, by omega, by go_num, HBK2.out, hBi2, HS.out.succ HM.out.2 HNB.out HPS.out⟩, by simp [intOf]; omega⟩
          · obtain rfl : i = L.length := by omega
            have HX := Lib.hid (HS.out.done hz)
            go_wp2
            go_returns
            exact ⟨BoolIff.yes HX.out, hBi⟩
end Go.Proofs.YtfcjdmpfoogljaaDoor
