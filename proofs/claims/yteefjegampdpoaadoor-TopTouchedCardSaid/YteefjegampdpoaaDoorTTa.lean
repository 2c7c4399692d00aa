/-
  Part of a claim: the reckoner and contracts.
-/
import Derived.WalkKit
import Derived.Below
import Derived.Orders
import Derived.OrdersIn
import Derived.Scope
import Derived.Laws.Cells
import Derived.Laws.CopyRow
import Derived.Laws.MakeOwn
import Derived.Maps.AppendAt
import Derived.RangeFuncIn
import Derived.RangeFuncRecord
import Derived.RangeFuncLeaves
import Derived.LoopNIn
import Derived.TacticsIn
import Derived.IntWalk
import Derived.ProofKit
import Derived.OpenShut
import Derived.Carry
import Derived.Lib.SmallJoins
import Derived.Lib.LaidTab
import Derived.LaidMore
import Derived.Deep.DeepHandedRow
import Derived.LoopN
import Derived.RegionTactic
import Derived.ChangeAlike
import Derived.Handy
import Derived.Outline
import Derived.Lib.Hide
import Derived.Deep.RegionWith
import Derived.Shelf.Strconv.Itoa0
import Derived.Shelf.Bits.Mul64
import Derived.BigQuiet
import Derived.Deep.QuietTactic
import Derived.Lib.BitFns
import Derived.Lib.ItoaNum
import Derived.Deep.LoopGhost
import Derived.Laws.Bits64b
import Derived.Lib.Mul64
import Derived.Laws.IdiomStrings
import Derived.Test.YteefjegampdpoaaDoorRows
import Derived.Test.YteefjegampdpoaaDoorCards
import Derived.Test.YteefjegampdpoaaDoorProg
import Derived.Test.YteefjegampdpoaaDoorTie
set_option linter.unusedVariables false
set_option linter.unusedSimpArgs false
set_option maxRecDepth 100000
section
namespace Go.Proofs.YteefjegampdpoaaDoor.E2
open Go Go.RowKit
inductive V where
  | raw (v : Value)
  | any (k : Nat)
  | ptr (b off : Nat)
  | slo (b len : Nat)
  | yld (b : Nat)
  | fn (f : Fn) (first cap : List V)
  | agg (l : List V)
  | tup (l : List V)
  | lit (b : Bool)
structure Loc where
  n : Nat
  pre : List Value
  sp : List Value
  cap : Nat
  nil : Bool
def Loc.row (l : Loc) (xs : List Value) : List Value := l.pre ++ xs ++ l.sp
def Loc.at (n : Nat) : Loc := ⟨n, [], [], 0, false⟩
structure Ren where
  blk : Nat → Loc
  unk : Nat → Value
def slcOf (l : Loc) (len : Nat) : Value := if len = 0 ∧ l.nil = true then .slice none 0 0 else .slice (some ⟨l.n, l.pre.length, none⟩) len l.cap
mutual
def V.conc (ρ : Ren) : V → Value
  | .raw v => v
  | .any k => ρ.unk k
  | .ptr b o => .pointer (some ⟨(ρ.blk b).n, (ρ.blk b).pre.length + o, none⟩)
  | .slo b l => slcOf (ρ.blk b) l
  | .yld b => .func (.yield (ρ.blk b).n) #[] #[]
  | .fn f x y => .func f (concs ρ x).toArray (concs ρ y).toArray
  | .agg l => .agg (concs ρ l).toArray
  | .tup l => .tuple (concs ρ l).toArray
  | .lit b => .bool b
def concs (ρ : Ren) : List V → List Value
  | [] => []
  | x :: l => x.conc ρ :: concs ρ l
end
mutual
def V.under (n : Nat) : V → Bool
  | .raw _ => true
  | .any _ => false
  | .ptr b _ => decide (b < n)
  | .slo b _ => decide (b < n)
  | .yld b => decide (b < n)
  | .fn _ x y => unders n x && unders n y
  | .agg l => unders n l
  | .tup l => unders n l
  | .lit _ => true
def unders (n : Nat) : List V → Bool
  | [] => true
  | x :: l => x.under n && unders n l
end
def V.slotOk (n : Nat) : V → Bool
  | .any _ => true
  | v => v.under n
inductive Ex where
  | normal
  | exit (id : Nat)
  | ret
def Ex.to : Ex → Exit
  | .normal => .normal
  | .exit id => .exit id
  | .ret => .ret
def Ex.code : Ex → Option Code
  | .normal => none
  | .exit id => some (.exit id)
  | .ret => some .ret
inductive Own where
  | ro
  | rw
  | row (size : Nat)
inductive RSt where
  | ready
  | busy
  | done (e : Ex)
structure Rec where
  t : List V
  f : Nat
  i : Nat
  st : RSt
inductive Blk where
  | cells (cs : List V) (ty : TypeId) (own : Own)
  | rcd (r : Rec)
abbrev Heap := List (Option Blk)
def Blk.wr : Blk → Bool
  | .cells _ _ .ro => false
  | _ => true
def Blk.under (n : Nat) : Blk → Bool
  | .cells cs _ _ => unders n cs
  | .rcd r => r.t.all (·.slotOk n)
def rangesIn : Code → List (Array Tmp × Code × Code)
  | .rangeFunc _ ps x y => (ps, x, y) :: rangesIn y
  | .loop x => rangesIn x
  | .seq x y => rangesIn x ++ rangesIn y
  | .cond _ x y => rangesIn x ++ rangesIn y
  | .block _ x => rangesIn x
  | .scope x => rangesIn x
  | _ => []
def rangeAt (P : Program) (f i : Nat) : Array Tmp × Code × Code := match P.funcs[f]? with
  | some fn => match fn.body with
    | some b => (rangesIn b).getD i (#[], .skip, .skip)
    | none => (#[], .skip, .skip)
  | none => (#[], .skip, .skip)
structure Cfg where
  P : Program
  /-- The blocks that lie in every heap: those of package variables. -/
  H0 : Heap
  L : Nat
  /-- Package variables that have names. -/
  G : List (Nat × Nat)
  /-- Sums stay bare, and their range is owed. -/
  bare : Bool
  /-- Functions that can be entered. -/
  fns : FuncId → Bool
theorem concs_map (ρ : Ren) : ∀ l, concs ρ l = l.map (·.conc ρ)
  | [] => rfl
  | x :: l => by simp [concs, concs_map ρ l]
theorem concs_append (ρ : Ren) (l m : List V) : concs ρ (l ++ m) = concs ρ l ++ concs ρ m := by simp [concs_map]
theorem concs_length (ρ : Ren) (l : List V) : (concs ρ l).length = l.length := by simp [concs_map]
theorem concs_set (ρ : Ren) (l : List V) (i : Nat) (v : V) : concs ρ (l.set i v) = (concs ρ l).set i (v.conc ρ) := by simp [concs_map, List.map_set]
theorem concs_get (ρ : Ren) (l : List V) (i : Nat) : (concs ρ l)[i]? = (l[i]?).map (·.conc ρ) := by simp [concs_map]
theorem concs_raw (ρ : Ren) (l : List Value) : concs ρ (l.map .raw) = l := by
  rw [concs_map, List.map_map]
  conv => rhs; rw [← List.map_id l]
  rfl
theorem unders_iff (n : Nat) : ∀ l, unders n l = true ↔ ∀ x ∈ l, x.under n = true
  | [] => by simp [unders]
  | x :: l => by simp [unders, unders_iff n l]
theorem unders_append {n : Nat} {l m : List V} (h : unders n l = true) (k : unders n m = true) : unders n (l ++ m) = true := by
  rw [unders_iff] at *
  intro x hx
  rcases List.mem_append.1 hx with h1 | h1
  · exact h x h1
  · exact k x h1
theorem unders_raw (n : Nat) (l : List Value) : unders n (l.map .raw) = true := by
  rw [unders_iff]
  intro x hx
  obtain ⟨v, _, rfl⟩ := List.mem_map.1 hx
  rfl
theorem unders_sub {n : Nat} {l m : List V} (h : unders n l = true) (hs : ∀ x ∈ m, x ∈ l) : unders n m = true := by
  rw [unders_iff] at *
  exact fun x hx => h x (hs x hx)
mutual
theorem V.conc_agree {ρ ρ' : Ren} {n : Nat} (h : ∀ i, i < n → ρ'.blk i = ρ.blk i) : ∀ x : V, x.under n = true → x.conc ρ' = x.conc ρ
  | .raw v, _ => rfl
  | .any k, h => by simp [V.under] at h
  | .ptr b o, hx => by simp only [V.under, decide_eq_true_eq] at hx; simp only [V.conc, h b hx]
  | .slo b l, hx => by simp only [V.under, decide_eq_true_eq] at hx; simp only [V.conc, h b hx]
  | .yld b, hx => by simp only [V.under, decide_eq_true_eq] at hx; simp only [V.conc, h b hx]
  | .fn f x y, hx => by
    simp only [V.under, Bool.and_eq_true] at hx
    simp only [V.conc, concs_agree h x hx.1, concs_agree h y hx.2]
  | .agg l, hx => by simp only [V.under] at hx; simp only [V.conc, concs_agree h l hx]
  | .tup l, hx => by simp only [V.under] at hx; simp only [V.conc, concs_agree h l hx]
  | .lit b, _ => rfl
theorem concs_agree {ρ ρ' : Ren} {n : Nat} (h : ∀ i, i < n → ρ'.blk i = ρ.blk i) : ∀ l : List V, unders n l = true → concs ρ' l = concs ρ l
  | [], _ => rfl
  | x :: l, hx => by
    simp only [unders, Bool.and_eq_true] at hx
    simp only [concs, V.conc_agree h x hx.1, concs_agree h l hx.2]
end
mutual
theorem V.under_mono {n m : Nat} (h : n ≤ m) : ∀ x : V, x.under n = true → x.under m = true
  | .raw v, _ => rfl
  | .any k, h => by simp [V.under] at h
  | .ptr b o, hx => by simp only [V.under, decide_eq_true_eq] at *; omega
  | .slo b l, hx => by simp only [V.under, decide_eq_true_eq] at *; omega
  | .yld b, hx => by simp only [V.under, decide_eq_true_eq] at *; omega
  | .fn f x y, hx => by
    simp only [V.under, Bool.and_eq_true] at *
    exact ⟨unders_mono h x hx.1, unders_mono h y hx.2⟩
  | .agg l, hx => by simp only [V.under] at *; exact unders_mono h l hx
  | .tup l, hx => by simp only [V.under] at *; exact unders_mono h l hx
  | .lit b, _ => rfl
theorem unders_mono {n m : Nat} (h : n ≤ m) : ∀ l : List V, unders n l = true → unders m l = true
  | [], _ => rfl
  | x :: l, hx => by
    simp only [unders, Bool.and_eq_true] at *
    exact ⟨V.under_mono h x hx.1, unders_mono h l hx.2⟩
end
theorem V.slotOk_mono {n m : Nat} (h : n ≤ m) (x : V) (hx : x.slotOk n = true) : x.slotOk m = true := by
  cases x <;> first | rfl | exact V.under_mono h _ hx
theorem V.slot_agree {ρ ρ' : Ren} {n : Nat} (h : ∀ i, i < n → ρ'.blk i = ρ.blk i) (hu : ρ'.unk = ρ.unk) (x : V) (hx : x.slotOk n = true) : x.conc ρ' = x.conc ρ := by
  cases x with
  | any k => simp only [V.conc, hu]
  | _ => exact V.conc_agree h _ hx
theorem V.slot_of_under {n : Nat} (x : V) (hx : x.under n = true) : x.slotOk n = true := by
  cases x <;> first | rfl | exact hx
theorem slots_agree {ρ ρ' : Ren} {n : Nat} (h : ∀ i, i < n → ρ'.blk i = ρ.blk i) (u : Nat → Value) {l : List V} (hx : l.all (·.slotOk n) = true) : concs ⟨ρ'.blk, u⟩ l = concs ⟨ρ.blk, u⟩ l := by
  rw [concs_map, concs_map]
  exact List.map_congr_left fun x hm => V.slot_agree (ρ := ⟨ρ.blk, u⟩) (ρ' := ⟨ρ'.blk, u⟩) h rfl x (List.all_eq_true.1 hx x hm)
theorem Blk.under_mono {n m : Nat} (h : n ≤ m) (B : Blk) (hB : B.under n = true) : B.under m = true := by
  cases B with
  | cells cs ty own => exact unders_mono h _ hB
  | rcd r =>
    simp only [Blk.under, List.all_eq_true] at hB ⊢
    exact fun x hx => V.slotOk_mono h x (hB x hx)
def cellsV : V → Option (List V)
  | .raw v => some (v.cells.toList.map .raw)
  | .any _ => none
  | .agg l => some l
  | .tup _ => none
  | x => some [x]
def raws : List V → Option (List Value)
  | [] => some []
  | .raw v :: l => (raws l).map (v :: ·)
  | _ :: _ => none
def mkAgg (l : List V) : V := match raws l with
  | some vs => .raw (.agg vs.toArray)
  | none => .agg l
def mkTup (l : List V) : V := match raws l with
  | some vs => .raw (.tuple vs.toArray)
  | none => .tup l
theorem raws_concs (ρ : Ren) : ∀ (l : List V) (vs : List Value), raws l = some vs → concs ρ l = vs
  | [], vs, h => by simp only [raws, Option.some.injEq] at h; subst h; rfl
  | x :: l, vs, h => by
    cases x with
    | raw v =>
      simp only [raws, Option.map_eq_some_iff] at h
      obtain ⟨us, hu, rfl⟩ := h
      simp [concs, V.conc, raws_concs ρ l us hu]
    | _ => simp [raws] at h
theorem mkAgg_conc (ρ : Ren) (l : List V) : (mkAgg l).conc ρ = .agg (concs ρ l).toArray := by
  unfold mkAgg
  split
  · rename_i vs h; rw [raws_concs ρ l vs h]; rfl
  · rfl
theorem mkAgg_under {n : Nat} {l : List V} (h : unders n l = true) : (mkAgg l).under n = true := by
  unfold mkAgg
  split
  · rfl
  · exact h
theorem mkTup_conc (ρ : Ren) (l : List V) : (mkTup l).conc ρ = .tuple (concs ρ l).toArray := by
  unfold mkTup
  split
  · rename_i vs h; rw [raws_concs ρ l vs h]; rfl
  · rfl
theorem mkTup_under {n : Nat} {l : List V} (h : unders n l = true) : (mkTup l).under n = true := by
  unfold mkTup
  split
  · rfl
  · exact h
theorem cellsV_conc (ρ : Ren) {x : V} {xs : List V} (h : cellsV x = some xs) : (x.conc ρ).cells.toList = concs ρ xs := by
  cases x <;> simp only [cellsV, Option.some.injEq, reduceCtorEq] at h <;> subst h
  · rw [concs_raw]; rfl
  case slo b l => simp only [V.conc, slcOf, concs]; split <;> rfl
  all_goals rfl
theorem cellsV_under {n : Nat} {x : V} {xs : List V} (h : cellsV x = some xs) (hx : x.under n = true) : unders n xs = true := by
  cases x <;> simp only [cellsV, Option.some.injEq, reduceCtorEq] at h <;> subst h
  · exact unders_raw n _
  all_goals first | exact hx | (simp only [unders, Bool.and_true]; exact hx)
def RSt.state : RSt → LoopState
  | .ready => .ready
  | .busy => .busy
  | .done _ => .done
def RSt.pend : RSt → Option Code
  | .done e => e.code
  | _ => none
def Rec.loop (P : Program) (ρ : Ren) (r : Rec) (fn : FuncId) (u : Nat → Value) (D : Nat) : Loop :=
  { state := r.st.state, pending := r.st.pend, fn, tmps := (concs ⟨ρ.blk, u⟩ r.t).toArray, params := (rangeAt P r.f r.i).1, assign := (rangeAt P r.f r.i).2.1, body := (rangeAt P r.f r.i).2.2, defers := D }
structure CellsOk (ρ : Ren) (l : Loc) (w : World) (cs : List V) (ty : TypeId) (own : Own) : Prop where
  nil : l.nil = true → cs = []
  row : l.nil = false → ∃ fr, w.heap[l.n]? = some (.cells (l.row (concs ρ cs)).toArray ty fr) ∧ (own ≠ .ro → fr = (0, 0))
  room : ∀ sz, own = .row sz → l.pre = [] ∧ (l.nil = false → cs.length + l.sp.length = l.cap * sz ∧ l.cap ≤ maxLen)
def BlkOk (P : Program) (ρ : Ren) (l : Loc) (w : World) : Blk → Prop
  | .cells cs ty own => CellsOk ρ l w cs ty own
  | .rcd r => l.nil = false ∧ ∃ fn u D, w.heap[l.n]? = some (.loop (r.loop P ρ fn u D))
def lw (ρ : Ren) (h : Heap) (i : Nat) : Prop := ∃ B, h[i]? = some (some B) ∧ B.wr = true ∧ (ρ.blk i).nil = false
def lv (ρ : Ren) (h : Heap) (i : Nat) : Prop := ∃ B, h[i]? = some (some B) ∧ (ρ.blk i).nil = false
structure RelH (c : Cfg) (ρ : Ren) (h : Heap) (w : World) : Prop where
  cell : ∀ (i : Nat) (B : Blk), h[i]? = some (some B) → BlkOk c.P ρ (ρ.blk i) w B
  inj : ∀ i j, lw ρ h i → lv ρ h j → (ρ.blk i).n = (ρ.blk j).n → i = j
  sco : ∀ (i : Nat) (B : Blk), h[i]? = some (some B) → B.under h.length = true
  glob : ∀ p ∈ c.G, (ρ.blk p.2).n = p.1 ∧ (ρ.blk p.2).pre = [] ∧ p.2 < h.length
  big : c.L ≤ h.length
  base : ∀ i, i < c.L → h[i]? = c.H0[i]?
structure RelT (ρ : Ren) (n : Nat) (t : List V) (a : Act) : Prop where
  tmps : a.tmps = (concs ρ t).toArray
  sco : ∀ x ∈ t, x.slotOk n = true
structure Fr (lim n : Nat) (ρ : Ren) (h : Heap) (w : World) (ρ' : Ren) (h' : Heap) (w' : World) : Prop where
  os : w'.os = w.os
  tape : w'.tape = w.tape
  output : w'.output = w.output
  size : w.heap.size ≤ w'.heap.size
  blk : ∀ k, k < w.heap.size → (∀ i, lim ≤ i → lw ρ h i → (ρ.blk i).n ≠ k) → w'.heap[k]? = w.heap[k]?
  ren : ∀ i, i < n → ρ'.blk i = ρ.blk i
  len : n ≤ h'.length
  fresh : ∀ i, n ≤ i → lw ρ' h' i → w.heap.size ≤ (ρ'.blk i).n ∨ ∃ j, lim ≤ j ∧ lw ρ h j ∧ (ρ'.blk i).n = (ρ.blk j).n
  dead : ∀ i, i < n → lw ρ' h' i → lw ρ h i
theorem lt_len {h : Heap} {i : Nat} {x : Option Blk} (hi : h[i]? = some x) : i < h.length := by
  rcases Nat.lt_or_ge i h.length with k | k
  · exact k
  · rw [List.getElem?_eq_none k] at hi; cases hi
theorem lw.lt {ρ : Ren} {h : Heap} {i : Nat} (hi : lw ρ h i) : i < h.length := lt_len hi.choose_spec.1
theorem lv.lt {ρ : Ren} {h : Heap} {i : Nat} (hi : lv ρ h i) : i < h.length := lt_len hi.choose_spec.1
theorem lw.lv {ρ : Ren} {h : Heap} {i : Nat} (hi : lw ρ h i) : lv ρ h i := let ⟨B, h1, _, h3⟩ := hi; ⟨B, h1, h3⟩
theorem BlkOk.lt {P : Program} {ρ : Ren} {l : Loc} {w : World} {B : Blk} (h : BlkOk P ρ l w B) (hn : l.nil = false) : l.n < w.heap.size := by
  have key : ∀ {x : Obj}, w.heap[l.n]? = some x → l.n < w.heap.size := fun hx => (Array.getElem?_eq_some_iff.1 hx).1
  cases B with
  | cells cs ty own => obtain ⟨fr, h1, _⟩ := h.row hn; exact key h1
  | rcd r => obtain ⟨_, fn, u, D, h1⟩ := h; exact key h1
theorem RelH.lt {c : Cfg} {ρ : Ren} {h : Heap} {w : World} (RH : RelH c ρ h w) {i : Nat} (hi : lv ρ h i) : (ρ.blk i).n < w.heap.size :=
  let ⟨B, h1, h2⟩ := hi; (RH.cell i B h1).lt h2
theorem BlkOk.move {P : Program} {ρ ρ' : Ren} {l : Loc} {w w' : World} {B : Blk} {n : Nat} (h : BlkOk P ρ l w B) (hu : B.under n = true) (hag : ∀ i, i < n → ρ'.blk i = ρ.blk i) (hw : l.nil = false → w'.heap[l.n]? = w.heap[l.n]?) : BlkOk P ρ' l w' B := by
  cases B with
  | cells cs ty own =>
    refine ⟨h.nil, fun hn => ?_, h.room⟩
    obtain ⟨fr, h1, h2⟩ := h.row hn
    exact ⟨fr, by rw [hw hn, h1, concs_agree hag _ hu], h2⟩
  | rcd r =>
    obtain ⟨h0, fn, u, D, h1⟩ := h
    refine ⟨h0, fn, u, D, ?_⟩
    rw [hw h0, h1]
    simp only [Rec.loop]
    rw [slots_agree hag u hu]
theorem Fr.refl (lim : Nat) {n : Nat} (ρ : Ren) (h : Heap) (w : World) (hl : lim ≤ n) (hn : n ≤ h.length) : Fr lim n ρ h w ρ h w :=
  ⟨rfl, rfl, rfl, Nat.le_refl _, fun _ _ _ => rfl, fun _ _ => rfl, hn, fun i h1 h2 => .inr ⟨i, by omega, h2, rfl⟩, fun _ _ h => h⟩
theorem Fr.trans {lim n : Nat} {ρ ρ1 ρ2 : Ren} {h h1 h2 : Heap} {w w1 w2 : World} (a : Fr lim n ρ h w ρ1 h1 w1) (b : Fr lim n ρ1 h1 w1 ρ2 h2 w2) : Fr lim n ρ h w ρ2 h2 w2 := by
  have back : ∀ i, lim ≤ i → lw ρ1 h1 i → w.heap.size ≤ (ρ1.blk i).n ∨ ∃ j, lim ≤ j ∧ lw ρ h j ∧ (ρ1.blk i).n = (ρ.blk j).n := fun i hl hi => by
    rcases Nat.lt_or_ge i n with hlt | hge
    · exact .inr ⟨i, hl, a.dead i hlt hi, by rw [a.ren i hlt]⟩
    · exact a.fresh i hge hi
  refine ⟨b.os.trans a.os, b.tape.trans a.tape, b.output.trans a.output, Nat.le_trans a.size b.size, fun k hk hn => ?_, fun i hi => (b.ren i hi).trans (a.ren i hi), b.len, fun i hi hi2 => ?_, fun i hi h2 => a.dead i hi (b.dead i hi h2)⟩
  · refine (b.blk k (Nat.lt_of_lt_of_le hk a.size) fun i hi hi2 => ?_).trans (a.blk k hk hn)
    rcases back i hi hi2 with h3 | ⟨j, h3, h4, h5⟩
    · omega
    · rw [h5]; exact hn j h3 h4
  · rcases b.fresh i hi hi2 with h3 | ⟨j, h3, h4, h5⟩
    · exact .inl (Nat.le_trans a.size h3)
    · rw [h5]; exact back j h3 h4
theorem Fr.mono {lim lim' n : Nat} {ρ ρ' : Ren} {h h' : Heap} {w w' : World} (a : Fr lim' n ρ h w ρ' h' w') (hl : lim ≤ lim') : Fr lim n ρ h w ρ' h' w' :=
  ⟨a.os, a.tape, a.output, a.size, fun k hk hn => a.blk k hk fun i hi hi2 => hn i (by omega) hi2, a.ren, a.len, fun i h1 h2 => (a.fresh i h1 h2).imp_right fun ⟨j, h3, h4⟩ => ⟨j, by omega, h4⟩, a.dead⟩
theorem Fr.fewer {lim n m : Nat} {ρ ρ' : Ren} {h h' : Heap} {w w' : World} (a : Fr lim n ρ h w ρ' h' w') (hm : m ≤ n) (hl : lim ≤ m) : Fr lim m ρ h w ρ' h' w' :=
  ⟨a.os, a.tape, a.output, a.size, a.blk, fun i hi => a.ren i (by omega), Nat.le_trans hm a.len, fun i h1 h2 => by
    rcases Nat.lt_or_ge i n with hlt | hge
    · exact .inr ⟨i, by omega, a.dead i hlt h2, by rw [a.ren i hlt]⟩
    · exact a.fresh i hge h2, fun i hi => a.dead i (by omega)⟩
theorem Fr.unk {lim n : Nat} {ρ ρ' : Ren} {h h' : Heap} {w w' : World} (a : Fr lim n ρ h w ρ' h' w') (u : Nat → Value) : Fr lim n ρ h w ⟨ρ'.blk, u⟩ h' w' :=
  ⟨a.os, a.tape, a.output, a.size, a.blk, a.ren, a.len, a.fresh, a.dead⟩
theorem Fr.unk0 {lim n : Nat} {ρ ρ' : Ren} {h h' : Heap} {w w' : World} {u : Nat → Value} (a : Fr lim n ⟨ρ.blk, u⟩ h w ρ' h' w') : Fr lim n ρ h w ρ' h' w' :=
  ⟨a.os, a.tape, a.output, a.size, a.blk, a.ren, a.len, a.fresh, a.dead⟩
theorem relH_unk {c : Cfg} {ρ : Ren} {h : Heap} {w : World} (RH : RelH c ρ h w) (u : Nat → Value) : RelH c ⟨ρ.blk, u⟩ h w :=
  ⟨fun i B hi => (RH.cell i B hi).move (RH.sco i B hi) (fun _ _ => rfl) (fun _ => rfl), RH.inj, RH.sco, RH.glob, RH.big, RH.base⟩
def Ren.push (ρ : Ren) (n : Nat) (l : Loc) : Ren := ⟨fun i => if i = n then l else ρ.blk i, ρ.unk⟩
theorem push_old {ρ : Ren} {n : Nat} {l : Loc} {i : Nat} (hi : i < n) : (ρ.push n l).blk i = ρ.blk i := by simp only [Ren.push]; rw [if_neg (by omega)]
theorem push_new {ρ : Ren} {n : Nat} {l : Loc} : (ρ.push n l).blk n = l := by simp [Ren.push]
theorem get_push {h : Heap} {X : Option Blk} {i : Nat} {B : Blk} (hi : (h ++ [X])[i]? = some (some B)) : (i < h.length ∧ h[i]? = some (some B)) ∨ (i = h.length ∧ X = some B) := by
  rcases Nat.lt_or_ge i h.length with hlt | hge
  · rw [List.getElem?_append_left hlt] at hi; exact .inl ⟨hlt, hi⟩
  · rw [List.getElem?_append_right hge] at hi
    have e : i = h.length := by
      rcases Nat.lt_or_ge (i - h.length) 1 with h1 | h1
      · omega
      · rw [List.getElem?_eq_none (by simpa using h1)] at hi; cases hi
    subst e
    simp only [Nat.sub_self, List.getElem?_cons_zero, Option.some.injEq] at hi
    exact .inr ⟨rfl, hi⟩
theorem relH_push {c : Cfg} {ρ : Ren} {h : Heap} {w w' : World} (RH : RelH c ρ h w) {B : Blk} {l : Loc} (hu : B.under (h.length + 1) = true) (hB : BlkOk c.P (ρ.push h.length l) l w' B) (hold : ∀ i, lv ρ h i → w'.heap[(ρ.blk i).n]? = w.heap[(ρ.blk i).n]?)
    (hap : l.nil = false → ∀ i, lv ρ h i → (ρ.blk i).n ≠ l.n) : RelH c (ρ.push h.length l) (h ++ [some B]) w' := by
  have hag : ∀ i, i < h.length → (ρ.push h.length l).blk i = ρ.blk i := fun i hi => push_old hi
  have hlen : (h ++ [some B]).length = h.length + 1 := by simp
  have old : ∀ {i : Nat} {C : Blk}, i < h.length → (h ++ [some B])[i]? = some (some C) → h[i]? = some (some C) := fun {i C} hi hx => by rwa [List.getElem?_append_left hi] at hx
  refine ⟨fun i C hi => ?_, fun i j hi hj he => ?_, fun i C hi => ?_, fun p hp => ?_, by rw [hlen]; have := RH.big; omega, fun i hi => by rw [List.getElem?_append_left (by have := RH.big; omega)]; exact RH.base i hi⟩
  · rcases get_push hi with ⟨hlt, h1⟩ | ⟨rfl, h1⟩
    · rw [hag i hlt]
      exact (RH.cell i C h1).move (RH.sco i C h1) hag fun hn => hold i ⟨C, h1, hn⟩
    · cases h1
      rw [push_new]
      exact hB
  · obtain ⟨C, h1, h2, h3⟩ := hi
    obtain ⟨D, k1, k3⟩ := hj
    rcases get_push h1 with ⟨hlt, h1⟩ | ⟨rfl, h1⟩ <;> rcases get_push k1 with ⟨klt, k1⟩ | ⟨rfl, k1⟩
    · rw [hag i hlt] at h3 he
      rw [hag j klt] at k3 he
      exact RH.inj i j ⟨C, h1, h2, h3⟩ ⟨D, k1, k3⟩ he
    · rw [hag i hlt] at h3 he
      rw [push_new] at k3 he
      exact absurd he (hap k3 i ⟨C, h1, h3⟩)
    · rw [hag j klt] at k3 he
      rw [push_new] at h3 he
      exact absurd he.symm (hap h3 j ⟨D, k1, k3⟩)
    · rfl
  · rw [hlen]
    rcases get_push hi with ⟨hlt, h1⟩ | ⟨rfl, h1⟩
    · exact Blk.under_mono (by omega) _ (RH.sco i C h1)
    · cases h1; exact hu
  · obtain ⟨h1, h2, h3⟩ := RH.glob p hp
    exact ⟨by rw [hag _ h3, h1], by rw [hag _ h3, h2], by rw [hlen]; omega⟩
theorem fr_push {lim : Nat} {ρ : Ren} {h : Heap} {w w' : World} {B : Option Blk} {l : Loc} (hl : lim ≤ h.length) (os : w'.os = w.os) (tp : w'.tape = w.tape) (ou : w'.output = w.output) (sz : w.heap.size ≤ w'.heap.size)
    (hb : ∀ k, k < w.heap.size → w'.heap[k]? = w.heap[k]?) (hn : l.nil = false → w.heap.size ≤ l.n) : Fr lim h.length ρ h w (ρ.push h.length l) (h ++ [B]) w' := by
  refine ⟨os, tp, ou, sz, fun k hk _ => hb k hk, fun i hi => push_old hi, by simp, fun i h1 h2 => ?_, fun i hi h2 => ?_⟩
  · obtain ⟨C, k1, k2, k3⟩ := h2
    rcases get_push k1 with ⟨hlt, _⟩ | ⟨rfl, _⟩
    · omega
    · rw [push_new] at k3 ⊢
      exact .inl (hn k3)
  · obtain ⟨C, k1, k2, k3⟩ := h2
    rw [push_old hi] at k3
    exact ⟨C, by rwa [List.getElem?_append_left hi] at k1, k2, k3⟩
theorem relH_alloc {c : Cfg} {ρ : Ren} {h : Heap} {w : World} (RH : RelH c ρ h w) {o : Obj} {B : Blk} {l : Loc} (hln : l.n = w.heap.size) (hu : B.under h.length = true) (hB : BlkOk c.P ρ l (w.alloc o) B) : RelH c (ρ.push h.length l) (h ++ [some B]) (w.alloc o) := by
  refine relH_push RH (Blk.under_mono (by omega) _ hu) ?_ (fun i hi => Below.heap_alloc _ _ _ (RH.lt hi)) (fun _ i hi e => ?_)
  · exact hB.move hu (fun i hi => push_old hi) (fun _ => rfl)
  · have := RH.lt hi; omega
theorem fr_alloc {lim : Nat} {ρ : Ren} {h : Heap} {w : World} {o : Obj} {B : Option Blk} {l : Loc} (hl : lim ≤ h.length) (hln : l.n = w.heap.size) : Fr lim h.length ρ h w (ρ.push h.length l) (h ++ [B]) (w.alloc o) :=
  fr_push hl rfl rfl rfl (by simp) (fun k hk => Below.heap_alloc _ _ _ hk) (fun _ => by omega)
theorem alloc_this (w : World) (o : Obj) : (w.alloc o).heap[w.heap.size]? = some o := Array.getElem?_push_size
theorem cellsOk_alloc {ρ : Ren} {w : World} {xs : List V} {ty : TypeId} : CellsOk ρ (Loc.at w.heap.size) (w.alloc (.cells (concs ρ xs).toArray ty)) xs ty .rw :=
  ⟨fun h => (by cases h), fun _ => ⟨(0, 0), (by rw [show (Loc.at w.heap.size).n = w.heap.size from rfl, alloc_this]; simp [Loc.row, Loc.at]), fun _ => rfl⟩, fun sz h => (by cases h)⟩
end Go.Proofs.YteefjegampdpoaaDoor.E2
end
section
namespace Go.Proofs.YteefjegampdpoaaDoor.E2
open Go Go.RowKit
inductive Ans where
  | br (b : Bool)
  | auto
  | go
  | ret (v : V)
  | reth (v : V) (h : Heap)
  | loop (e : Ex) (t : List V) (h : Heap)
  | olds (l : List (Nat × Nat))
  | val (b : Nat) (v : V)
  | cells (b : Nat) (l : List V)
  | rng (f i : Nat)
def pureRun (P : Program) {α : Type} : Sem α → Option α
  | .pure a => some a
  | .program k => pureRun P (k P)
  | .mark _ k => pureRun P k
  | _ => none
theorem pureRun_run {P : Program} {α : Type} {s : Sem α} {x : α} (h : pureRun P s = some x) (w : World) : s.run P w = .ok x w := by
  induction s with
  | pure a => simp only [pureRun, Option.some.injEq] at h; subst h; rfl
  | program k ih => exact ih P h
  | mark m k ih => exact ih h
  | _ => simp [pureRun] at h
def inR (k : IntKind) (n : Int) : Prop := k.wrap n = n
def opnd (c : Cfg) (t : List V) : Operand → Option V
  | .tmp s => match t[s]? with
    | some (.any _) => none
    | some (.lit b) => some (.raw (.bool b))
    | r => r
  | .const v => some (.raw v)
  | .func f => some (.fn (.func f) [] [])
  | .global g => match c.G.find? (fun p => p.1 == g) with
    | some p => some (.ptr p.2 0)
    | none => none
def rawOf (c : Cfg) (t : List V) (x : Operand) : Value := match opnd c t x with
  | some (.raw v) => v
  | _ => undef
def isRaw (c : Cfg) (t : List V) (x : Operand) : Bool := match opnd c t x with
  | some (.raw _) => true
  | _ => false
def plainOpnds : Op → Option (List Operand)
  | .binOp _ _ x y _ => some [x, y]
  | .unOp _ _ x => some [x]
  | .convert _ _ x => some [x]
  | .field _ x _ => some [x]
  | .index _ x ix => some [x, ix]
  | .extract t _ => some [t]
  | .build _ parts => some (parts.toList.map (·.2))
  | .call ⟨.builtin _, args, _⟩ => some args.toList
  | _ => none
structure Out where
  v : V
  h : Heap
  ans : List Ans
  cons : List Prop
def askB (b : Bool) (ans : List Ans) : Option (Bool × List Ans × List Prop) := match ans with
  | .br q :: a => some (q, a, [b = q])
  | .auto :: a => match b with
    | true => some (true, .auto :: a, [])
    | false => some (false, .auto :: a, [])
  | _ => none
theorem askB_ok {b q : Bool} {ans ans' : List Ans} {cons : List Prop} (h : askB b ans = some (q, ans', cons)) (hc : ∀ p ∈ cons, p) : b = q := by
  unfold askB at h
  split at h
  · simp only [Option.some.injEq, Prod.mk.injEq] at h
    obtain ⟨rfl, _, rfl⟩ := h
    exact hc _ (List.mem_singleton.2 rfl)
  · split at h <;>
    · simp only [Option.some.injEq, Prod.mk.injEq] at h
      exact h.1
  · cases h
def putAt (cs : List V) (off : Nat) (xs : List V) : List V := cs.take off ++ xs ++ cs.drop (off + xs.length)
def bareOp (o : Op) (c : Cfg) (t : List V) : Option (V × List Prop) :=
  if c.bare then
    match o with
    | .binOp b _ x y _ =>
      match opnd c t x, opnd c t y with
      | some (.raw (.int k a)), some (.raw (.int k' d)) =>
        if k = k' then
          match b with
          | .add => some (.raw (.int k (a + d)), [inR k (a + d)])
          | .sub => some (.raw (.int k (a - d)), [inR k (a - d)])
          | .mul => some (.raw (.int k (a * d)), [inR k (a * d)])
          | .quo => some (.raw (.int k (a.tdiv d)), [d ≠ 0, inR k (a.tdiv d)])
          | .rem => some (.raw (.int k (a.tmod d)), [d ≠ 0])
          | _ => none
        else none
      | _, _ => none
    | .unOp .neg _ x =>
      match opnd c t x with
      | some (.raw (.int k a)) => some (.raw (.int k (-a)), [inR k (-a)])
      | _ => none
    | .convert src dst x =>
      match opnd c t x with
      | some (.raw (.int k0 a)) =>
        match pureRun c.P (underlying src), pureRun c.P (underlying dst) with
        | some (.int _), some (.int k) => some (.raw (.int k a), [inR k a])
        | _, _ => none
      | _ => none
    | _ => none
  else none
def loadRow (c : Cfg) (t : TypeId) (cs : List V) (off : Nat) : Option V :=
  match pureRun c.P (isAgg t), pureRun c.P (Go.sizeOf t) with
  | some true, some n => if 0 < n ∧ off + n ≤ cs.length then some (mkAgg ((cs.drop off).take n)) else none
  | some false, _ => cs[off]?
  | _, _ => none
def loadV (c : Cfg) (h : Heap) (t : TypeId) (b off : Nat) : Option V :=
  match h[b]? with
  | some (some (.cells cs _ _)) => loadRow c t cs off
  | _ => none
def oneCells : List V → Bool
  | [] => true
  | .raw (.agg _) :: _ => false
  | .raw (.tuple _) :: _ => false
  | .any _ :: _ => false
  | .agg _ :: _ => false
  | .tup _ :: _ => false
  | _ :: l => oneCells l
def storeRow (c : Cfg) (names : Nat) (t : TypeId) (cs : List V) (off : Nat) (x : V) : Option (List V) :=
  match cellsV x, pureRun c.P (Go.sizeOf t) with
  | some xs, some n => if xs.length = n ∧ 0 < n ∧ off + xs.length ≤ cs.length ∧ oneCells xs = true ∧ unders names xs = true then some (putAt cs off xs) else none
  | _, _ => none
def storeV (c : Cfg) (lim : Nat) (h : Heap) (t : TypeId) (b off : Nat) (x : V) : Option Heap :=
  match h[b]? with
  | some (some (.cells _ _ .ro)) => none
  | some (some (.cells cs T own)) => if lim ≤ b then (storeRow c h.length t cs off x).map fun cs' => h.set b (some (.cells cs' T own)) else none
  | _ => none
def loadA (c : Cfg) (h : Heap) (ty : TypeId) (b off : Nat) (ans : List Ans) : Option (V × List Ans × List Prop) :=
  match ans with
  | .val b' v :: ans' => if b' = b then match h[b]? with
      | some (some (.cells cs _ _)) => some (v, ans', [loadRow c ty cs off = some v])
      | _ => none
    else (loadV c h ty b off).map fun v => (v, ans, [])
  | _ => (loadV c h ty b off).map fun v => (v, ans, [])
def storeA (c : Cfg) (lim : Nat) (h : Heap) (ty : TypeId) (b off : Nat) (x : V) (ans : List Ans) : Option (Heap × List Ans × List Prop) :=
  match ans with
  | .cells b' cs' :: ans' => if b' = b then match h[b]? with
      | some (some (.cells _ _ .ro)) => none
      | some (some (.cells cs T own)) => if lim ≤ b then some (h.set b (some (.cells cs' T own)), ans', [storeRow c h.length ty cs off x = some cs']) else none
      | _ => none
    else (storeV c lim h ty b off x).map fun h' => (h', ans, [])
  | _ => (storeV c lim h ty b off x).map fun h' => (h', ans, [])
def fieldOff (c : Cfg) (s : TypeId) (f : Nat) : Option Nat :=
  match pureRun c.P (underlying s) with
  | some (.struct fields) => match fields[f]? with
    | some fd => match pureRun c.P (Go.sizeOf fd.type) with
      | some n => if n = 0 then none else some fd.offset
      | none => none
    | none => none
  | _ => none
structure CF where
  call : FuncId → List V → Heap → Nat → List Ans → Option Out
  yld : Nat → List V → Heap → Nat → List Ans → Option Out
def opnds (c : Cfg) (t : List V) : List Operand → Option (List V)
  | [] => some []
  | x :: l => match opnd c t x, opnds c t l with
    | some v, some vs => some (v :: vs)
    | _, _ => none
def evGen (c : Cfg) (t : List V) (h : Heap) (ans : List Ans) (o : Oper) : Option Out :=
  match bareOp o.op c t with
  | some (v, cons) => some ⟨v, h, ans, cons⟩
  | none => match plainOpnds o.op with
    | some l => if l.all (isRaw c t) then
        match pureRun c.P (execOp (rawOf c t) o) with
        | some (.value v) => some ⟨.raw v, h, ans, []⟩
        | _ => none
      else none
    | none => none
def lenV (c : Cfg) (t : List V) (args : Array Operand) (ats : Array TypeId) : Option V :=
  match args.toList, ats[0]? with
  | [x], some T => match opnd c t x, pureRun c.P (underlying T) with
    | some (.slo _ l), some (.slice _) => some (.raw (goInt l))
    | _, _ => none
  | _, _ => none
def indexV (c : Cfg) (t : List V) (T : TypeId) (x ix : Operand) : Option (V × List Prop) :=
  match opnd c t x, opnd c t ix, pureRun c.P (underlying T) with
  | some (.slo b l), some (.raw (.int _ i)), some (.slice e) => match pureRun c.P (Go.sizeOf e) with
    | some n => some (.ptr b (i.toNat * n), [0 ≤ i ∧ i < (l : Int)])
    | none => none
  | some (.ptr b off), some (.raw (.int _ i)), some (.array l e) => match pureRun c.P (Go.sizeOf e) with
    | some n => some (.ptr b (off + i.toNat * n), [0 ≤ i ∧ i < (l : Int)])
    | none => none
  | _, _, _ => none
def litCells (c : Cfg) (T : TypeId) (len : Nat) (parts : List (Nat × Value)) : Option (TypeId × Nat × Array Value) :=
  match pureRun c.P (underlying T) with
  | some (.slice e) => match pureRun c.P (Go.sizeOf e), pureRun c.P (zeroValue e) with
    | some n, some z => if n = 0 ∨ len * n > 2 ^ 24 then none else
      match Instr.fill (fun i => some (i * n, n)) (Array.map (fun x => z.cells[x % z.cells.size]!) (Array.range (len * n))) parts with
      | some cells => some (e, n, cells)
      | none => none
    | _, _ => none
  | _ => none
def eqFlds (P : Program) (eq : TypeId → Value → Value → Option Bool) (xs ys : Array Value) : List Field → Option Bool
  | [] => some true
  | f :: l => if f.name = "_" then eqFlds P eq xs ys l else
    match pureRun P (part f.type xs f.offset), pureRun P (part f.type ys f.offset) with
    | some x, some y => match eq f.type x y, eqFlds P eq xs ys l with
      | some p, some q => some (p && q)
      | _, _ => none
    | _, _ => none
def eqElems (P : Program) (eq : TypeId → Value → Value → Option Bool) (e : TypeId) (n : Nat) (xs ys : Array Value) : List Nat → Option Bool
  | [] => some true
  | i :: l => match pureRun P (part e xs (i * n)), pureRun P (part e ys (i * n)) with
    | some x, some y => match eq e x y, eqElems P eq e n xs ys l with
      | some p, some q => some (p && q)
      | _, _ => none
    | _, _ => none
def eqIn (P : Program) : Nat → TypeId → Value → Value → Option Bool
  | 0, _, _, _ => none
  | d + 1, t, x, y => match pureRun P (underlying t), x, y with
    | some .bool, .bool a, .bool b => some (a == b)
    | some (.int _), .int k a, .int k' b => if k = k' then some (a == b) else none
    | some (.struct fields), .agg xs, .agg ys => if P.stoodInHeld t then none else eqFlds P (eqIn P d) xs ys fields.toList
    | some (.array len e), .agg xs, .agg ys => match pureRun P (Go.sizeOf e) with
      | some n => eqElems P (eqIn P d) e n xs ys (List.range' 0 len)
      | none => none
    | _, _, _ => none
def eqV (c : Cfg) (t : List V) (b : BinOp) (T : TypeId) (x y : Operand) : Option V :=
  match b, opnd c t x, opnd c t y with
  | .eql, some (.raw (.agg xs)), some (.raw (.agg ys)) => if c.P.eqGuardType c.P.depth T then none else (eqIn c.P 12 T (.agg xs) (.agg ys)).map fun r => .raw (.bool r)
  | .neq, some (.raw (.agg xs)), some (.raw (.agg ys)) => if c.P.eqGuardType c.P.depth T then none else (eqIn c.P 12 T (.agg xs) (.agg ys)).map fun r => .raw (.bool (!r))
  | _, _, _ => none
def mk0 (z : Array Value) (n : Nat) : List V := (List.range n).map fun i => .raw (z[i % z.size]!)
def newsV (h : Heap) (sz : Nat) : V → Option (Nat × List V × List Prop)
  | .raw (.slice none 0 0) => some (0, [], [])
  | .slo b m => match h[b]? with
    | some (some (.cells cs _ _)) => some (m, cs.take (m * sz), [m * sz ≤ cs.length, oneCells (cs.take (m * sz)) = true])
    | _ => none
  | _ => none
def appendV (c : Cfg) (lim : Nat) (h : Heap) (s x : V) (ats : Array TypeId) : Option (V × Heap × List Prop) :=
  match ats.toList with
  | [T, T'] => if T = T' then match c.P.underlying T with
    | some (.slice e) => match c.P.info? e with
      | some i => match i.zero with
        | some z => if 0 < i.size ∧ z.cells.size = i.size then match newsV h i.size x with
          | some (m, news, cons) => match s with
            | .raw (.slice none 0 0) => some (.slo h.length m, h ++ [some (.cells news e (.row i.size))], cons ++ [m ≤ maxLen ∧ m * i.bytes ≤ 140737488355328])
            | .slo b n => match h[b]? with
              | some (some (.cells cs e' (.row sz))) => if lim ≤ b ∧ e' = e ∧ sz = i.size then
                  some (.slo h.length (n + m), h.set b none ++ [some (.cells (cs ++ news) e (.row i.size))], cons ++ [cs.length = n * i.size, n + m ≤ maxLen ∧ (n + m) * i.bytes ≤ 140737488355328])
                else none
              | _ => none
            | _ => none
          | none => none
          else none
        | none => none
      | none => none
    | _ => none
    else none
  | _ => none
def sliceV (c : Cfg) (h : Heap) (t : List V) (T : TypeId) (x : Operand) (lo hi mx : Option Operand) : Option (V × List Prop) :=
  match lo, hi, mx with
  | none, some y, none => match opnd c t x, opnd c t y, pureRun c.P (underlying T) with
    | some (.slo b l), some (.raw (.int _ k)), some (.slice e) => match h[b]?, pureRun c.P (Go.sizeOf e) with
      | some (some (.cells cs _ (.row sz))), some _ => some (.slo b k.toNat, [0 ≤ k ∧ k ≤ (l : Int) ∧ 0 < sz ∧ l * sz ≤ cs.length])
      | _, _ => none
    | _, _, _ => none
  | _, _, _ => none
def extractV (c : Cfg) (t : List V) (x : Operand) (i : Nat) : Option V := match opnd c t x with
  | some (.tup l) => l[i]?
  | _ => none
def fieldV (c : Cfg) (t : List V) (T : TypeId) (x : Operand) (f : Nat) : Option V := match opnd c t x with
  | some (.agg l) => match pureRun c.P (underlying T) with
    | some (.struct fields) => match fields[f]? with
      | some fd => loadRow c fd.type l fd.offset
      | none => none
    | _ => none
  | _ => none
def opndsP (c : Cfg) (t : List V) : List (Nat × Operand) → Option (List (Nat × V))
  | [] => some []
  | (i, x) :: l => match opnd c t x, opndsP c t l with
    | some v, some vs => some ((i, v) :: vs)
    | _, _ => none
def fillV (place : Nat → Option (Nat × Nat)) (cells : List V) : List (Nat × V) → Option (List V)
  | [] => some cells
  | (i, v) :: rest => match place i, cellsV v with
    | some (off, size), some xs => if xs.length = size ∧ off + xs.length ≤ cells.length then fillV place (putAt cells off xs) rest else none
    | _, _ => none
def buildV (c : Cfg) (t : List V) (T : TypeId) (parts : Array (Nat × Operand)) : Option V :=
  match pureRun c.P (zeroValue T), pureRun c.P (underlying T), opndsP c t parts.toList with
  | some z, some (.struct fields), some ps => match pureRun c.P (fields.mapM fun f => do pure (f.offset, ← Go.sizeOf f.type)) with
    | some places => (fillV (places[·]?) (z.cells.toList.map .raw) ps).map mkAgg
    | none => none
  | some z, some (.array _ elem), some ps => match pureRun c.P (Go.sizeOf elem) with
    | some size => (fillV (fun i => some (i * size, size)) (z.cells.toList.map .raw) ps).map mkAgg
    | none => none
  | _, _, _ => none
def tell (n : Nat) (h : Heap) (ans : List Ans) : Option (Heap × List Ans × List Prop) := match ans with
  | .cells b cs' :: ans' => if b = n then match h[n]? with
      | some (some (.cells cs ty own)) => some (h.set n (some (.cells cs' ty own)), ans', [cs = cs'])
      | _ => none
    else some (h, ans, [])
  | _ => some (h, ans, [])
def evOp (c : Cfg) (cf : CF) (lim : Nat) (t : List V) (h : Heap) (ans : List Ans) (o : Oper) : Option Out :=
  match o.op with
  | .move x => match opnd c t x with
    | some v => some ⟨v, h, ans, []⟩
    | none => none
  | .assign x => match opnd c t x with
    | some v => some ⟨v, h, ans, []⟩
    | none => none
  | .pick x y z => match opnd c t x with
    | some (.raw (.bool b)) => match askB b ans with
      | some (q, ans', cons) => match opnd c t (if q then y else z) with
        | some v => some ⟨v, h, ans', cons⟩
        | none => none
      | none => none
    | _ => none
  | .alloc ty => match pureRun c.P (zeroValue ty) with
    | some z => some ⟨.ptr h.length 0, h ++ [some (.cells (z.cells.toList.map .raw) ty .rw)], ans, []⟩
    | none => none
  | .box ty x => match (opnd c t x).bind cellsV with
    | some xs => some ⟨.ptr h.length 0, h ++ [some (.cells xs ty .rw)], ans, []⟩
    | none => none
  | .load ty x => match opnd c t x with
    | some (.ptr b off) => match loadA c h ty b off ans with
      | some (v, ans', cons) => some ⟨v, h, ans', cons⟩
      | none => none
    | _ => none
  | .store ty x y => match opnd c t x, opnd c t y with
    | some (.ptr b off), some v => match storeA c lim h ty b off v ans with
      | some (h', ans', cons) => some ⟨.raw undef, h', ans', cons⟩
      | none => none
    | _, _ => none
  | .fieldAddr s x f => match opnd c t x, fieldOff c s f with
    | some (.ptr b off), some d => some ⟨.ptr b (off + d), h, ans, []⟩
    | _, _ => none
  | .nilCheck x => match opnd c t x with
    | some (.ptr b off) => some ⟨.ptr b off, h, ans, []⟩
    | some (.fn (.func f) x y) => some ⟨.fn (.func f) x y, h, ans, []⟩
    | some (.yld b) => some ⟨.yld b, h, ans, []⟩
    | _ => none
  | .makeFunc f x y => match opnds c t x.toList, opnds c t y.toList with
    | some xs, some ys => some ⟨.fn f xs ys, h, ans, []⟩
    | _, _ => none
  | .call ⟨.value f, args, _⟩ => match opnd c t f, opnds c t args.toList with
    | some (.fn (.func f) first cap), some xs => if c.fns f then cf.call f (first ++ xs ++ cap) h lim ans else none
    | some (.yld b), some xs => cf.yld b xs h lim ans
    | _, _ => none
  | .call ⟨.builtin .len, args, ats⟩ => match lenV c t args ats with
    | some v => some ⟨v, h, ans, []⟩
    | none => evGen c t h ans o
  | .call ⟨.builtin .append, args, ats⟩ => match opnds c t args.toList with
    | some [s, x] => match appendV c lim h s x ats with
      | some (v, h', cons) => match tell h.length h' ans with
        | some (h2, ans', cs) => some ⟨v, h2, ans', cons ++ cs⟩
        | none => none
      | none => none
    | _ => none
  | .slice T x lo hi mx => match sliceV c h t T x lo hi mx with
    | some (v, cons) => some ⟨v, h, ans, cons⟩
    | none => none
  | .indexAddr T x ix => match indexV c t T x ix with
    | some (v, cons) => some ⟨v, h, ans, cons⟩
    | none => none
  | .buildSlice T len parts => if parts.toList.all (fun p => isRaw c t p.2) then
      match litCells c T len (parts.toList.map fun p => (p.1, rawOf c t p.2)) with
      | some (e, n, cells) => some ⟨.slo h.length len, h ++ [some (.cells (cells.toList.map .raw) e (.row n))], ans, [len ≤ maxLen]⟩
      | none => none
    else none
  | .makeSlice T l cp => match opnd c t l, opnd c t cp, c.P.underlying T with
    | some (.raw (.int _ n)), some (.raw (.int _ m)), some (.slice e) => match c.P.info? e with
      | some i => match i.zero with
        | some z => if 0 < i.size then match tell h.length (h ++ [some (.cells (mk0 z.cells (n.toNat * i.size)) e (.row i.size))]) ans with
          | some (h2, ans', cs) => some ⟨.slo h.length n.toNat, h2, ans', [0 ≤ n ∧ n ≤ m ∧ (i.bytes : Int) * m ≤ 281474976710656 ∧ m ≤ 9223372036854775807] ++ cs⟩
          | none => none
          else none
        | none => none
      | none => none
    | _, _, _ => none
  | .binOp b T x y _ => match eqV c t b T x y with
    | some v => some ⟨v, h, ans, []⟩
    | none => evGen c t h ans o
  | .extract x i => match extractV c t x i with
    | some v => some ⟨v, h, ans, []⟩
    | none => evGen c t h ans o
  | .field T x f => match fieldV c t T x f with
    | some v => some ⟨v, h, ans, []⟩
    | none => evGen c t h ans o
  | .build T parts => match evGen c t h ans o with
    | some r => some r
    | none => match buildV c t T parts with
      | some v => some ⟨v, h, ans, []⟩
      | none => none
  | _ => evGen c t h ans o
def putT (t : List V) (d : Option Nat) (v : V) : List V := match d with
  | some d => t.set d v
  | none => t
end Go.Proofs.YteefjegampdpoaaDoor.E2
end
section
namespace Go.Proofs.YteefjegampdpoaaDoor.E2
open Go Go.RowKit
theorem eqFlds_sound {P : Program} {eq : TypeId → Value → Value → Option Bool} {go : TypeId → Value → Value → Sem Bool} (hs : ∀ t x y b w, eq t x y = some b → (go t x y).run P w = .ok b w) (xs ys : Array Value) (w : World) :
    ∀ (l : List Field) (b : Bool), eqFlds P eq xs ys l = some b →
      (forIn l ((none, ()) : Option Bool × Unit) fun (f : Field) r => do
        if f.name ≠ "_" then
          if (!(← go f.type (← part f.type xs f.offset) (← part f.type ys f.offset))) = true then pure (ForInStep.done (some false, ())) else pure (ForInStep.yield (none, ()))
        else pure (ForInStep.yield (none, ()))).run P w = .ok (if b then none else some false, ()) w
  | [], b, h => by
    simp only [eqFlds, Option.some.injEq] at h
    subst h
    simp [go_sem]
  | f :: l, b, h => by
    simp only [eqFlds] at h
    split at h
    · rename_i hf
      have := eqFlds_sound hs xs ys w l b h
      rw [List.forIn_cons]
      simp only [hf, ne_eq, not_true_eq_false, if_false, Sem.run_bind, Sem.run_pure, Result.andThen_ok]
      exact this
    · rename_i hf
      split at h
      · rename_i x y hx hy
        split at h
        · rename_i p q hp hq
          simp only [Option.some.injEq] at h
          subst h
          have := eqFlds_sound hs xs ys w l q hq
          rw [List.forIn_cons]
          simp only [ne_eq, hf, not_false_eq_true, if_true, Sem.run_bind, pureRun_run hx, pureRun_run hy, hs _ _ _ _ w hp, Result.andThen_ok]
          cases p with
          | true =>
            simp only [Bool.not_true, Bool.false_eq_true, if_false, Sem.run_pure, Result.andThen_ok, Bool.true_and]
            exact this
          | false => simp only [Bool.not_false, if_true, Sem.run_pure, Result.andThen_ok, Bool.false_and, Bool.false_eq_true, if_false]
        · cases h
      · cases h
theorem eqElems_sound {P : Program} {eq : TypeId → Value → Value → Option Bool} {go : TypeId → Value → Value → Sem Bool} (hs : ∀ t x y b w, eq t x y = some b → (go t x y).run P w = .ok b w) (e : TypeId) (n : Nat) (xs ys : Array Value) (w : World) :
    ∀ (l : List Nat) (b : Bool), eqElems P eq e n xs ys l = some b →
      (forIn l ((none, ()) : Option Bool × Unit) fun (i : Nat) r => do
          if (!(← go e (← part e xs (i * n)) (← part e ys (i * n)))) = true then pure (ForInStep.done (some false, ())) else pure (ForInStep.yield (none, ()))).run P w = .ok (if b then none else some false, ()) w
  | [], b, h => by
    simp only [eqElems, Option.some.injEq] at h
    subst h
    simp [go_sem]
  | f :: l, b, h => by
    simp only [eqElems] at h
    split at h
    · rename_i x y hx hy
      split at h
      · rename_i p q hp hq
        simp only [Option.some.injEq] at h
        subst h
        have := eqElems_sound hs e n xs ys w l q hq
        rw [List.forIn_cons]
        simp only [Sem.run_bind, pureRun_run hx, pureRun_run hy, hs _ _ _ _ w hp, Result.andThen_ok]
        cases p with
        | true =>
          simp only [Bool.not_true, Bool.false_eq_true, if_false, Sem.run_pure, Result.andThen_ok, Bool.true_and]
          exact this
        | false => simp only [Bool.not_false, if_true, Sem.run_pure, Result.andThen_ok, Bool.false_and, Bool.false_eq_true, if_false]
      · cases h
    · cases h
theorem eqIn_sound (P : Program) : ∀ (d m : Nat) (t : TypeId) (x y : Value) (b : Bool) (w : World), eqIn P d t x y = some b → (Op.equalIn (d + m) t x y).run P w = .ok b w
  | 0, m, t, x, y, b, w, h => by simp [eqIn] at h
  | d + 1, m, t, x, y, b, w, h => by
    rw [show d + 1 + m = (d + m) + 1 by omega]
    simp only [eqIn] at h
    split at h
    · rename_i a b' hu
      simp only [Option.some.injEq] at h; subst h
      simp [Op.equalIn, go_sem, pureRun_run hu]
    · rename_i k0 k a k' b' hu
      split at h
      · rename_i hk
        simp only [Option.some.injEq] at h; subst h
        simp [Op.equalIn, go_sem, pureRun_run hu, hk]
      · cases h
    · rename_i fields xs ys hu
      split at h
      · cases h
      · rename_i hst
        have := eqFlds_sound (go := Op.equalIn (d + m)) (fun t x y b w => eqIn_sound P d m t x y b w) xs ys w _ b h
        simp only [Op.equalIn, Sem.run_bind, pureRun_run hu, Result.andThen_ok]
        rw [show (Sem.run P (program : Sem Program) w) = .ok P w from rfl]
        simp only [Result.andThen_ok]
        rw [if_neg (by simpa using hst)]
        rw [← Array.forIn_toList, Sem.run_bind]
        rw [this]
        cases b <;> rfl
    · rename_i len e xs ys hu
      split at h
      · rename_i n hn
        have := eqElems_sound (go := Op.equalIn (d + m)) (fun t x y b w => eqIn_sound P d m t x y b w) e n xs ys w _ b h
        simp only [Op.equalIn, Sem.run_bind, pureRun_run hu, Result.andThen_ok, pureRun_run hn]
        rw [Std.Legacy.Range.forIn_eq_forIn_range']
        simp only [Std.Legacy.Range.size, Nat.sub_zero, Nat.add_sub_cancel, Nat.div_one]
        rw [this]
        cases b <;> rfl
      · cases h
    · cases h
section
variable {c : Cfg} {ρ : Ren} {h : Heap} {w : World} {t : List V} {a : Act} {lim : Nat}
theorem opnd_under (RH : RelH c ρ h w) (RT : RelT ρ h.length t a) {x : Operand} {v : V} (hx : opnd c t x = some v) : v.under h.length = true := by
  cases x with
  | tmp s =>
    simp only [opnd] at hx
    split at hx
    · cases hx
    · simp only [Option.some.injEq] at hx; subst hx; rfl
    · rename_i hna hnl
      have hm := List.mem_of_getElem? hx
      have := RT.sco v hm
      cases v <;> first | exact this | (exfalso; exact hna _ hx)
  | const v => simp only [opnd, Option.some.injEq] at hx; subst hx; rfl
  | func f => simp only [opnd, Option.some.injEq] at hx; subst hx; rfl
  | global g =>
    simp only [opnd] at hx
    split at hx
    · rename_i p hp
      simp only [Option.some.injEq] at hx
      subst hx
      simp only [V.under, decide_eq_true_eq]
      exact (RH.glob p (List.mem_of_find?_eq_some hp)).2.2
    · cases hx
theorem opnd_eval (RH : RelH c ρ h w) (RT : RelT ρ h.length t a) {x : Operand} {v : V} (hx : opnd c t x = some v) : a.eval x = v.conc ρ := by
  cases x with
  | tmp s =>
    simp only [opnd] at hx
    split at hx
    · cases hx
    · rename_i b hb
      simp only [Option.some.injEq] at hx; subst hx
      simp only [Act.eval, RT.tmps]
      simp [concs_get, hb, V.conc]
    · simp only [Act.eval, RT.tmps]
      simp [concs_get, hx]
  | const v => simp only [opnd, Option.some.injEq] at hx; subst hx; rfl
  | func f => simp only [opnd, Option.some.injEq] at hx; subst hx; rfl
  | global g =>
    simp only [opnd] at hx
    split at hx
    · rename_i p hp
      simp only [Option.some.injEq] at hx
      subst hx
      have h1 := List.find?_some hp
      simp only [beq_iff_eq] at h1
      obtain ⟨g1, g2, _⟩ := RH.glob p (List.mem_of_find?_eq_some hp)
      simp only [Act.eval, V.conc, g1, g2, h1, List.length_nil, Nat.zero_add]
    · cases hx
theorem opnds_ok (RH : RelH c ρ h w) (RT : RelT ρ h.length t a) : ∀ (l : List Operand) (vs : List V), opnds c t l = some vs → l.map a.eval = concs ρ vs ∧ unders h.length vs = true
  | [], vs, hx => by simp only [opnds, Option.some.injEq] at hx; subst hx; exact ⟨rfl, rfl⟩
  | x :: l, vs, hx => by
    simp only [opnds] at hx
    split at hx
    · rename_i v us hv hu
      simp only [Option.some.injEq] at hx
      subst hx
      obtain ⟨h1, h2⟩ := opnds_ok RH RT l us hu
      simp [concs, unders, h1, h2, opnd_eval RH RT hv, opnd_under RH RT hv]
    · cases hx
theorem rawOf_eval (RH : RelH c ρ h w) (RT : RelT ρ h.length t a) {x : Operand} (hx : isRaw c t x = true) : rawOf c t x = a.eval x := by
  unfold isRaw at hx
  split at hx
  · rename_i v hv
    unfold rawOf
    rw [opnd_eval RH RT hv, hv]
    rfl
  · cases hx
theorem addr_add (b off n : Nat) : (⟨b, off, none⟩ : Addr).add n = ⟨b, off + n, none⟩ := by
  unfold Addr.add
  split
  · rename_i h0; subst h0; rfl
  · rfl
theorem row_get (l : Loc) (xs : List Value) {i : Nat} (hi : i < xs.length) : (l.row xs)[l.pre.length + i]? = xs[i]? := by
  unfold Loc.row
  rw [List.append_assoc, List.getElem?_append_right (by omega), Nat.add_sub_cancel_left, List.getElem?_append_left hi]
theorem row_put (l : Loc) (A xs : List Value) {off : Nat} (h : off + xs.length ≤ A.length) : (l.row A).take (l.pre.length + off) ++ xs ++ (l.row A).drop (l.pre.length + off + xs.length) = l.row (A.take off ++ xs ++ A.drop (off + xs.length)) := by
  unfold Loc.row
  have h1 : (l.pre ++ A ++ l.sp).take (l.pre.length + off) = l.pre ++ A.take off := by
    rw [List.append_assoc, List.take_length_add_append, List.take_append_of_le_length (by omega)]
  have h2 : (l.pre ++ A ++ l.sp).drop (l.pre.length + off + xs.length) = A.drop (off + xs.length) ++ l.sp := by
    rw [List.append_assoc, Nat.add_assoc, List.drop_length_add_append, List.drop_append_of_le_length (by omega)]
  rw [h1, h2]
  simp [List.append_assoc]
theorem load_conc (RH : RelH c ρ h w) {ty : TypeId} {b off : Nat} {v : V} (hv : loadV c h ty b off = some v) :
    (loadVar ty ⟨(ρ.blk b).n, (ρ.blk b).pre.length + off, none⟩).run c.P w = .ok (v.conc ρ) w ∧ v.under h.length = true := by
  unfold loadV at hv
  split at hv
  · rename_i cs T own hb
    have hcell := RH.cell b _ hb
    have hsco := RH.sco b _ hb
    unfold loadRow at hv
    split at hv
    · rename_i n hag hsz
      split at hv
      · rename_i hle
        simp only [Option.some.injEq] at hv
        subst hv
        have hnil : (ρ.blk b).nil = false := by
          cases hn : (ρ.blk b).nil with
          | false => rfl
          | true => rw [hcell.nil hn] at hle; simp at hle; omega
        obtain ⟨fr, h1, _⟩ := hcell.row hnil
        have hlen : ((cs.drop off).take n).length = n := by simp; omega
        have h2 := run_loadCells_list (P := c.P) w ⟨(ρ.blk b).n, (ρ.blk b).pre.length + off, none⟩ (concs ρ ((cs.drop off).take n)) (fun j u hu => by
          have hj : j < n := by
            rcases Nat.lt_or_ge j n with h | h
            · exact h
            · rw [List.getElem?_eq_none (by rw [concs_length, hlen]; exact h)] at hu; cases hu
          rw [addr_add]
          simp only [World.cell?, h1]
          rw [concs_map, List.map_take, List.map_drop, List.getElem?_take, if_pos hj, List.getElem?_drop] at hu
          rw [List.getElem?_toArray, Nat.add_assoc, row_get _ _ (by rw [concs_length]; omega), concs_map]
          exact hu)
        rw [concs_length, hlen] at h2
        refine ⟨?_, mkAgg_under (unders_sub hsco fun x hx => List.mem_of_mem_drop (List.mem_of_mem_take hx))⟩
        rw [mkAgg_conc]
        simp only [loadCells] at h2
        simp [loadVar, go_sem, pureRun_run hag, pureRun_run hsz, h2]
      · cases hv
    · rename_i hag
      have hlt : off < cs.length := by
        rcases Nat.lt_or_ge off cs.length with k | k
        · exact k
        · rw [List.getElem?_eq_none k] at hv; cases hv
      have hnil : (ρ.blk b).nil = false := by
        cases hn : (ρ.blk b).nil with
        | false => rfl
        | true => rw [hcell.nil hn] at hlt; simp at hlt
      obtain ⟨fr, h1, _⟩ := hcell.row hnil
      refine ⟨?_, (unders_iff _ _).1 hsco v (List.mem_of_getElem? hv)⟩
      have hc : w.cell? ⟨(ρ.blk b).n, (ρ.blk b).pre.length + off, none⟩ = some (v.conc ρ) := by
        simp only [World.cell?, h1]
        rw [List.getElem?_toArray, row_get _ _ (by rw [concs_length]; exact hlt), concs_get, hv]
        rfl
      simp [loadVar, go_sem, pureRun_run hag, hc]
    · cases hv
  · cases hv
theorem oneCells_ok (ρ : Ren) : ∀ l : List V, oneCells l = true → ∀ v ∈ concs ρ l, v.oneCell' = true
  | [], _, v, hv => by cases hv
  | x :: l, h, v, hv => by
    simp only [concs, List.mem_cons] at hv
    cases x with
    | raw u =>
      cases u <;> simp only [oneCells, Bool.false_eq_true] at h <;> (rcases hv with rfl | hv; rfl; exact oneCells_ok ρ l h v hv)
    | any k => simp [oneCells] at h
    | agg m => simp [oneCells] at h
    | tup m => simp [oneCells] at h
    | slo b o =>
      simp only [oneCells] at h
      rcases hv with rfl | hv
      · simp only [V.conc, slcOf]; split <;> rfl
      · exact oneCells_ok ρ l h v hv
    | ptr b o => simp only [oneCells] at h; rcases hv with rfl | hv; rfl; exact oneCells_ok ρ l h v hv
    | yld b => simp only [oneCells] at h; rcases hv with rfl | hv; rfl; exact oneCells_ok ρ l h v hv
    | fn f y z => simp only [oneCells] at h; rcases hv with rfl | hv; rfl; exact oneCells_ok ρ l h v hv
    | lit b => simp only [oneCells] at h; rcases hv with rfl | hv; rfl; exact oneCells_ok ρ l h v hv
theorem setRow_heap (w : World) (g : Nat) (cs : Array Value) (k : Nat) (hk : k ≠ g) : (w.setRow g cs).heap[k]? = w.heap[k]? := by
  simp only [World.setRow, Array.getElem?_modify]
  rw [if_neg (by omega)]
theorem setRow_this (w : World) (g : Nat) (cs cur : Array Value) (ty : TypeId) (h : w.heap[g]? = some (.cells cur ty (0, 0))) : (w.setRow g cs).heap[g]? = some (.cells cs ty (0, 0)) := by
  simp [World.setRow, Array.getElem?_modify, h]
theorem get_set {h : Heap} {b i : Nat} {X : Option Blk} {C : Blk} (hi : (h.set b X)[i]? = some (some C)) : (i = b ∧ X = some C) ∨ (i ≠ b ∧ h[i]? = some (some C)) := by
  rcases Nat.decEq i b with hne | rfl
  · rw [List.getElem?_set_ne (Ne.symm hne)] at hi; exact .inr ⟨hne, hi⟩
  · have hl := lt_len hi
    rw [List.length_set] at hl
    rw [List.getElem?_set_self hl] at hi
    exact .inl ⟨rfl, Option.some.inj hi⟩
theorem relH_set (RH : RelH c ρ h w) {w' : World} {b : Nat} {B : Blk} {X : Option Blk} (hb : h[b]? = some (some B)) (hwr : B.wr = true) (hnil : (ρ.blk b).nil = false) (hL : c.L ≤ b) (hX : ∀ B', X = some B' → B'.under h.length = true ∧ BlkOk c.P ρ (ρ.blk b) w' B')
    (hoth : ∀ k, k ≠ (ρ.blk b).n → w'.heap[k]? = w.heap[k]?) : RelH c ρ (h.set b X) w' := by
  have hlwb : lw ρ h b := ⟨B, hb, hwr, hnil⟩
  have hne : ∀ i, lv ρ h i → i ≠ b → (ρ.blk i).n ≠ (ρ.blk b).n := fun i hi hib he => hib (RH.inj b i hlwb hi he.symm).symm
  refine ⟨fun i C hi => ?_, fun i j hi hj he => ?_, fun i C hi => ?_, fun p hp => ?_, by rw [List.length_set]; exact RH.big, fun i hi => by rw [List.getElem?_set_ne (by omega)]; exact RH.base i hi⟩
  · rcases get_set hi with ⟨rfl, h1⟩ | ⟨h0, h1⟩
    · exact (hX C h1).2
    · exact (RH.cell i C h1).move (RH.sco i C h1) (fun _ _ => rfl) fun hn => hoth _ (hne i ⟨C, h1, hn⟩ h0)
  · obtain ⟨C, h1, h2, h3⟩ := hi
    obtain ⟨D, k1, k3⟩ := hj
    have hi' : lw ρ h i := by
      rcases get_set h1 with ⟨rfl, _⟩ | ⟨_, h1⟩
      · exact hlwb
      · exact ⟨C, h1, h2, h3⟩
    have hj' : lv ρ h j := by
      rcases get_set k1 with ⟨rfl, _⟩ | ⟨_, k1⟩
      · exact hlwb.lv
      · exact ⟨D, k1, k3⟩
    exact RH.inj i j hi' hj' he
  · rw [List.length_set]
    rcases get_set hi with ⟨rfl, h1⟩ | ⟨h0, h1⟩
    · exact (hX C h1).1
    · exact RH.sco i C h1
  · rw [List.length_set]; exact RH.glob p hp
theorem fr_set {w' : World} {b : Nat} {B : Blk} {X : Option Blk} (hb : h[b]? = some (some B)) (hwr : B.wr = true) (hnil : (ρ.blk b).nil = false) (hl : lim ≤ b) (os : w'.os = w.os) (tp : w'.tape = w.tape) (ou : w'.output = w.output) (sz : w.heap.size ≤ w'.heap.size)
    (hoth : ∀ k, k < w.heap.size → k ≠ (ρ.blk b).n → w'.heap[k]? = w.heap[k]?) : Fr lim h.length ρ h w ρ (h.set b X) w' := by
  have hlwb : lw ρ h b := ⟨B, hb, hwr, hnil⟩
  refine ⟨os, tp, ou, sz, fun k hk hn => hoth k hk fun e => hn b hl hlwb e.symm, fun _ _ => rfl, by simp, fun i h1 h2 => ?_, fun i hi h2 => ?_⟩
  · have := h2.lt
    rw [List.length_set] at this
    omega
  · obtain ⟨C, k1, k2, k3⟩ := h2
    rcases get_set k1 with ⟨rfl, _⟩ | ⟨_, k1⟩
    · exact hlwb
    · exact ⟨C, k1, k2, k3⟩
theorem relH_kill (RH : RelH c ρ h w) {b : Nat} (hL : c.L ≤ b) : RelH c ρ (h.set b none) w := by
  have back : ∀ {i : Nat} {C : Blk}, (h.set b none)[i]? = some (some C) → h[i]? = some (some C) := fun {i C} hi => by
    rcases get_set hi with ⟨_, h1⟩ | ⟨_, h1⟩
    · cases h1
    · exact h1
  refine ⟨fun i C hi => RH.cell i C (back hi), fun i j hi hj he => ?_, fun i C hi => by rw [List.length_set]; exact RH.sco i C (back hi), fun p hp => by rw [List.length_set]; exact RH.glob p hp, by rw [List.length_set]; exact RH.big, fun i hi => by rw [List.getElem?_set_ne (by omega)]; exact RH.base i hi⟩
  obtain ⟨C, h1, h2, h3⟩ := hi
  obtain ⟨D, k1, k3⟩ := hj
  exact RH.inj i j ⟨C, back h1, h2, h3⟩ ⟨D, back k1, k3⟩ he
theorem putAt_len {cs xs : List V} {off : Nat} (h : off + xs.length ≤ cs.length) : (putAt cs off xs).length = cs.length := by
  simp [putAt]; omega
theorem concs_putAt (ρ : Ren) (cs xs : List V) (off : Nat) : concs ρ (putAt cs off xs) = (concs ρ cs).take off ++ concs ρ xs ++ (concs ρ cs).drop (off + (concs ρ xs).length) := by
  simp [putAt, concs_map, List.map_take, List.map_drop]
theorem store_conc (RH : RelH c ρ h w) (hL : c.L ≤ lim) {ty : TypeId} {b off : Nat} {x : V} {h' : Heap} (hs : storeV c lim h ty b off x = some h') :
    ∃ w', (storeVar ty ⟨(ρ.blk b).n, (ρ.blk b).pre.length + off, none⟩ (x.conc ρ)).run c.P w = .ok () w' ∧ RelH c ρ h' w' ∧ Fr lim h.length ρ h w ρ h' w' := by
  unfold storeV at hs
  split at hs
  · cases hs
  · rename_i cs T own hro hb
    split at hs
    · rename_i hlim
      rw [Option.map_eq_some_iff] at hs
      obtain ⟨cs', hs, rfl⟩ := hs
      unfold storeRow at hs
      split at hs
      · rename_i xs n hx hsz
        split at hs
        · rename_i hh
          obtain ⟨hn, hn0, hle, hone, hun⟩ := hh
          simp only [Option.some.injEq] at hs
          subst hs
          have hcell := RH.cell b _ hb
          have hsco := RH.sco b _ hb
          have hownro : own ≠ .ro := fun e => by subst e; exact hro rfl
          have hwr : (Blk.cells cs T own).wr = true := by cases own <;> first | rfl | exact absurd rfl hownro
          have hnil : (ρ.blk b).nil = false := by
            cases hn' : (ρ.blk b).nil with
            | false => rfl
            | true => rw [hcell.nil hn'] at hle; simp only [List.length_nil] at hle; omega
          obtain ⟨fr, h1, hfr⟩ := hcell.row hnil
          rw [hfr hownro] at h1
          have hcs := cellsV_conc ρ hx
          have h3 := run_storeCells_at c.P (ρ.blk b).n ((ρ.blk b).pre.length + off) T (concs ρ xs) 0 _ w h1 (by simp [concs_length, Loc.row]; omega) (oneCells_ok ρ xs hone)
          have hsize : (x.conc ρ).cells.size = n := by rw [← Array.length_toList, hcs, concs_length, hn]
          have hput : (List.take ((ρ.blk b).pre.length + off + 0) ((ρ.blk b).row (concs ρ cs)).toArray.toList ++ concs ρ xs ++ List.drop ((ρ.blk b).pre.length + off + 0 + (concs ρ xs).length) ((ρ.blk b).row (concs ρ cs)).toArray.toList) = (ρ.blk b).row (concs ρ (putAt cs off xs)) := by
            simp only [Nat.add_zero]
            rw [row_put _ _ _ (by rw [concs_length, concs_length]; exact hle), concs_putAt]
          rw [hput] at h3
          refine ⟨w.setRow (ρ.blk b).n ((ρ.blk b).row (concs ρ (putAt cs off xs))).toArray, ?_, ?_, ?_⟩
          · unfold storeVar
            generalize (x.conc ρ).cells = cl at hcs hsize ⊢
            simp [go_sem, pureRun_run hsz, hsize, hcs, h3]
          · refine relH_set RH hb hwr hnil (by omega) (fun B' e => ?_) (fun k hk => setRow_heap _ _ _ _ hk)
            cases e
            refine ⟨?_, fun hn' => (by rw [hn'] at hnil; cases hnil), fun _ => ⟨(0, 0), setRow_this _ _ _ _ _ h1, fun _ => rfl⟩, fun sz hsz' => ?_⟩
            · refine unders_append (unders_append ?_ hun) ?_
              · exact unders_sub hsco fun x hx => List.mem_of_mem_take hx
              · exact unders_sub hsco fun x hx => List.mem_of_mem_drop hx
            · obtain ⟨r1, r2⟩ := hcell.room sz hsz'
              exact ⟨r1, fun hn' => by rw [putAt_len hle]; exact r2 hn'⟩
          · exact fr_set hb hwr hnil hlim rfl rfl rfl (by simp [World.setRow]) (fun k _ hk => setRow_heap _ _ _ _ hk)
        · cases hs
      · cases hs
    · cases hs
  · cases hs
theorem loadA_ok {ty : TypeId} {b off : Nat} {ans ans' : List Ans} {v : V} {cons : List Prop} (hl : loadA c h ty b off ans = some (v, ans', cons)) (hc : ∀ p ∈ cons, p) : loadV c h ty b off = some v := by
  have base : ((loadV c h ty b off).map fun v => (v, ans, ([] : List Prop))) = some (v, ans', cons) → loadV c h ty b off = some v := fun k => by
    rw [Option.map_eq_some_iff] at k
    obtain ⟨w, hw, k2⟩ := k
    simp only [Prod.mk.injEq] at k2
    obtain ⟨rfl, _, _⟩ := k2
    exact hw
  unfold loadA at hl
  split at hl
  · split at hl
    · split at hl
      · rename_i cs T own hB
        simp only [Option.some.injEq, Prod.mk.injEq] at hl
        obtain ⟨rfl, _, rfl⟩ := hl
        unfold loadV
        rw [hB]
        exact hc _ (List.mem_singleton.2 rfl)
      · cases hl
    · exact base hl
  · exact base hl
theorem storeA_ok {h' : Heap} {ty : TypeId} {b off : Nat} {x : V} {ans ans' : List Ans} {cons : List Prop} (hl : storeA c lim h ty b off x ans = some (h', ans', cons)) (hc : ∀ p ∈ cons, p) : storeV c lim h ty b off x = some h' := by
  have base : ((storeV c lim h ty b off x).map fun h' => (h', ans, ([] : List Prop))) = some (h', ans', cons) → storeV c lim h ty b off x = some h' := fun k => by
    rw [Option.map_eq_some_iff] at k
    obtain ⟨w, hw, k2⟩ := k
    simp only [Prod.mk.injEq] at k2
    obtain ⟨rfl, _, _⟩ := k2
    exact hw
  unfold storeA at hl
  split at hl
  · split at hl
    · split at hl
      · cases hl
      · rename_i cs T own hro hB
        split at hl
        · rename_i hlim
          simp only [Option.some.injEq, Prod.mk.injEq] at hl
          obtain ⟨rfl, _, rfl⟩ := hl
          have h1 := hc _ (List.mem_singleton.2 rfl)
          unfold storeV
          rw [hB]
          cases own with
          | ro => exact absurd rfl hro
          | rw => simp only [hlim, if_true, h1, Option.map_some]
          | row sz => simp only [hlim, if_true, h1, Option.map_some]
        · cases hl
      · cases hl
    · exact base hl
  · exact base hl
theorem field_conc {s : TypeId} {f d b off : Nat} (hd : fieldOff c s f = some d) (w : World) :
    (Instr.fieldAt s (.pointer (some ⟨b, off, none⟩)) f).run c.P w = .ok (.pointer (some ⟨b, off + d, none⟩)) w := by
  unfold fieldOff at hd
  split at hd
  · rename_i fields hs
    split at hd
    · rename_i fd hf
      split at hd
      · rename_i n hn
        split at hd
        · cases hd
        · rename_i hn0
          simp only [Option.some.injEq] at hd
          subst hd
          have e : (⟨b, off, none⟩ : Addr).add fd.offset = ⟨b, off + fd.offset, none⟩ := by
            unfold Addr.add
            split
            · rename_i h0; rw [h0]; rfl
            · rfl
          simp [Instr.fieldAt, go_sem, pureRun_run hs, hf, Instr.sureAddr, fieldPlace, pureRun_run hn, hn0, e]
      · cases hd
    · cases hd
  · cases hd
end
theorem execOp_congr {f g : Operand → Value} {o : Oper} {l : List Operand} (hl : plainOpnds o.op = some l) (hfg : ∀ x ∈ l, f x = g x) : execOp f o = execOp g o := by
  obtain ⟨dst, op, ty, pos, after, guard⟩ := o
  cases op with
  | binOp b xt x y yt =>
    simp only [plainOpnds, Option.some.injEq] at hl; subst hl
    simp only [execOp, hfg x (by simp), hfg y (by simp)]
  | unOp b xt x =>
    simp only [plainOpnds, Option.some.injEq] at hl; subst hl
    simp only [execOp, hfg x (by simp)]
  | convert b xt x =>
    simp only [plainOpnds, Option.some.injEq] at hl; subst hl
    simp only [execOp, hfg x (by simp)]
  | field b x n =>
    simp only [plainOpnds, Option.some.injEq] at hl; subst hl
    simp only [execOp, hfg x (by simp)]
  | index b x y =>
    simp only [plainOpnds, Option.some.injEq] at hl; subst hl
    simp only [execOp, hfg x (by simp), hfg y (by simp)]
  | extract x n =>
    simp only [plainOpnds, Option.some.injEq] at hl; subst hl
    simp only [execOp, hfg x (by simp)]
  | build b parts =>
    simp only [plainOpnds, Option.some.injEq] at hl; subst hl
    have e : (parts.map fun (i, x) => (i, f x)) = parts.map fun (i, x) => (i, g x) := by
      apply Array.map_congr_left
      rintro ⟨i, x⟩ hx
      simp only [Prod.mk.injEq, true_and]
      exact hfg x (List.mem_map.2 ⟨(i, x), Array.mem_toList_iff.2 hx, rfl⟩)
    simp only [execOp, e]
  | call k =>
    obtain ⟨callee, args, ats⟩ := k
    cases callee with
    | builtin b =>
      simp only [plainOpnds, Option.some.injEq] at hl; subst hl
      have e : args.map f = args.map g := Array.map_congr_left fun x hx => hfg x (Array.mem_toList_iff.2 hx)
      simp only [execOp, resolve, e]
    | value x => simp [plainOpnds] at hl
    | invoke x n => simp [plainOpnds] at hl
  | _ => simp [plainOpnds] at hl
section
variable {c : Cfg} {ρ : Ren} {h : Heap} {w : World} {t : List V} {a : Act} {lim : Nat}
theorem bare_run (RH : RelH c ρ h w) (RT : RelT ρ h.length t a) {o : Oper} {v : V} {cons : List Prop} (hb : bareOp o.op c t = some (v, cons)) (hc : ∀ p ∈ cons, p) :
    (execOp a.eval o).run c.P w = .ok (.value (v.conc ρ)) w ∧ v.under h.length = true := by
  obtain ⟨dst, op, ty, pos, after, guard⟩ := o
  unfold bareOp at hb
  split at hb
  · dsimp only at hb
    split at hb
    · rename_i b xt x y yt
      split at hb
      · rename_i k p k' q hx hy
        have ex := opnd_eval RH RT hx
        have ey := opnd_eval RH RT hy
        simp only [V.conc] at ex ey
        generalize a.eval = g at ex ey ⊢
        split at hb
        · rename_i hk
          subst hk
          split at hb <;> simp only [Option.some.injEq, Prod.mk.injEq, reduceCtorEq] at hb
          all_goals
            obtain ⟨rfl, rfl⟩ := hb
            refine ⟨?_, rfl⟩
          · have h1 : k.wrap (p + q) = p + q := hc _ (List.mem_singleton.2 rfl)
            simp [execOp, go_sem, ex, ey, eqGuard, binOp, Op.intArith, V.conc, h1]
          · have h1 : k.wrap (p - q) = p - q := hc _ (List.mem_singleton.2 rfl)
            simp [execOp, go_sem, ex, ey, eqGuard, binOp, Op.intArith, V.conc, h1]
          · have h1 : k.wrap (p * q) = p * q := hc _ (List.mem_singleton.2 rfl)
            simp [execOp, go_sem, ex, ey, eqGuard, binOp, Op.intArith, V.conc, h1]
          · have h0 : q ≠ 0 := hc _ (List.mem_cons_self)
            have h1 : k.wrap (p.tdiv q) = p.tdiv q := hc _ (List.mem_cons_of_mem _ List.mem_cons_self)
            simp [execOp, go_sem, ex, ey, eqGuard, binOp, Op.intDiv, V.conc, h1, h0]
          · have h0 : q ≠ 0 := hc _ (List.mem_cons_self)
            simp [execOp, go_sem, ex, ey, eqGuard, binOp, Op.intDiv, V.conc, h0]
        · cases hb
      · cases hb
    · rename_i xt x
      split at hb
      · rename_i k p hx
        have ex := opnd_eval RH RT hx
        simp only [V.conc] at ex
        generalize a.eval = g at ex ⊢
        simp only [Option.some.injEq, Prod.mk.injEq] at hb
        obtain ⟨rfl, rfl⟩ := hb
        have h1 : k.wrap (-p) = -p := hc _ (List.mem_singleton.2 rfl)
        refine ⟨?_, rfl⟩
        have h2 : k.wrap (0 - p) = -p := by rw [Int.zero_sub, h1]
        simp [execOp, go_sem, ex, Op.unary, Op.intArith, V.conc, h1]
      · cases hb
    · rename_i src dst x
      split at hb
      · rename_i k0 p hx
        have ex := opnd_eval RH RT hx
        simp only [V.conc] at ex
        generalize a.eval = g at ex ⊢
        split at hb
        · rename_i k1 k hs hd
          simp only [Option.some.injEq, Prod.mk.injEq] at hb
          obtain ⟨rfl, rfl⟩ := hb
          have h1 : k.wrap p = p := hc _ (List.mem_singleton.2 rfl)
          refine ⟨?_, rfl⟩
          simp [execOp, go_sem, ex, convert, pureRun_run hs, pureRun_run hd, Conv.intToInt, V.conc, h1]
        · cases hb
      · cases hb
    · cases hb
  · cases hb
end
section
variable {c : Cfg} {ρ : Ren}
theorem part_conc {ty : TypeId} {off n0 : Nat} {l : List V} {v : V} (hu : unders n0 l = true) (hv : loadRow c ty l off = some v) (w : World) : (part ty (concs ρ l).toArray off).run c.P w = .ok (v.conc ρ) w ∧ v.under n0 = true := by
  unfold loadRow at hv
  split at hv
  · rename_i n hag hsz
    split at hv
    · rename_i hle
      simp only [Option.some.injEq] at hv
      subst hv
      have h1 := pureRun_run hag w
      have h2 := pureRun_run hsz w
      refine ⟨?_, mkAgg_under (unders_sub hu fun x hx => List.mem_of_mem_drop (List.mem_of_mem_take hx))⟩
      rw [mkAgg_conc]
      have e : (concs ρ l).toArray.extract off (off + n) = (concs ρ ((l.drop off).take n)).toArray := by
        apply Array.toList_inj.1
        rw [Array.toList_extract, concs_map, concs_map, List.map_take, List.map_drop]
        simp [List.extract]
      rw [← e]
      unfold part
      generalize isAgg ty = s1 at h1 ⊢
      generalize Go.sizeOf ty = s2 at h2 ⊢
      simp [go_sem, h1, h2]
    · cases hv
  · rename_i x hag
    have h1 := pureRun_run hag w
    refine ⟨?_, (unders_iff _ _).1 hu v (List.mem_of_getElem? hv)⟩
    unfold part
    have e : (concs ρ l).toArray[off]? = some (v.conc ρ) := by
      rw [List.getElem?_toArray, concs_get, hv]; rfl
    generalize isAgg ty = s1 at h1 ⊢
    simp [go_sem, h1, e]
  · cases hv
theorem fold_put (off : Nat) : ∀ (xs : List Value) (k : Nat) (cells : Array Value), off + k + xs.length ≤ cells.size → ((xs.zipIdx k).foldl (fun cs p => cs.setIfInBounds (off + p.2) p.1) cells).toList = cells.toList.take (off + k) ++ xs ++ cells.toList.drop (off + k + xs.length)
  | [], k, cells, h => by simp
  | x :: xs, k, cells, h => by
    simp only [List.length_cons] at h
    have ih := fold_put off xs (k + 1) (cells.setIfInBounds (off + k) x) (by simp; omega)
    rw [List.zipIdx_cons, List.foldl_cons, ih]
    have hl : off + k < cells.toList.length := by simp; omega
    rw [Array.toList_setIfInBounds, List.set_eq_take_append_cons_drop, if_pos hl]
    have ht : (cells.toList.take (off + k)).length = off + k := by simp; omega
    rw [List.take_append, List.drop_append, ht]
    have e1 : List.take (off + (k + 1)) (cells.toList.take (off + k)) = cells.toList.take (off + k) := by
      rw [List.take_take, Nat.min_eq_right (by omega)]
    have e2 : off + (k + 1) - (off + k) = 1 := by omega
    have e3 : List.drop (off + (k + 1) + xs.length) (cells.toList.take (off + k)) = [] := List.drop_eq_nil_of_le (by rw [ht]; omega)
    have e4 : off + (k + 1) + xs.length - (off + k) = xs.length + 1 := by omega
    rw [e1, e2, e3, e4]
    simp only [List.take_succ_cons, List.take_zero, List.drop_succ_cons, List.drop_drop, List.nil_append, List.append_assoc, List.cons_append, List.length_cons]
    congr 3
    congr 1
    omega
theorem fill_conc {place : Nat → Option (Nat × Nat)} {n0 : Nat} : ∀ (ps : List (Nat × V)) (cells out : List V), (∀ p ∈ ps, p.2.under n0 = true) → unders n0 cells = true → fillV place cells ps = some out →
    Instr.fill place (concs ρ cells).toArray (ps.map fun p => (p.1, p.2.conc ρ)) = some (concs ρ out).toArray ∧ unders n0 out = true
  | [], cells, out, _, hu, h => by
    simp only [fillV, Option.some.injEq] at h
    subst h
    exact ⟨rfl, hu⟩
  | (i, v) :: rest, cells, out, hp, hu, h => by
    simp only [fillV] at h
    split at h
    · rename_i off size xs hpl hx
      split at h
      · rename_i hle
        obtain ⟨g1, g2⟩ := hle
        have ex := cellsV_conc ρ hx
        have ux := cellsV_under hx (hp _ List.mem_cons_self)
        have hu2 : unders n0 (putAt cells off xs) = true := by
          unfold putAt
          exact unders_append (unders_append (unders_sub hu fun x hx => List.mem_of_mem_take hx) ux) (unders_sub hu fun x hx => List.mem_of_mem_drop hx)
        obtain ⟨ih1, ih2⟩ := fill_conc rest _ out (fun p hp' => hp p (List.mem_cons_of_mem _ hp')) hu2 h
        refine ⟨?_, ih2⟩
        rw [← ih1]
        simp only [List.map_cons, Instr.fill, hpl]
        have hsz : (v.conc ρ).cells.size = xs.length := by
          rw [← Array.length_toList, ex, concs_length]
        rw [if_neg (by rw [hsz]; simp [concs_length]; omega)]
        congr 1
        apply Array.toList_inj.1
        rw [← Array.foldl_toList, Array.toList_zipIdx, ex]
        have := fold_put off (concs ρ xs) 0 (concs ρ cells).toArray (by simp [concs_length]; omega)
        rw [this]
        unfold putAt
        simp [concs_map, List.map_take, List.map_drop]
      · cases h
    · cases h
theorem opndsP_ok {t : List V} {a : Act} {h : Heap} {w : World} (RH : RelH c ρ h w) (RT : RelT ρ h.length t a) : ∀ (l : List (Nat × Operand)) (vs : List (Nat × V)), opndsP c t l = some vs → l.map (fun p => (p.1, a.eval p.2)) = vs.map (fun p => (p.1, p.2.conc ρ)) ∧ ∀ p ∈ vs, p.2.under h.length = true
  | [], vs, hx => by simp only [opndsP, Option.some.injEq] at hx; subst hx; exact ⟨rfl, fun p hp => by cases hp⟩
  | (i, x) :: l, vs, hx => by
    simp only [opndsP] at hx
    split at hx
    · rename_i v us hv hu
      simp only [Option.some.injEq] at hx
      subst hx
      obtain ⟨e1, e2⟩ := opndsP_ok RH RT l us hu
      refine ⟨?_, fun p hp => ?_⟩
      · simp only [List.map_cons, e1, opnd_eval RH RT hv]
      · rcases List.mem_cons.1 hp with rfl | hp
        · exact opnd_under RH RT hv
        · exact e2 p hp
    · cases hx
theorem build_run {t : List V} {a : Act} {h : Heap} {w : World} (RH : RelH c ρ h w) (RT : RelT ρ h.length t a) {T : TypeId} {parts : Array (Nat × Operand)} {v : V} (hv : buildV c t T parts = some v) :
    (Instr.build T (parts.map fun (i, x) => (i, a.eval x))).run c.P w = .ok (v.conc ρ) w ∧ v.under h.length = true := by
  have key : ∀ {place : Nat → Option (Nat × Nat)} {z : Value} {ps : List (Nat × V)}, opndsP c t parts.toList = some ps → (fillV place (z.cells.toList.map .raw) ps).map mkAgg = some v →
      ∃ out, Instr.fill place z.cells (parts.map fun (i, x) => (i, a.eval x)).toList = some out ∧ v.conc ρ = .agg out ∧ v.under h.length = true := fun {place z ps} hp hf => by
    rw [Option.map_eq_some_iff] at hf
    obtain ⟨out, h1, rfl⟩ := hf
    obtain ⟨e1, e2⟩ := opndsP_ok RH RT _ _ hp
    obtain ⟨k1, k2⟩ := fill_conc (ρ := ρ) ps _ out e2 (unders_raw _ _) h1
    rw [concs_raw] at k1
    refine ⟨_, ?_, mkAgg_conc ρ out, mkAgg_under k2⟩
    rw [← k1, ← e1, Array.toList_map]
  unfold buildV at hv
  split at hv
  · rename_i z fields ps hz hu hp
    split at hv
    · rename_i places hpl
      obtain ⟨out, k1, k2, k3⟩ := key hp hv
      refine ⟨?_, k3⟩
      rw [k2]
      have r1 := pureRun_run hz w
      have r2 := pureRun_run hu w
      have r3 := pureRun_run hpl w
      unfold Instr.build
      generalize (parts.map fun (i, x) => (i, a.eval x)) = qs at k1 ⊢
      generalize zeroValue T = s1 at r1 ⊢
      generalize underlying T = s2 at r2 ⊢
      unfold Value.cells at k1
      simp only [bind_pure_comp] at r3
      simp [go_sem, r1, r2, r3, k1]
    · cases hv
  · rename_i z n elem ps hz hu hp
    split at hv
    · rename_i size hs
      obtain ⟨out, k1, k2, k3⟩ := key hp hv
      refine ⟨?_, k3⟩
      rw [k2]
      have r1 := pureRun_run hz w
      have r2 := pureRun_run hu w
      have r3 := pureRun_run hs w
      unfold Instr.build
      generalize (parts.map fun (i, x) => (i, a.eval x)) = qs at k1 ⊢
      generalize zeroValue T = s1 at r1 ⊢
      generalize underlying T = s2 at r2 ⊢
      unfold Value.cells at k1
      simp [go_sem, r1, r2, r3, k1]
    · cases hv
  · cases hv
end
end Go.Proofs.YteefjegampdpoaaDoor.E2
end
section
namespace Go.Proofs.YteefjegampdpoaaDoor.E2
open Go Go.RowKit
def FW (r : Option Nat) : Fence := { Fence.wide with round := r }
def Callable (P : Program) (f : FuncId) : Prop := ∃ fn, P.funcs[f]? = some fn ∧ (fn.name == "runtime.NumGoroutine") = false ∧ fn.body.isNone = false
section
variable {c : Cfg} {ρ : Ren} {h : Heap} {w : World} {t : List V} {a : Act} {lim : Nat} {r : Option Nat}
theorem upIn {o : Oper} {K : Act → World → Prop} {Q : Exit → Act → World → Prop} {P : Program} (hd : ∀ k, o.op ≠ .defer k) (hh : o.uponIn (FW r) 0 P a K Q ((execOp a.eval o).run P w)) : o.wpIn (FW r) 0 P a w K Q :=
  ⟨fun _ _ => trivial, by rw [Oper.semAt_eq _ _ _ hd]; exact hh⟩
theorem value_step {o : Oper} {v : Value} {w' : World} {K : Act → World → Prop} {Q : Exit → Act → World → Prop} {P : Program} (hd : ∀ k, o.op ≠ .defer k) (hr : (execOp a.eval o).run P w = .ok (.value v) w') (hK : K (a.put o.dst v) w') : o.wpIn (FW r) 0 P a w K Q :=
  upIn hd (by rw [hr]; exact hK)
theorem skip_step {o : Oper} {w' : World} {K : Act → World → Prop} {Q : Exit → Act → World → Prop} {P : Program} (hd : ∀ k, o.op ≠ .defer k) (hr : (execOp a.eval o).run P w = .ok .skip w') (hK : K (a.put o.dst undef) w') : o.wpIn (FW r) 0 P a w K Q :=
  upIn hd (by rw [hr]; exact hK)
theorem calls_step {f : Operand} {args : Array Operand} {ats : Array TypeId} {dst : Option Tmp} {ty : TypeId} {pos : String} {after : Array Edge} {guard : Option (Nat × Bool)} {g : FuncId} {first cap : List Value} {K : Act → World → Prop} {Q : Exit → Act → World → Prop}
    (hf : a.eval f = .func (.func g) first.toArray cap.toArray) (hg : Callable c.P g) (R : Value → World → Prop)
    (hcall : Calls c.P g (first ++ args.toList.map a.eval ++ cap).toArray w fun e w' => ∃ v, e = .returned v ∧ R v w') (hK : ∀ v w', R v w' → K (a.put dst v) w') :
    (⟨dst, .call ⟨.value f, args, ats⟩, ty, pos, after, guard⟩ : Oper).wpIn (FW r) 0 c.P a w K Q := by
  obtain ⟨fn, h1, h2, h3⟩ := hg
  have hrun : (execOp a.eval (⟨dst, .call ⟨.value f, args, ats⟩, ty, pos, after, guard⟩ : Oper)).run c.P w = .ok (.enter g (first ++ args.toList.map a.eval ++ cap).toArray) w := by
    have e : (first.toArray ++ args.map a.eval ++ cap.toArray) = (first ++ args.toList.map a.eval ++ cap).toArray := by
      apply Array.toList_inj.1; simp
    rw [← e]
    clear e
    generalize a.eval = ev at hf ⊢
    have h2' : ¬ fn.name = "runtime.NumGoroutine" := by simpa using h2
    have h3' : ¬ fn.body = none := by intro hn; rw [hn] at h3; cases h3
    simp [execOp, resolve, go_sem, hf, Deferred.ofValue, invoke, callFunc, h1, h2', h3']
  refine upIn (by intro k; simp) ?_
  rw [hrun]
  refine ⟨fun hn => (by cases hn), ?_⟩
  have hcall' : CallsIn (FW r) 0 c.P g (first ++ args.toList.map a.eval ++ cap).toArray w fun e w' => ∃ v, e = .returned v ∧ R v w' := (callsIn_wide (n := 0)).2 hcall
  refine CallsIn.mono hcall' fun e w' he => ?_
  obtain ⟨v, rfl, hv⟩ := he
  exact hK v w' hv
theorem run_append_none {P : Program} (t ty e : TypeId) (i : TypeInfo) (ht : P.underlying t = some (.slice e)) (hi : P.info? e = some i) (v : Value) (n : Nat) (xs : List Value) {base : Nat} {size : Nat} (hown : w.ownsRow base e size v n xs) :
    (Builtin.append_ #[t, t] ty #[v, .slice none 0 0]).run P w = .ok v w := by
  rcases hown.2 with ⟨rfl, rfl⟩ | ⟨g, cap, cur, rfl, _, hg, hle, _⟩
  · simp [Builtin.append_, run_underlying ht, sizeOf, typeInfo, hi, Builtin.lenOf, Builtin.firstCells]
  · simp [Builtin.append_, run_underlying ht, sizeOf, typeInfo, hi, Builtin.lenOf, Builtin.firstCells, hle, storeCells]
theorem news_spec (RH : RelH c ρ h w) {sz : Nat} (hsz : 0 < sz) {x : V} {m : Nat} {news : List V} {cons : List Prop} (hx : newsV h sz x = some (m, news, cons)) (hc : ∀ p ∈ cons, p) :
    unders h.length news = true ∧ oneCells news = true ∧ ((x.conc ρ = .slice none 0 0 ∧ m = 0 ∧ news = []) ∨ ∃ ad cap, x.conc ρ = .slice (some ad) m cap ∧ news.length = m * sz ∧ ∀ (j : Nat) (u : Value), (concs ρ news)[j]? = some u → w.cell? (ad.add j) = some u) := by
  unfold newsV at hx
  split at hx
  · simp only [Option.some.injEq, Prod.mk.injEq] at hx
    obtain ⟨rfl, rfl, rfl⟩ := hx
    exact ⟨rfl, rfl, .inl ⟨rfl, rfl, rfl⟩⟩
  · rename_i b m'
    split at hx
    · rename_i cs T own hb
      simp only [Option.some.injEq, Prod.mk.injEq] at hx
      obtain ⟨rfl, rfl, rfl⟩ := hx
      have h1 : m' * sz ≤ cs.length := hc _ (by simp)
      have h2 : oneCells (cs.take (m' * sz)) = true := hc _ (by simp)
      refine ⟨unders_sub (RH.sco b _ hb) fun x hx => List.mem_of_mem_take hx, h2, ?_⟩
      have hcell := RH.cell b _ hb
      cases hn : (ρ.blk b).nil with
      | true =>
        have h3 := hcell.nil hn
        subst h3
        have hm : m' = 0 := by
          rcases Nat.eq_zero_or_pos m' with h | h
          · exact h
          · have := Nat.mul_pos h hsz
            simp at h1; omega
        subst hm
        exact .inl ⟨by simp [V.conc, slcOf, hn], rfl, by simp⟩
      | false =>
        obtain ⟨fr, h4, _⟩ := hcell.row hn
        refine .inr ⟨_, _, by simp only [V.conc, slcOf, hn]; rw [if_neg (by simp)], by rw [List.length_take]; omega, fun j u hu => ?_⟩
        have hj : j < m' * sz := by
          have := (List.getElem?_eq_some_iff.1 hu).1
          rw [concs_length, List.length_take] at this
          omega
        rw [addr_add]
        simp only [World.cell?, h4]
        rw [List.getElem?_toArray, row_get _ _ (by rw [concs_length]; omega)]
        rw [concs_map, List.map_take, List.getElem?_take, if_pos hj, ← concs_map] at hu
        exact hu
    · cases hx
  · cases hx
theorem own_spec (RH : RelH c ρ h w) {b n sz : Nat} (hsz : 0 < sz) {cs : List V} {e : TypeId} (hb : h[b]? = some (some (.cells cs e (.row sz)))) (hl : cs.length = n * sz) :
    w.ownsRow 0 e sz (slcOf (ρ.blk b) n) n (concs ρ cs) ∧ (slcOf (ρ.blk b) n).ownBlock = (if (ρ.blk b).nil = true then none else some (ρ.blk b).n) := by
  have hcell := RH.cell b _ hb
  cases hn : (ρ.blk b).nil with
  | true =>
    have h3 := hcell.nil hn
    subst h3
    have hm : n = 0 := by
      rcases Nat.eq_zero_or_pos n with h | h
      · exact h
      · have := Nat.mul_pos h hsz
        simp at hl; omega
    subst hm
    simp only [slcOf, hn, and_self, if_true]
    exact ⟨World.ownsRow_nil w 0 e sz, rfl⟩
  | false =>
    obtain ⟨fr, h4, h5⟩ := hcell.row hn
    obtain ⟨h6, h7⟩ := hcell.room sz rfl
    obtain ⟨h7, h8⟩ := h7 hn
    rw [h5 (by simp)] at h4
    have e1 : slcOf (ρ.blk b) n = .slice (some ⟨(ρ.blk b).n, 0, none⟩) n (ρ.blk b).cap := by
      simp only [slcOf, hn, h6]
      rw [if_neg (by simp)]
      rfl
    rw [e1]
    refine ⟨⟨by rw [concs_length, hl], .inr ⟨_, _, _, rfl, Nat.zero_le _, h4, ?_, h8, ?_, ?_⟩⟩, by simp [Value.ownBlock]⟩
    · rw [hl] at h7
      have : n * sz ≤ (ρ.blk b).cap * sz := by omega
      exact Nat.le_of_mul_le_mul_right this hsz
    · simp [Loc.row, h6, concs_length, h7]
    · simp only [Loc.row, h6, List.nil_append]
      rw [← hl, ← concs_length ρ cs]
      exact List.take_left
theorem append_rel {h1 : Heap} {w' : World} {xs : List V} {e : TypeId} {sz k : Nat} {v v' : Value} (RH : RelH c ρ h1 w) (hlen : h1.length = h.length) (hsz : 0 < sz) (hu : unders h.length xs = true) (hlh : lim ≤ h.length)
    (hsub : ∀ i, lw ρ h1 i → lw ρ h i)
    (hO : w'.ownsRow 0 e sz v' k (concs ρ xs)) (hg : w.grownBy w' v.ownBlock) (hv : v'.ownBlock = v.ownBlock ∨ v'.ownBlock = some w.heap.size)
    (hfar : ∀ g, v.ownBlock = some g → (∀ i, lv ρ h1 i → (ρ.blk i).n ≠ g) ∧ ∃ b, lim ≤ b ∧ lw ρ h b ∧ (ρ.blk b).n = g) :
    ∃ ρ', v' = (V.slo h.length k).conc ρ' ∧ ρ'.unk = ρ.unk ∧ RelH c ρ' (h1 ++ [some (.cells xs e (.row sz))]) w' ∧ Fr lim h.length ρ h w ρ' (h1 ++ [some (.cells xs e (.row sz))]) w' := by
  obtain ⟨hOl, hO2⟩ := hO
  rw [concs_length] at hOl
  have hold : ∀ i, lv ρ h1 i → w'.heap[(ρ.blk i).n]? = w.heap[(ρ.blk i).n]? := fun i hi => hg.block _ (RH.lt hi) fun e => (hfar _ e.symm).1 i hi rfl
  have build : ∀ l : Loc, slcOf l k = v' → (l.nil = false → v'.ownBlock = some l.n) → CellsOk (ρ.push h1.length l) l w' xs e (.row sz) →
      ∃ ρ', v' = (V.slo h.length k).conc ρ' ∧ ρ'.unk = ρ.unk ∧ RelH c ρ' (h1 ++ [some (.cells xs e (.row sz))]) w' ∧ Fr lim h.length ρ h w ρ' (h1 ++ [some (.cells xs e (.row sz))]) w' := fun l hl hn hB => by
    have place : l.nil = false → l.n = w.heap.size ∨ v.ownBlock = some l.n := fun hnl => by
      have := hn hnl
      rcases hv with h1 | h1
      · exact .inr (h1 ▸ this)
      · rw [this] at h1; exact .inl (Option.some.inj h1)
    refine ⟨ρ.push h1.length l, by simp only [V.conc]; rw [← hlen, push_new, hl], rfl, ?_, ?_⟩
    · refine relH_push RH ?_ hB hold fun hnl i hi => ?_
      · exact unders_mono (by omega) _ hu
      · rcases place hnl with h2 | h2
        · have := RH.lt hi; omega
        · exact (hfar _ h2).1 i hi
    · refine ⟨hg.os, hg.tape, hg.output, hg.size, fun k hk hn' => hg.block k hk fun e => ?_, fun i hi => push_old (by omega), by simp [hlen], fun i i1 i2 => ?_, fun i hi i2 => ?_⟩
      · obtain ⟨b, b1, b2, b3⟩ := (hfar _ e.symm).2
        exact hn' b b1 b2 b3
      · obtain ⟨C, k1, k2, k3⟩ := i2
        rcases get_push k1 with ⟨hlt, _⟩ | ⟨rfl, _⟩
        · omega
        · rw [push_new] at k3 ⊢
          rcases place k3 with h2 | h2
          · exact .inl (by omega)
          · obtain ⟨b, b1, b2, b3⟩ := (hfar _ h2).2
            exact .inr ⟨b, b1, b2, b3.symm⟩
      · obtain ⟨C, k1, k2, k3⟩ := i2
        rw [push_old (by omega)] at k3
        exact hsub i ⟨C, by rwa [List.getElem?_append_left (by omega)] at k1, k2, k3⟩
  have agr : ∀ l : Loc, concs (ρ.push h1.length l) xs = concs ρ xs := fun l => concs_agree (n := h1.length) (fun i hi => push_old hi) xs (by rw [hlen]; exact hu)
  rcases hO2 with ⟨rfl, hk⟩ | ⟨g, cap, cur, rfl, _, hgc, hle, hcm, hcs, htk⟩
  · subst hk
    have hx : xs = [] := List.eq_nil_of_length_eq_zero (by simpa using hOl)
    exact build ⟨0, [], [], 0, true⟩ (by simp [slcOf]) (fun hn => by cases hn) ⟨fun _ => hx, fun hn => (by cases hn), fun _ _ => ⟨rfl, fun hn => (by cases hn)⟩⟩
  · have hd : cur.toList = concs ρ xs ++ cur.toList.drop (k * sz) := by
      conv => lhs; rw [← List.take_append_drop (k * sz) cur.toList]
      rw [htk]
    refine build ⟨g, [], cur.toList.drop (k * sz), cap, false⟩ (by simp [slcOf]) (fun _ => rfl) ⟨fun hn => (by cases hn), fun _ => ⟨(0, 0), ?_, fun _ => rfl⟩, fun sz' hsz' => ?_⟩
    · rw [hgc]
      congr 2
      apply Array.toList_inj.1
      simp only [Loc.row, List.nil_append, agr]
      exact hd
    · cases hsz'
      refine ⟨rfl, fun _ => ⟨?_, hcm⟩⟩
      have h1 : cur.toList.length = cap * sz := by simpa using hcs
      have h2 : k * sz ≤ cap * sz := Nat.mul_le_mul_right _ hle
      show xs.length + (cur.toList.drop (k * sz)).length = cap * sz
      rw [List.length_drop, h1, hOl]
      omega
theorem append_run (RH : RelH c ρ h w) (hL : c.L ≤ lim) (hlh : lim ≤ h.length) {s x v : V} {ats : Array TypeId} {ty : TypeId} {h' : Heap} {cons : List Prop} (ha : appendV c lim h s x ats = some (v, h', cons)) (hc : ∀ p ∈ cons, p) :
    ∃ ρ' w', (Builtin.append_ ats ty #[s.conc ρ, x.conc ρ]).run c.P w = .ok (v.conc ρ') w' ∧ ρ'.unk = ρ.unk ∧ RelH c ρ' h' w' ∧ Fr lim h.length ρ h w ρ' h' w' ∧ v.under h'.length = true := by
  unfold appendV at ha
  split at ha
  · rename_i T T' hats
    split at ha
    · rename_i hT
      subst hT
      have hats' : ats = #[T, T] := by apply Array.toList_inj.1; simpa using hats
      subst hats'
      split at ha
      · rename_i e hu
        split at ha
        · rename_i i hi
          split at ha
          · rename_i z hz
            split at ha
            · rename_i hsz
              split at ha
              · rename_i m news cn hnews
                have run : ∀ {n : Nat} {vs : Value} {cs : List V}, w.ownsRow 0 e i.size vs n (concs ρ cs) → (∀ p ∈ cn, p) → n + m ≤ maxLen → (n + m) * i.bytes ≤ 140737488355328 →
                    ∃ v' w', (Builtin.append_ #[T, T] ty #[vs, x.conc ρ]).run c.P w = .ok v' w' ∧ w'.ownsRow 0 e i.size v' (n + m) (concs ρ (cs ++ news)) ∧ w.grownBy w' vs.ownBlock ∧ (v'.ownBlock = vs.ownBlock ∨ v'.ownBlock = some w.heap.size) := fun {n vs cs} hO hcn h63 hby => by
                  obtain ⟨n1, n2, n3⟩ := news_spec RH hsz.1 hnews hcn
                  rcases n3 with ⟨e1, rfl, rfl⟩ | ⟨ad, cap, e1, n4, n5⟩
                  · rw [e1]
                    exact ⟨vs, w, run_append_none T ty e i hu hi vs n _ hO, by simpa using hO, ⟨rfl, rfl, rfl, Nat.le_refl _, fun _ _ _ => rfl⟩, .inl rfl⟩
                  · rw [e1, concs_append]
                    obtain ⟨v', w', r1, r2, r3, _, r5⟩ := run_append_own_at (P := c.P) w 0 T ty e i z i.size i.bytes hu hi hz rfl rfl hsz.2 hsz.1 vs n _ hO ad m cap (concs ρ news) (by rw [concs_length, n4]) n5 (oneCells_ok ρ news n2) h63 hby (Nat.zero_le _)
                    exact ⟨v', w', r1, r2, r3, r5⟩
                have hun : ∀ {cs : List V}, unders h.length cs = true → (∀ p ∈ cn, p) → unders h.length (cs ++ news) = true := fun {cs} h1 hcn => unders_append h1 (news_spec RH hsz.1 hnews hcn).1
                split at ha
                · simp only [Option.some.injEq, Prod.mk.injEq] at ha
                  obtain ⟨rfl, rfl, rfl⟩ := ha
                  obtain ⟨g1, g2⟩ := hc _ (List.mem_append_right _ (List.mem_singleton.2 rfl))
                  have hcn : ∀ p ∈ cn, p := fun p hp => hc p (List.mem_append_left _ hp)
                  obtain ⟨v', w', r1, r2, r3, r4⟩ := run (cs := []) (World.ownsRow_nil w 0 e i.size) hcn (by omega) (by simpa using g2)
                  rw [Nat.zero_add, List.nil_append] at r2
                  obtain ⟨ρ', q1, q2, q3, q4⟩ := append_rel (h := h) (v := .slice none 0 0) RH rfl hsz.1 (hun (cs := []) rfl hcn) hlh (fun _ h => h) r2 r3 r4 (fun g hg => by cases hg)
                  exact ⟨ρ', w', by rw [← q1]; exact r1, q2, q3, q4, by simp [V.under]⟩
                · rename_i b n
                  split at ha
                  · rename_i cs e' sz hb
                    split at ha
                    · rename_i hh
                      obtain ⟨hlim, rfl, rfl⟩ := hh
                      simp only [Option.some.injEq, Prod.mk.injEq] at ha
                      obtain ⟨rfl, rfl, rfl⟩ := ha
                      have g0 : cs.length = n * i.size := hc _ (List.mem_append_right _ (by simp))
                      obtain ⟨g1, g2⟩ : n + m ≤ maxLen ∧ (n + m) * i.bytes ≤ 140737488355328 := hc _ (List.mem_append_right _ (by simp))
                      have hcn : ∀ p ∈ cn, p := fun p hp => hc p (List.mem_append_left _ hp)
                      obtain ⟨o1, o2⟩ := own_spec RH hsz.1 hb g0
                      obtain ⟨v', w', r1, r2, r3, r4⟩ := run o1 hcn g1 g2
                      have RH1 := relH_kill RH (b := b) (by omega)
                      have hbl := lt_len hb
                      obtain ⟨ρ', q1, q2, q3, q4⟩ := append_rel (h := h) (v := slcOf (ρ.blk b) n) (lim := lim) RH1 (by simp) hsz.1 (hun (RH.sco b _ hb) hcn) hlh (fun j hj => by
                        obtain ⟨C, k1, k2, k3⟩ := hj
                        rcases get_set k1 with ⟨_, k1⟩ | ⟨_, k1⟩
                        · cases k1
                        · exact ⟨C, k1, k2, k3⟩) r2 r3 r4 (fun g hg => by
                          rw [o2] at hg
                          split at hg
                          · cases hg
                          · rename_i hnil
                            simp only [Option.some.injEq] at hg
                            subst hg
                            have hlw : lw ρ h b := ⟨_, hb, rfl, by simpa using hnil⟩
                            refine ⟨fun j hj he => ?_, b, hlim, hlw, rfl⟩
                            obtain ⟨C, k1, k3⟩ := hj
                            rcases get_set k1 with ⟨_, k1⟩ | ⟨k0, k1⟩
                            · cases k1
                            · exact k0 (RH.inj b j hlw ⟨C, k1, k3⟩ he.symm).symm)
                      exact ⟨ρ', w', by rw [← q1]; exact r1, q2, q3, q4, by simp [V.under]⟩
                    · cases ha
                  · cases ha
                · cases ha
              · cases ha
            · cases ha
          · cases ha
        · cases ha
      · cases ha
    · cases ha
  · cases ha
end
end Go.Proofs.YteefjegampdpoaaDoor.E2
end
section
namespace Go.Proofs.YteefjegampdpoaaDoor.E2
open Go Go.RowKit
def Post (c : Cfg) (lim : Nat) (ρ : Ren) (h : Heap) (w : World) (v : V) (h' : Heap) (e : Ending) (w' : World) : Prop :=
  ∃ ρ', ρ'.unk = ρ.unk ∧ e = .returned (v.conc ρ') ∧ RelH c ρ' h' w' ∧ Fr lim h.length ρ h w ρ' h' w' ∧ v.under h'.length = true
structure CallOk (c : Cfg) (cf : CF) : Prop where
  call : ∀ f args h lim ans out, cf.call f args h lim ans = some out → (∀ p ∈ out.cons, p) → c.L ≤ lim → lim ≤ h.length → ∀ ρ w, RelH c ρ h w → unders h.length args = true →
    Calls c.P f (concs ρ args).toArray w (Post c lim ρ h w out.v out.h)
  yld : ∀ b args h lim ans out, cf.yld b args h lim ans = some out → (∀ p ∈ out.cons, p) → c.L ≤ lim → lim ≤ h.length → ∀ ρ w, RelH c ρ h w → unders h.length args = true →
    ∃ r, h[b]? = some (some (.rcd r)) ∧ args.length = (rangeAt c.P r.f r.i).1.size ∧ ∀ fn u D, w.heap[(ρ.blk b).n]? = some (.loop (r.loop c.P ρ fn u D)) →
      RoundIn Fence.wide 0 c.P (ρ.blk b).n fn (((rangeAt c.P r.f r.i).1.zip (concs ρ args).toArray).foldl (fun tmps (t, a) => tmps.setIfInBounds t a) (concs ⟨ρ.blk, u⟩ r.t).toArray) (rangeAt c.P r.f r.i).2.1 (rangeAt c.P r.f r.i).2.2 w (Post c lim ρ h w out.v out.h)
section
variable {c : Cfg} {ρ : Ren} {h : Heap} {w : World} {t : List V} {a : Act} {lim : Nat} {r : Option Nat}
section
variable {dst : Option Tmp} {ty : TypeId} {pos : String} {after : Array Edge} {guard : Option (Nat × Bool)}
theorem eqV_run (RH : RelH c ρ h w) (RT : RelT ρ h.length t a) {b : BinOp} {T U : TypeId} {x y : Operand} {v : V} (hv : eqV c t b T x y = some v) :
    (execOp a.eval ⟨dst, .binOp b T x y U, ty, pos, after, guard⟩).run c.P w = .ok (.value (v.conc ρ)) w ∧ v.under h.length = true := by
  unfold eqV at hv
  split at hv
  · rename_i xs ys hx hy
    split at hv
    · cases hv
    rename_i hgd
    rw [Option.map_eq_some_iff] at hv
    obtain ⟨r, hr, rfl⟩ := hv
    have ex := opnd_eval RH RT hx
    have ey := opnd_eval RH RT hy
    simp only [V.conc] at ex ey
    have hq := eqIn_sound c.P 12 9988 T _ _ r w hr
    refine ⟨?_, rfl⟩
    generalize a.eval = g at ex ey ⊢
    have hG : ∀ q, (q = .eql ∨ q = .neq) → (eqGuard q T x y (Value.agg xs) (Value.agg ys)).run c.P w = .ok () w := fun q hq => by
      rcases hq with rfl | rfl <;> (simp only [eqGuard, Sem.run_bind, Bool.not_true, Bool.false_eq_true, if_false, show ∀ w, (Sem.run c.P (program : Sem Program) w) = .ok c.P w from fun _ => rfl, Result.andThen_ok]; rw [if_pos (by simpa using hgd)]; rfl)
    simp [execOp, go_sem, ex, ey, binOp, Op.equal, Op.maxDepth, hq, hG, V.conc]
  · rename_i xs ys hx hy
    split at hv
    · cases hv
    rename_i hgd
    rw [Option.map_eq_some_iff] at hv
    obtain ⟨r, hr, rfl⟩ := hv
    have ex := opnd_eval RH RT hx
    have ey := opnd_eval RH RT hy
    simp only [V.conc] at ex ey
    have hq := eqIn_sound c.P 12 9988 T _ _ r w hr
    refine ⟨?_, rfl⟩
    generalize a.eval = g at ex ey ⊢
    have hG : ∀ q, (q = .eql ∨ q = .neq) → (eqGuard q T x y (Value.agg xs) (Value.agg ys)).run c.P w = .ok () w := fun q hq => by
      rcases hq with rfl | rfl <;> (simp only [eqGuard, Sem.run_bind, Bool.not_true, Bool.false_eq_true, if_false, show ∀ w, (Sem.run c.P (program : Sem Program) w) = .ok c.P w from fun _ => rfl, Result.andThen_ok]; rw [if_pos (by simpa using hgd)]; rfl)
    simp [execOp, go_sem, ex, ey, binOp, Op.equal, Op.maxDepth, hq, hG, V.conc]
  · cases hv
theorem len_run (RH : RelH c ρ h w) (RT : RelT ρ h.length t a) {args : Array Operand} {ats : Array TypeId} {v : V} (hv : lenV c t args ats = some v) :
    (execOp a.eval ⟨dst, .call ⟨.builtin .len, args, ats⟩, ty, pos, after, guard⟩).run c.P w = .ok (.value (v.conc ρ)) w ∧ v.under h.length = true := by
  unfold lenV at hv
  split at hv
  · rename_i x T hargs hT
    split at hv
    · rename_i b l e hx hu
      simp only [Option.some.injEq] at hv
      subst hv
      refine ⟨?_, rfl⟩
      have ex := opnd_eval RH RT hx
      have hl : ∃ p cp, (V.slo b l).conc ρ = .slice p l cp := by
        simp only [V.conc, slcOf]
        split
        · rename_i hh; rw [hh.1]; exact ⟨_, _, rfl⟩
        · exact ⟨_, _, rfl⟩
      obtain ⟨p, cp, hl⟩ := hl
      rw [hl] at ex
      have ha : args = #[x] := by apply Array.toList_inj.1; simpa using hargs
      subst ha
      generalize a.eval = g at ex ⊢
      simp [execOp, resolve, go_sem, invoke, builtin, Builtin.len_, hT, ex, pureRun_run hu, V.conc]
    · cases hv
  · cases hv
theorem index_run (RH : RelH c ρ h w) (RT : RelT ρ h.length t a) {T : TypeId} {x ix : Operand} {v : V} {cons : List Prop} (hv : indexV c t T x ix = some (v, cons)) (hc : ∀ p ∈ cons, p) :
    (execOp a.eval ⟨dst, .indexAddr T x ix, ty, pos, after, guard⟩).run c.P w = .ok (.value (v.conc ρ)) w ∧ v.under h.length = true := by
  unfold indexV at hv
  split at hv
  · rename_i b l k i e hx hi hu
    split at hv
    · rename_i n hn
      simp only [Option.some.injEq, Prod.mk.injEq] at hv
      obtain ⟨rfl, rfl⟩ := hv
      obtain ⟨h1, h2⟩ := hc _ (List.mem_singleton.2 rfl)
      refine ⟨?_, (by have := opnd_under RH RT hx; simpa [V.under] using this)⟩
      have ex := opnd_eval RH RT hx
      have ei := opnd_eval RH RT hi
      have hl0 : ¬ l = 0 := by omega
      simp only [V.conc, slcOf, hl0, false_and, if_false] at ex ei
      generalize a.eval = g at ex ei ⊢
      simp [execOp, Instr.indexAt, asIntOf, go_sem, ex, ei, pureRun_run hu, pureRun_run hn, h1, h2, addr_add, V.conc]
    · cases hv
  · rename_i b off k i l e hx hi hu
    split at hv
    · rename_i n hn
      simp only [Option.some.injEq, Prod.mk.injEq] at hv
      obtain ⟨rfl, rfl⟩ := hv
      obtain ⟨h1, h2⟩ := hc _ (List.mem_singleton.2 rfl)
      refine ⟨?_, (by have := opnd_under RH RT hx; simpa [V.under] using this)⟩
      have ex := opnd_eval RH RT hx
      have ei := opnd_eval RH RT hi
      simp only [V.conc] at ex ei
      generalize a.eval = g at ex ei ⊢
      simp [execOp, Instr.indexAt, asIntOf, Instr.sureAddr, go_sem, ex, ei, pureRun_run hu, pureRun_run hn, h1, h2, addr_add, V.conc, Nat.add_assoc]
    · cases hv
  · cases hv
theorem slice_run (RH : RelH c ρ h w) (RT : RelT ρ h.length t a) {T : TypeId} {x : Operand} {lo hi mx : Option Operand} {v : V} {cons : List Prop} (hv : sliceV c h t T x lo hi mx = some (v, cons)) (hc : ∀ p ∈ cons, p) :
    (execOp a.eval ⟨dst, .slice T x lo hi mx, ty, pos, after, guard⟩).run c.P w = .ok (.value (v.conc ρ)) w ∧ v.under h.length = true := by
  unfold sliceV at hv
  split at hv
  · rename_i y
    split at hv
    · rename_i b l kk k e hx hy hu
      split at hv
      · rename_i cs T' sz q hb hq
        simp only [Option.some.injEq, Prod.mk.injEq] at hv
        obtain ⟨rfl, rfl⟩ := hv
        obtain ⟨h1, h2, h3, h4⟩ := hc _ (List.mem_singleton.2 rfl)
        refine ⟨?_, (by have := opnd_under RH RT hx; simpa [V.under] using this)⟩
        have ex := opnd_eval RH RT hx
        have ey := opnd_eval RH RT hy
        simp only [V.conc] at ex ey
        have hcell := RH.cell b _ hb
        have hu' := pureRun_run hu
        have hq' := pureRun_run hq
        cases hn : (ρ.blk b).nil with
        | true =>
          have h5 := hcell.nil hn
          subst h5
          have hl : l = 0 := by
            rcases Nat.eq_zero_or_pos l with h | h
            · exact h
            · have := Nat.mul_pos h h3
              simp only [List.length_nil] at h4; omega
          subst hl
          have hk : k = 0 := by omega
          subst hk
          simp only [slcOf, hn, and_self, if_true] at ex
          generalize a.eval = g at ex ey ⊢
          simp [execOp, Instr.sliceAt, Instr.slice, Instr.sliceBounds, Instr.sliceBound, asIntOf, go_sem, ex, ey, hu', hq', V.conc, slcOf, hn]
        | false =>
          obtain ⟨r1, r2⟩ := hcell.room sz rfl
          obtain ⟨r2, r3⟩ := r2 hn
          have hlc : l ≤ (ρ.blk b).cap := by
            have : l * sz ≤ (ρ.blk b).cap * sz := by omega
            exact Nat.le_of_mul_le_mul_right this h3
          have hkc : k ≤ ((ρ.blk b).cap : Int) := by omega
          have e1 : ∀ m, slcOf (ρ.blk b) m = .slice (some ⟨(ρ.blk b).n, (ρ.blk b).pre.length, none⟩) m (ρ.blk b).cap := fun m => by simp [slcOf, hn]
          rw [e1] at ex
          simp only [V.conc, e1]
          generalize a.eval = g at ex ey ⊢
          have ha : (⟨(ρ.blk b).n, (ρ.blk b).pre.length, none⟩ : Addr).add 0 = ⟨(ρ.blk b).n, (ρ.blk b).pre.length, none⟩ := addr_add _ _ _
          simp [execOp, Instr.sliceAt, Instr.slice, Instr.sliceBounds, Instr.sliceBound, asIntOf, go_sem, ex, ey, hu', hq', h1, hkc, ha]
      · cases hv
    · cases hv
  · cases hv
theorem lit_run {P : Program} {g : Operand → Value} (hP : c.P = P) {T : TypeId} {len : Nat} {parts : Array (Nat × Operand)} {e : TypeId} {n0 : Nat} {cells : Array Value} (hl : litCells c T len (parts.map fun (i, x) => (i, g x)).toList = some (e, n0, cells)) :
    (execOp g ⟨dst, .buildSlice T len parts, ty, pos, after, guard⟩).run P w = .ok (.value (.slice (some ⟨w.heap.size, 0, none⟩) len len)) (w.alloc (.cells cells e)) := by
  subst hP
  unfold litCells at hl
  split at hl
  · rename_i e' hu
    split at hl
    · rename_i n z hn hz
      split at hl
      · cases hl
      · rename_i hlen
        rw [not_or] at hlen
        obtain ⟨h1, h2⟩ := hlen
        split at hl
        · rename_i cells' hf
          simp only [Option.some.injEq, Prod.mk.injEq] at hl
          obtain ⟨rfl, rfl, rfl⟩ := hl
          simp only [execOp, Instr.buildSlice]
          generalize (parts.map fun (i, x) => (i, g x)) = ps at hf ⊢
          rcases Nat.eq_zero_or_pos len with h0 | h0
          · subst h0
            simp only [Nat.zero_mul, Array.range_zero', Array.map_empty] at hf
            simp [go_sem, pureRun_run hu, pureRun_run hn, hf]
          · have h1' : ¬ len * n = 0 := by
              have := Nat.mul_pos h0 (Nat.pos_of_ne_zero h1)
              omega
            have h3 : ¬ len = 0 := by omega
            simp [go_sem, pureRun_run hu, pureRun_run hn, h1', h2]
            rw [pureRun_run hz]
            simp only [Result.andThen_ok]
            unfold Value.cells at hf
            simp only [hf]
            simp [go_sem]
        · cases hl
    · cases hl
  · cases hl
theorem lit_size {P : Cfg} {T : TypeId} {len : Nat} {ps : List (Nat × Value)} {e : TypeId} {n : Nat} {cells : Array Value} (hl : litCells P T len ps = some (e, n, cells)) : cells.size = len * n := by
  unfold litCells at hl
  split at hl
  · split at hl
    · split at hl
      · cases hl
      · split at hl
        · rename_i cs hf
          simp only [Option.some.injEq, Prod.mk.injEq] at hl
          obtain ⟨_, rfl, rfl⟩ := hl
          have key : ∀ (ps : List (Nat × Value)) (c0 c1 : Array Value) (place : Nat → Option (Nat × Nat)), Instr.fill place c0 ps = some c1 → c1.size = c0.size := by
            intro ps
            induction ps with
            | nil => intro c0 c1 pl hh; simp only [Instr.fill, Option.some.injEq] at hh; rw [hh]
            | cons p ps ih =>
              intro c0 c1 pl hh
              obtain ⟨i, v⟩ := p
              simp only [Instr.fill] at hh
              split at hh
              · cases hh
              · split at hh
                · cases hh
                · rw [ih _ _ _ hh]
                  rename_i off size _ _
                  have gen : ∀ (l : List (Value × Nat)) (c : Array Value), (l.foldl (fun cs (p : Value × Nat) => cs.setIfInBounds (off + p.2) p.1) c).size = c.size := by
                    intro l
                    induction l with
                    | nil => intro c; rfl
                    | cons x l ih' => intro c; simp only [List.foldl_cons]; rw [ih']; simp
                  rw [← Array.foldl_toList]
                  exact gen _ _
          rw [key _ _ _ _ hf]
          simp
        · cases hl
    · cases hl
  · cases hl
theorem mk0_under (n : Nat) (z : Array Value) (k : Nat) : unders n (mk0 z k) = true := by
  rw [unders_iff]
  intro x hx
  simp only [mk0, List.mem_map] at hx
  obtain ⟨i, _, rfl⟩ := hx
  rfl
theorem mk0_conc (ρ : Ren) (z : Array Value) {k m : Nat} (h : k ≤ m) : madeCells z m = (concs ρ (mk0 z k) ++ (madeCells z m).toList.drop k).toArray := by
  apply Array.toList_inj.1
  conv => lhs; rw [← List.take_append_drop k (madeCells z m).toList]
  simp only
  congr 1
  apply List.ext_getElem?
  intro i
  rw [concs_get, List.getElem?_take]
  simp only [mk0, madeCells, Array.toList_map, Array.toList_range, List.getElem?_map]
  rcases Nat.lt_or_ge i k with hi | hi
  · rw [if_pos hi, List.getElem?_range hi, List.getElem?_range (by omega)]
    rfl
  · rw [if_neg (by omega), List.getElem?_eq_none (by simpa using hi)]
    rfl
end
theorem tell_ok {n : Nat} {h h2 : Heap} {ans ans' : List Ans} {cons : List Prop} (he : tell n h ans = some (h2, ans', cons)) (hc : ∀ p ∈ cons, p) : h2 = h := by
  unfold tell at he
  split at he
  · split at he
    · split at he
      · rename_i cs ty own hn
        simp only [Option.some.injEq, Prod.mk.injEq] at he
        obtain ⟨rfl, _, rfl⟩ := he
        have h1 := hc _ (List.mem_singleton.2 rfl)
        subst h1
        obtain ⟨hl, hx⟩ := List.getElem?_eq_some_iff.1 hn
        rw [← hx]
        exact List.set_getElem_self hl
      · cases he
    · simp only [Option.some.injEq, Prod.mk.injEq] at he
      exact he.1.symm
  · simp only [Option.some.injEq, Prod.mk.injEq] at he
    exact he.1.symm
theorem evOp_sound {cf : CF} (hcf : CallOk c cf) (hfn : ∀ f, c.fns f = true → Callable c.P f) {ans : List Ans} {o : Oper} {out : Out} (he : evOp c cf lim t h ans o = some out) (hc : ∀ p ∈ out.cons, p)
    (RH : RelH c ρ h w) (RT : RelT ρ h.length t a) (hL : c.L ≤ lim) (hlh : lim ≤ h.length) {K : Act → World → Prop} {Q : Exit → Act → World → Prop}
    (hK : ∀ ρ' w', ρ'.unk = ρ.unk → RelH c ρ' out.h w' → Fr lim h.length ρ h w ρ' out.h w' → out.v.under out.h.length = true → K (a.put o.dst (out.v.conc ρ')) w') : o.wpIn (FW r) 0 c.P a w K Q := by
  obtain ⟨dst, op, ty, pos, after, guard⟩ := o
  have plain : ∀ {v : V}, out.v = v → out.h = h → v.under h.length = true → (∀ k, op ≠ .defer k) → (execOp a.eval ⟨dst, op, ty, pos, after, guard⟩).run c.P w = .ok (.value (v.conc ρ)) w → Oper.wpIn (FW r) 0 c.P ⟨dst, op, ty, pos, after, guard⟩ a w K Q := fun {v} e1 e2 hu hd hr => by
    refine value_step hd hr ?_
    subst e1
    refine hK ρ w rfl ?_ ?_ ?_
    · rw [e2]; exact RH
    · rw [e2]; exact Fr.refl lim ρ h w hlh (Nat.le_refl _)
    · rw [e2]; exact hu
  have gen : evGen c t h ans ⟨dst, op, ty, pos, after, guard⟩ = some out → Oper.wpIn (FW r) 0 c.P ⟨dst, op, ty, pos, after, guard⟩ a w K Q := fun h1 => by
    unfold evGen at h1
    dsimp only at h1
    split at h1
    · rename_i v cons hb
      simp only [Option.some.injEq] at h1
      subst h1
      obtain ⟨hr, hu⟩ := bare_run RH RT (o := ⟨dst, op, ty, pos, after, guard⟩) hb hc
      exact plain rfl rfl hu (fun k e => by subst e; simp [bareOp] at hb) hr
    · split at h1
      · rename_i l hl
        split at h1
        · rename_i hall
          split at h1
          · rename_i v hp
            simp only [Option.some.injEq] at h1
            subst h1
            have hcong : execOp (rawOf c t) ⟨dst, op, ty, pos, after, guard⟩ = execOp a.eval ⟨dst, op, ty, pos, after, guard⟩ :=
              execOp_congr (o := ⟨dst, op, ty, pos, after, guard⟩) hl fun x hx => rawOf_eval RH RT (List.all_eq_true.1 hall x hx)
            rw [hcong] at hp
            exact plain rfl rfl rfl (fun k e => by subst e; simp [plainOpnds] at hl) (pureRun_run hp w)
          · cases h1
        · cases h1
      · cases h1
  cases op with
  | move x =>
    simp only [evOp] at he
    split at he
    · rename_i v hv
      simp only [Option.some.injEq] at he
      subst he
      refine plain rfl rfl (opnd_under RH RT hv) (by intro k; simp) ?_
      rw [← opnd_eval RH RT hv]
      rfl
    · cases he
  | assign x =>
    simp only [evOp] at he
    split at he
    · rename_i v hv
      simp only [Option.some.injEq] at he
      subst he
      refine plain rfl rfl (opnd_under RH RT hv) (by intro k; simp) ?_
      rw [← opnd_eval RH RT hv]
      rfl
    · cases he
  | pick x y z =>
    simp only [evOp] at he
    split at he
    · rename_i b hx
      split at he
      · rename_i q ans' cons hq
        split at he
        · rename_i v hv
          simp only [Option.some.injEq] at he
          subst he
          have hbq : b = q := askB_ok hq hc
          subst hbq
          have ex := opnd_eval RH RT hx
          simp only [V.conc] at ex
          refine plain rfl rfl (opnd_under RH RT hv) (by intro k; simp) ?_
          have ev := opnd_eval RH RT hv
          rw [← ev]
          generalize a.eval = g at ex ⊢
          cases b <;> simp [execOp, go_sem, ex, asBool]
        · cases he
      · cases he
    · cases he
  | alloc T =>
    simp only [evOp] at he
    split at he
    · rename_i z hz
      simp only [Option.some.injEq] at he
      subst he
      have hr : (execOp a.eval ⟨dst, .alloc T, ty, pos, after, guard⟩).run c.P w = .ok (.value (.pointer (some ⟨w.heap.size, 0, none⟩))) (w.alloc (.cells z.cells T)) := by
        generalize a.eval = g
        have hz' := pureRun_run hz
        simp only [execOp, Instr.alloc, newVar, newRow, newObj]
        generalize zeroValue T = s at hz' ⊢
        simp [go_sem, hz']
        rfl
      have hA := relH_alloc RH (o := .cells z.cells T) (B := .cells (z.cells.toList.map .raw) T .rw) (l := Loc.at w.heap.size) rfl (unders_raw _ _) (by have := cellsOk_alloc (ρ := ρ) (w := w) (xs := z.cells.toList.map .raw) (ty := T); rw [concs_raw] at this; exact this)
      refine value_step (by intro k; simp) hr ?_
      have := hK (ρ.push h.length (Loc.at w.heap.size)) (w.alloc (.cells z.cells T)) rfl hA (fr_alloc hlh rfl) (by simp [V.under])
      simpa [V.conc, push_new, Loc.at] using this
    · cases he
  | box T x =>
    simp only [evOp] at he
    split at he
    · rename_i xs hxs
      obtain ⟨v, hv, hcv⟩ := Option.bind_eq_some_iff.1 hxs
      simp only [Option.some.injEq] at he
      subst he
      have ex := opnd_eval RH RT hv
      have hcs := cellsV_conc ρ hcv
      have hr : (execOp a.eval ⟨dst, .box T x, ty, pos, after, guard⟩).run c.P w = .ok (.value (.pointer (some ⟨w.heap.size, 0, none⟩))) (w.alloc (.cells (concs ρ xs).toArray T)) := by
        have e : (concs ρ xs).toArray = (a.eval x).cells := by rw [ex]; apply Array.toList_inj.1; rw [hcs]
        rw [e]
        generalize a.eval = g
        simp only [execOp, Instr.box, newVar, newRow, newObj]
        generalize (g x).cells = q
        simp [go_sem]
        rfl
      have hA := relH_alloc RH (o := .cells (concs ρ xs).toArray T) (B := .cells xs T .rw) (l := Loc.at w.heap.size) rfl (cellsV_under hcv (opnd_under RH RT hv)) cellsOk_alloc
      refine value_step (by intro k; simp) hr ?_
      have := hK (ρ.push h.length (Loc.at w.heap.size)) (w.alloc (.cells (concs ρ xs).toArray T)) rfl hA (fr_alloc hlh rfl) (by simp [V.under])
      simpa [V.conc, push_new, Loc.at] using this
    · cases he
  | load T x =>
    simp only [evOp] at he
    split at he
    · rename_i b off hx
      split at he
      · rename_i v ans' cons hla
        simp only [Option.some.injEq] at he
        subst he
        have hv := loadA_ok hla hc
        have ex := opnd_eval RH RT hx
        simp only [V.conc] at ex
        obtain ⟨hl, hu⟩ := load_conc RH hv
        refine plain rfl rfl hu (by intro k; simp) ?_
        generalize a.eval = g at ex ⊢
        have e : execOp g ⟨dst, .load T x, ty, pos, after, guard⟩ = (do let q ← loadVar T ⟨(ρ.blk b).n, (ρ.blk b).pre.length + off, none⟩; pure (Next.value q)) := by simp only [execOp, Instr.loadAt, Instr.sureAddr, ex]; rfl
        rw [e]
        generalize loadVar T ⟨(ρ.blk b).n, (ρ.blk b).pre.length + off, none⟩ = s at hl ⊢
        simp [go_sem, hl]
      · cases he
    · cases he
  | store T x y =>
    simp only [evOp] at he
    split at he
    · rename_i b off v hx hy
      split at he
      · rename_i h' ans' cons hsa
        simp only [Option.some.injEq] at he
        subst he
        have hs := storeA_ok hsa hc
        have ex := opnd_eval RH RT hx
        have ey := opnd_eval RH RT hy
        simp only [V.conc] at ex
        obtain ⟨w', h1, h2, h3⟩ := store_conc RH hL hs
        have hr : (execOp a.eval ⟨dst, .store T x y, ty, pos, after, guard⟩).run c.P w = .ok .skip w' := by
          rw [← ey] at h1
          generalize a.eval = g at ex h1 ⊢
          have e : execOp g ⟨dst, .store T x y, ty, pos, after, guard⟩ = (do storeVar T ⟨(ρ.blk b).n, (ρ.blk b).pre.length + off, none⟩ (g y); pure Next.skip) := by simp only [execOp, Instr.storeAt, Instr.sureAddr, ex]; rfl
          rw [e]
          generalize storeVar T ⟨(ρ.blk b).n, (ρ.blk b).pre.length + off, none⟩ (g y) = s at h1 ⊢
          simp [go_sem, h1]
        exact skip_step (by intro k; simp) hr (hK ρ w' rfl h2 h3 rfl)
      · cases he
    · cases he
  | fieldAddr s x f =>
    simp only [evOp] at he
    split at he
    · rename_i b off d hx hd
      simp only [Option.some.injEq] at he
      subst he
      have ex := opnd_eval RH RT hx
      have hu := opnd_under RH RT hx
      simp only [V.conc] at ex
      have hf := field_conc (b := (ρ.blk b).n) (off := (ρ.blk b).pre.length + off) hd w
      refine plain rfl rfl hu (by intro k; simp) ?_
      generalize a.eval = g at ex ⊢
      simp only [execOp, ex]
      generalize Instr.fieldAt s (.pointer (some ⟨(ρ.blk b).n, (ρ.blk b).pre.length + off, none⟩)) f = s at hf ⊢
      simp [go_sem]
      rw [hf]; simp [V.conc, Nat.add_assoc]
    · cases he
  | nilCheck x =>
    simp only [evOp] at he
    split at he
    · rename_i b off hx
      simp only [Option.some.injEq] at he
      subst he
      have ex := opnd_eval RH RT hx
      simp only [V.conc] at ex
      refine plain rfl rfl (opnd_under RH RT hx) (by intro k; simp) ?_
      generalize a.eval = g at ex ⊢
      simp [execOp, go_sem, ex, V.conc]
    · rename_i f y z hx
      simp only [Option.some.injEq] at he
      subst he
      have ex := opnd_eval RH RT hx
      simp only [V.conc] at ex
      refine plain rfl rfl (opnd_under RH RT hx) (by intro k; simp) ?_
      generalize a.eval = g at ex ⊢
      simp [execOp, go_sem, ex, V.conc]
    · rename_i b hx
      simp only [Option.some.injEq] at he
      subst he
      have ex := opnd_eval RH RT hx
      simp only [V.conc] at ex
      refine plain rfl rfl (opnd_under RH RT hx) (by intro k; simp) ?_
      generalize a.eval = g at ex ⊢
      simp [execOp, go_sem, ex, V.conc]
    · cases he
  | makeFunc f x y =>
    simp only [evOp] at he
    split at he
    · rename_i xs ys hx hy
      simp only [Option.some.injEq] at he
      subst he
      obtain ⟨e1, u1⟩ := opnds_ok RH RT _ _ hx
      obtain ⟨e2, u2⟩ := opnds_ok RH RT _ _ hy
      refine plain rfl rfl (by simp [V.under, u1, u2]) (by intro k; simp) ?_
      have k1 : x.map a.eval = (concs ρ xs).toArray := by apply Array.toList_inj.1; simpa using e1
      have k2 : y.map a.eval = (concs ρ ys).toArray := by apply Array.toList_inj.1; simpa using e2
      generalize a.eval = g at k1 k2 ⊢
      simp [execOp, go_sem, Instr.makeFunc, V.conc, k1, k2]
    · cases he
  | extract x i =>
    simp only [evOp] at he
    split at he
    · rename_i v hv
      simp only [Option.some.injEq] at he
      subst he
      unfold extractV at hv
      split at hv
      · rename_i l hx
        have ex := opnd_eval RH RT hx
        have hu := opnd_under RH RT hx
        simp only [V.conc] at ex
        simp only [V.under] at hu
        refine plain rfl rfl ((unders_iff _ _).1 hu v (List.mem_of_getElem? hv)) (by intro k; simp) ?_
        have e : (concs ρ l).toArray[i]? = some (v.conc ρ) := by rw [List.getElem?_toArray, concs_get, hv]; rfl
        generalize a.eval = g at ex ⊢
        simp [execOp, go_sem, ex, Instr.extract, e]
      · cases hv
    · exact gen he
  | field T x f =>
    simp only [evOp] at he
    split at he
    · rename_i v hv
      simp only [Option.some.injEq] at he
      subst he
      unfold fieldV at hv
      split at hv
      · rename_i l hx
        split at hv
        · rename_i fields hF
          split at hv
          · rename_i fd hfd
            have ex := opnd_eval RH RT hx
            have hu := opnd_under RH RT hx
            simp only [V.conc] at ex
            simp only [V.under] at hu
            obtain ⟨k1, k2⟩ := part_conc (ρ := ρ) hu hv w
            refine plain rfl rfl k2 (by intro k; simp) ?_
            have r2 := pureRun_run hF w
            generalize a.eval = g at ex ⊢
            simp only [execOp, ex, Instr.field]
            generalize underlying T = s2 at r2 ⊢
            simp [go_sem, part] at k1
            simp [go_sem, r2, hfd, asAgg, k1]
          · cases hv
        · cases hv
      · cases hv
    · exact gen he
  | build T parts =>
    simp only [evOp] at he
    split at he
    · rename_i r hr
      simp only [Option.some.injEq] at he
      subst he
      exact gen hr
    · split at he
      · rename_i v hv
        simp only [Option.some.injEq] at he
        subst he
        obtain ⟨k1, k2⟩ := build_run RH RT hv
        refine plain rfl rfl k2 (by intro k; simp) ?_
        generalize a.eval = g at k1 ⊢
        simp only [execOp]
        generalize Instr.build T (parts.map fun (i, x) => (i, g x)) = s1 at k1 ⊢
        simp [go_sem, k1]
      · cases he
  | indexAddr T x ix =>
    simp only [evOp] at he
    split at he
    · rename_i v cons hv
      simp only [Option.some.injEq] at he
      subst he
      obtain ⟨hr, hu⟩ := index_run (dst := dst) (ty := ty) (pos := pos) (after := after) (guard := guard) RH RT hv hc
      exact plain rfl rfl hu (by intro k; simp) hr
    · cases he
  | slice T x lo hi mx =>
    simp only [evOp] at he
    split at he
    · rename_i v cons hv
      simp only [Option.some.injEq] at he
      subst he
      obtain ⟨hr, hu⟩ := slice_run (dst := dst) (ty := ty) (pos := pos) (after := after) (guard := guard) RH RT hv hc
      exact plain rfl rfl hu (by intro k; simp) hr
    · cases he
  | buildSlice T len parts =>
    simp only [evOp] at he
    split at he
    · rename_i hall
      split at he
      · rename_i e n cells hl
        simp only [Option.some.injEq] at he
        subst he
        have hmx : len ≤ maxLen := hc _ (List.mem_singleton.2 rfl)
        have hp : parts.toList.map (fun p => (p.1, rawOf c t p.2)) = (parts.map fun (i, x) => (i, a.eval x)).toList := by
          rw [Array.toList_map]
          refine List.map_congr_left fun p hp => ?_
          rw [rawOf_eval RH RT (List.all_eq_true.1 hall p hp)]
        rw [hp] at hl
        have hr := lit_run (P := c.P) (g := a.eval) (w := w) (dst := dst) (ty := ty) (pos := pos) (after := after) (guard := guard) (c := c) rfl hl
        have hsz := lit_size hl
        have hA := relH_alloc RH (o := .cells cells e) (B := .cells (cells.toList.map .raw) e (.row n)) (l := ⟨w.heap.size, [], [], len, false⟩) rfl (unders_raw _ _)
          ⟨fun hn => (by cases hn), fun _ => ⟨(0, 0), (by rw [show (⟨w.heap.size, [], [], len, false⟩ : Loc).n = w.heap.size from rfl, alloc_this]; simp [Loc.row, concs_raw]), fun _ => rfl⟩, fun sz hsz' => (by cases hsz'; exact ⟨rfl, fun _ => ⟨by simpa using hsz, hmx⟩⟩)⟩
        refine value_step (by intro k; simp) hr ?_
        have := hK (ρ.push h.length ⟨w.heap.size, [], [], len, false⟩) (w.alloc (.cells cells e)) rfl hA (fr_alloc hlh rfl) (by simp [V.under])
        simpa [V.conc, push_new, slcOf] using this
      · cases he
    · cases he
  | makeSlice T l cp =>
    simp only [evOp] at he
    split at he
    · rename_i kl n kc m e hl hcp hu
      split at he
      · rename_i i hi
        split at he
        · rename_i z hz
          split at he
          · rename_i hi0
            split at he
            rotate_left
            · cases he
            rename_i h2 ans' cs htell
            simp only [Option.some.injEq] at he
            subst he
            obtain ⟨g1, g2, g3, g4⟩ := hc _ (List.mem_append_left _ (List.mem_singleton.2 rfl))
            have e2 := tell_ok htell fun p hp => hc p (List.mem_append_right _ hp)
            subst e2
            have el := opnd_eval RH RT hl
            have ec := opnd_eval RH RT hcp
            simp only [V.conc] at el ec
            have hr : (execOp a.eval ⟨dst, .makeSlice T l cp, ty, pos, after, guard⟩).run c.P w = .ok (.value (.slice (some ⟨w.heap.size, 0, none⟩) n.toNat m.toNat)) (w.alloc (.cells (madeCells z.cells (m.toNat * i.size)) e)) := by
              have h0 := run_make (P := c.P) w T e i z hu hi hz kl kc n m g1 g2 g3 g4
              generalize a.eval = g at el ec ⊢
              simp only [execOp, el, ec]
              generalize Instr.makeSlice T (.int kl n) (.int kc m) = s at h0 ⊢
              simp [go_sem, h0]
            have hnm : n.toNat * i.size ≤ m.toNat * i.size := Nat.mul_le_mul_right _ (by omega)
            have hA := relH_alloc RH (o := .cells (madeCells z.cells (m.toNat * i.size)) e) (B := .cells (mk0 z.cells (n.toNat * i.size)) e (.row i.size)) (l := ⟨w.heap.size, [], (madeCells z.cells (m.toNat * i.size)).toList.drop (n.toNat * i.size), m.toNat, false⟩) rfl (mk0_under _ _ _)
              ⟨fun hn => (by cases hn), fun _ => ⟨(0, 0), (by rw [show (⟨w.heap.size, [], (madeCells z.cells (m.toNat * i.size)).toList.drop (n.toNat * i.size), m.toNat, false⟩ : Loc).n = w.heap.size from rfl, alloc_this]; simp only [Loc.row, List.nil_append]; conv => lhs; rw [mk0_conc ρ z.cells hnm]), fun _ => rfl⟩, fun sz hsz' => (by
                cases hsz'
                refine ⟨rfl, fun _ => ⟨?_, by simp only [maxLen]; omega⟩⟩
                simp [mk0, madeCells]
                omega)⟩
            refine value_step (by intro k; simp) hr ?_
            have := hK (ρ.push h.length ⟨w.heap.size, [], (madeCells z.cells (m.toNat * i.size)).toList.drop (n.toNat * i.size), m.toNat, false⟩) (w.alloc (.cells (madeCells z.cells (m.toNat * i.size)) e)) rfl hA (fr_alloc hlh rfl) (by simp [V.under])
            simpa [V.conc, push_new, slcOf] using this
          · cases he
        · cases he
      · cases he
    · cases he
  | call k =>
    obtain ⟨callee, args, ats⟩ := k
    cases callee with
    | value f =>
      simp only [evOp] at he
      split at he
      · rename_i g first cap xs hx hxs
        split at he
        · rename_i hcal
          have ex := opnd_eval RH RT hx
          have hu := opnd_under RH RT hx
          simp only [V.conc] at ex
          simp only [V.under, Bool.and_eq_true] at hu
          obtain ⟨e1, u1⟩ := opnds_ok RH RT _ _ hxs
          have hcall := hcf.call _ _ _ _ _ _ he hc hL hlh ρ w RH (unders_append (unders_append hu.1 u1) hu.2)
          refine calls_step ex (hfn g hcal) (fun v w' => ∃ ρ', ρ'.unk = ρ.unk ∧ v = out.v.conc ρ' ∧ RelH c ρ' out.h w' ∧ Fr lim h.length ρ h w ρ' out.h w' ∧ out.v.under out.h.length = true) ?_ ?_
          · rw [e1, ← concs_append, ← concs_append]
            refine hcall.mono fun e w' he' => ?_
            obtain ⟨ρ', k1, k2, k3⟩ := he'
            exact ⟨_, k2, ρ', k1, rfl, k3⟩
          · rintro v w' ⟨ρ', k1, rfl, k3, k4, k5⟩
            exact hK ρ' w' k1 k3 k4 k5
        · cases he
      · rename_i b xs hx hxs
        have ex := opnd_eval RH RT hx
        simp only [V.conc] at ex
        obtain ⟨e1, u1⟩ := opnds_ok RH RT _ _ hxs
        obtain ⟨rc, y1, y2, y3⟩ := hcf.yld _ _ _ _ _ _ he hc hL hlh ρ w RH u1
        obtain ⟨_, fn, u, D, y4⟩ := RH.cell b _ y1
        have hround := y3 fn u D y4
        have hargs : args.map a.eval = (concs ρ xs).toArray := by apply Array.toList_inj.1; simpa using e1
        have hrun : (execOp a.eval (⟨dst, .call ⟨.value f, args, ats⟩, ty, pos, after, guard⟩ : Oper)).run c.P w = .ok (.round (ρ.blk b).n fn (((rangeAt c.P rc.f rc.i).1.zip (concs ρ xs).toArray).foldl (fun tmps (t, a) => tmps.setIfInBounds t a) (concs ⟨ρ.blk, u⟩ rc.t).toArray) (rangeAt c.P rc.f rc.i).2.1 (rangeAt c.P rc.f rc.i).2.2) w := by
          have hy := run_yield (P := c.P) (args := (concs ρ xs).toArray) y4 (by simp [Rec.loop, concs_length, y2])
          simp only [Rec.loop] at hy
          rw [← hargs] at hy ⊢
          generalize a.eval = ev at ex hy ⊢
          simp only [execOp, resolve, invoke, Deferred.ofValue, ex, Sem.run_bind, Sem.run_pure, Result.andThen_ok, Array.empty_append, Array.append_empty]
          generalize Instr.yield (ρ.blk b).n (args.map ev) = s at hy ⊢
          simp [go_sem, hy]
        refine upIn (by intro k; simp) ?_
        rw [hrun]
        refine ⟨fun hn => (by cases hn), ?_⟩
        have hround' : RoundIn (FW r) 0 c.P (ρ.blk b).n fn (((rangeAt c.P rc.f rc.i).1.zip (concs ρ xs).toArray).foldl (fun tmps (t, a) => tmps.setIfInBounds t a) (concs ⟨ρ.blk, u⟩ rc.t).toArray) (rangeAt c.P rc.f rc.i).2.1 (rangeAt c.P rc.f rc.i).2.2 w (Post c lim ρ h w out.v out.h) := hround
        refine RoundIn.mono hround' fun e w' he' => ?_
        obtain ⟨ρ', k1, rfl, k3, k4, k5⟩ := he'
        exact hK ρ' w' k1 k3 k4 k5
      · cases he
    | invoke x n => exact gen he
    | builtin b =>
      cases b with
      | len =>
        simp only [evOp] at he
        split at he
        · rename_i v hv
          simp only [Option.some.injEq] at he
          subst he
          obtain ⟨hr, hu⟩ := len_run (dst := dst) (ty := ty) (pos := pos) (after := after) (guard := guard) RH RT hv
          exact plain rfl rfl hu (by intro k; simp) hr
        · exact gen he
      | append =>
        simp only [evOp] at he
        split at he
        · rename_i s x hsx
          split at he
          · rename_i v h' cons hv
            split at he
            rotate_left
            · cases he
            rename_i h2 ans' cs htell
            simp only [Option.some.injEq] at he
            subst he
            have e2 := tell_ok htell fun p hp => hc p (List.mem_append_right _ hp)
            subst e2
            obtain ⟨e1, u1⟩ := opnds_ok RH RT _ _ hsx
            obtain ⟨ρ', w', r1, r2, r3, r4, r5⟩ := append_run (ty := ty) RH hL hlh hv fun p hp => hc p (List.mem_append_left _ hp)
            have hargs : args.map a.eval = #[s.conc ρ, x.conc ρ] := by apply Array.toList_inj.1; simpa [concs] using e1
            have hr : (execOp a.eval ⟨dst, .call ⟨.builtin .append, args, ats⟩, ty, pos, after, guard⟩).run c.P w = .ok (.value (v.conc ρ')) w' := by
              rw [← hargs] at r1
              generalize a.eval = g at r1 ⊢
              simp only [execOp, resolve, invoke, builtin, Sem.run_bind, Sem.run_pure, Result.andThen_ok, r1]
            exact value_step (by intro k; simp) hr (hK ρ' w' r2 r3 r4 r5)
          · cases he
        · cases he
      | _ => exact gen he
  | binOp b T x y U =>
    simp only [evOp] at he
    split at he
    · rename_i v hv
      simp only [Option.some.injEq] at he
      subst he
      obtain ⟨hr, hu⟩ := eqV_run (dst := dst) (ty := ty) (pos := pos) (after := after) (guard := guard) (U := U) RH RT hv
      exact plain rfl rfl hu (by intro k; simp) hr
    · exact gen he
  | _ => exact gen he
end
end Go.Proofs.YteefjegampdpoaaDoor.E2
end
section
namespace Go.Proofs.YteefjegampdpoaaDoor.E2
open Go Go.RowKit
structure GOut where
  want : Bool
  t : List V
  ans : List Ans
  cons : List Prop
def evGuard (ops : Array Oper) (t : List V) (ans : List Ans) (o : Oper) : Option GOut :=
  match o.guard with
  | none => some ⟨true, t, ans, []⟩
  | some (j, want) => match (ops[j]?).bind (·.dst) with
    | some d => match t[d]? with
      | some (.lit b) => some ⟨b == want, t, ans, []⟩
      | some (.raw (.bool b)) => match askB b ans with
        | some (q, ans', cons) => some ⟨q == want, t.set d (.lit q), ans', cons⟩
        | none => none
      | some (.raw (.tuple _)) => some ⟨false, t, ans, []⟩
      | _ => none
    | none => none
structure ROut where
  t : List V
  h : Heap
  ans : List Ans
  cons : List Prop
def evOps (c : Cfg) (cf : CF) (lim : Nat) (ops : Array Oper) : List Oper → List V → Heap → List Ans → Option ROut
  | [], t, h, ans => some ⟨t, h, ans, []⟩
  | o :: rest, t, h, ans => match evGuard ops t ans o with
    | none => none
    | some g => if g.want then
        match evOp c cf lim g.t h g.ans o with
        | none => none
        | some r => match evOps c cf lim ops rest (putT g.t o.dst r.v) r.h r.ans with
          | none => none
          | some q => some { q with cons := g.cons ++ (r.cons ++ q.cons) }
      else match evOps c cf lim ops rest (putT g.t o.dst (.raw undef)) h g.ans with
        | none => none
        | some q => some { q with cons := g.cons ++ q.cons }
theorem itm_lt {ops : Array Oper} {i : Nat} {o : Oper} (h : ops[i]? = some o) : i < ops.size := by
  rcases Nat.lt_or_ge i ops.size with hlt | hge
  · exact hlt
  · rw [Array.getElem?_eq_none hge] at h; cases h
theorem ready_spec {ops : Array Oper} {listed : Array Bool} {i : Nat} (hlen : listed.size = ops.size) (h : i ∈ Region.ready .any ops listed) :
    ∃ o, ops[i]? = some o ∧ listed[i]? = some false ∧ ∀ e ∈ o.after, Region.binds .any e = true → listed[e.on]? = some true := by
  unfold Region.ready at h
  rw [List.mem_filter, List.mem_range, Bool.and_eq_true] at h
  obtain ⟨hlt, hl, ha⟩ := h
  have ho : ops[i]? = some (ops[i]'hlt) := Array.getElem?_eq_getElem hlt
  refine ⟨_, ho, ?_, fun e he hb => ?_⟩
  · have hl2 : i < listed.size := by omega
    rw [Array.getElem?_eq_getElem hl2]
    simp [Array.getD, hl2] at hl
    rw [hl]
  · rw [ho] at ha
    simp only [Option.map_some, Option.getD_some, Array.all_eq_true'] at ha
    have := ha e he
    rw [hb] at this
    simp [Array.getD] at this
    obtain ⟨h1, h2⟩ := this
    rw [Array.getElem?_eq_getElem h1, h2]
def left (listed : Array Bool) : Nat := listed.toList.count false
theorem left_set {listed : Array Bool} {i : Nat} (h : listed[i]? = some false) : left (listed.setIfInBounds i true) + 1 = left listed := by
  unfold left
  rw [Array.toList_setIfInBounds]
  obtain ⟨l⟩ := listed
  simp only [List.getElem?_toArray] at h
  show List.count false (l.set i true) + 1 = List.count false l
  induction l generalizing i with
  | nil => simp at h
  | cons x l ih =>
    cases i with
    | zero =>
      simp only [List.getElem?_cons_zero, Option.some.injEq] at h
      subst h
      simp
    | succ i =>
      simp only [List.getElem?_cons_succ] at h
      have := ih h
      simp only [List.set_cons_succ, List.count_cons]
      omega
theorem all_of_ready {ops : Array Oper} {listed : Array Bool} (back : ∀ (i : Nat) (o : Oper), ops[i]? = some o → ∀ e ∈ o.after, Region.binds .any e = true → e.on < i) (hlen : listed.size = ops.size) (h : Region.ready .any ops listed = []) : ∀ i, i < ops.size → listed[i]? = some true := by
  intro i
  induction i using Nat.strongRecOn with
  | ind i ih =>
    intro hlt
    have hl : listed[i]? = some (listed[i]'(by omega)) := Array.getElem?_eq_getElem _
    cases hv : listed[i]'(by omega) with
    | true => rw [hl, hv]
    | false =>
      exfalso
      have ho : ops[i]? = some (ops[i]'hlt) := Array.getElem?_eq_getElem hlt
      have hmem : i ∈ Region.ready .any ops listed := by
        unfold Region.ready
        rw [List.mem_filter, List.mem_range, Bool.and_eq_true]
        refine ⟨hlt, ?_, ?_⟩
        · have hl2 : i < listed.size := by omega
          simp [Array.getD, hl2, hv]
        · rw [ho]
          simp only [Option.map_some, Option.getD_some, Array.all_eq_true']
          intro e he
          cases hbind : Region.binds .any e with
          | false => simp
          | true =>
            have hb := back i _ ho e he hbind
            have h3 := ih e.on hb (by omega)
            have hl3 : e.on < listed.size := by omega
            rw [Array.getElem?_eq_getElem hl3] at h3
            simp [Array.getD, hl3, Option.some.inj h3]
      rw [h] at hmem
      cases hmem
theorem put_defers {a : Act} {d : Option Tmp} {v : Value} : (a.put d v).defers = a.defers := by
  cases d <;> rfl
theorem relT_put {ρ ρ' : Ren} {n n' : Nat} {t : List V} {a : Act} (RT : RelT ρ n t a) (hag : ∀ i, i < n → ρ'.blk i = ρ.blk i) (hu : ρ'.unk = ρ.unk) (hn : n ≤ n') {v : V} (hv : v.slotOk n' = true) (d : Option Nat) : RelT ρ' n' (putT t d v) (a.put d (v.conc ρ')) := by
  have h0 : concs ρ' t = concs ρ t := by
    rw [concs_map, concs_map]
    exact List.map_congr_left fun x hx => V.slot_agree hag hu x (RT.sco x hx)
  cases d with
  | none => exact ⟨by simp only [putT, Act.put]; rw [RT.tmps, h0], fun x hx => V.slotOk_mono hn x (RT.sco x hx)⟩
  | some d =>
    refine ⟨?_, fun x hx => ?_⟩
    · simp only [putT, Act.put]
      rw [RT.tmps, concs_set, h0]
      simp
    · simp only [putT] at hx
      rcases List.mem_or_eq_of_mem_set hx with h1 | rfl
      · exact V.slotOk_mono hn x (RT.sco x h1)
      · exact hv
theorem evGuard_sound {ρ : Ren} {n : Nat} {ops : Array Oper} {t : List V} {a : Act} {ans : List Ans} {o : Oper} {g : GOut} (he : evGuard ops t ans o = some g) (hc : ∀ p ∈ g.cons, p) (RT : RelT ρ n t a) :
    Region.wanted o (yielded ops a.tmps) = g.want ∧ RelT ρ n g.t a := by
  unfold evGuard at he
  split at he
  · rename_i hg
    simp only [Option.some.injEq] at he
    subst he
    exact ⟨by simp [Region.wanted, hg], RT⟩
  · rename_i j want hg
    split at he
    · rename_i d hd
      split at he
      · rename_i b hb
        simp only [Option.some.injEq] at he
        subst he
        have hy : a.tmps[d]? = some (.bool b) := by rw [RT.tmps]; simp [concs_get, hb, V.conc]
        refine ⟨?_, RT⟩
        simp [Region.wanted, hg, yielded, hd, hy]
      · rename_i b hb
        split at he
        · rename_i q ans' cons hq
          simp only [Option.some.injEq] at he
          subst he
          have hbq : b = q := askB_ok hq hc
          subst hbq
          have hset : concs ρ (t.set d (.lit b)) = concs ρ t := by
            obtain ⟨hlt, hx⟩ := List.getElem?_eq_some_iff.1 hb
            rw [concs_set]
            have : (concs ρ t)[d]'(by rw [concs_length]; exact hlt) = .bool b := by simp [concs_map, hx, V.conc]
            simp only [V.conc]
            rw [← this]; exact List.set_getElem_self _
          have hy : a.tmps[d]? = some (.bool b) := by rw [RT.tmps]; simp [concs_get, hb, V.conc]
          refine ⟨?_, by rw [hset]; exact RT.tmps, fun x hx => ?_⟩
          rotate_left
          · rcases List.mem_or_eq_of_mem_set hx with h1 | rfl
            · exact RT.sco x h1
            · rfl
          simp [Region.wanted, hg, yielded, hd, hy]
        · cases he
      · rename_i vs hb
        simp only [Option.some.injEq] at he
        subst he
        have hy : a.tmps[d]? = some (.tuple vs) := by rw [RT.tmps]; simp [concs_get, hb, V.conc]
        refine ⟨?_, RT⟩
        simp [Region.wanted, hg, yielded, hd, hy]
      · cases he
    · cases he
theorem evOps_sound {c : Cfg} {lim : Nat} {r : Option Nat} {cf : CF} (hcf : CallOk c cf) (hfn : ∀ f, c.fns f = true → Callable c.P f) (hL : c.L ≤ lim) {ops : Array Oper} {Q : Exit → Act → World → Prop} :
    ∀ (l : List Oper) (t : List V) (h : Heap) (ans : List Ans) (q : ROut) (ρ : Ren) (a : Act) (w : World), evOps c cf lim ops l t h ans = some q → (∀ p ∈ q.cons, p) → lim ≤ h.length → RelH c ρ h w → RelT ρ h.length t a →
      (∀ ρ' a' w', ρ'.unk = ρ.unk → a'.defers = a.defers → RelT ρ' q.h.length q.t a' → RelH c ρ' q.h w' → Fr lim h.length ρ h w ρ' q.h w' → Q .normal a' w') → wpListIn (FW r) 0 c.P ops Q l a w
  | [], t, h, ans, q, ρ, a, w, he, hc, hl, RH, RT, hQ => by
    simp only [evOps, Option.some.injEq] at he
    subst he
    exact wpListIn_nil (hQ ρ a w rfl rfl RT RH (Fr.refl _ _ _ _ hl (Nat.le_refl _)))
  | o :: rest, t, h, ans, q, ρ, a, w, he, hc, hl, RH, RT, hQ => by
    simp only [evOps] at he
    split at he
    · cases he
    · rename_i g hg
      split at he
      · rename_i hw
        split at he
        · cases he
        · rename_i r1 hr1
          split at he
          · cases he
          · rename_i q1 hq
            simp only [Option.some.injEq] at he
            subst he
            obtain ⟨h1, RT1⟩ := evGuard_sound hg (fun p hp => hc p (List.mem_append_left _ hp)) RT
            refine wpListIn_step fun K hK => ?_
            rw [h1, hw, if_pos rfl]
            refine evOp_sound hcf hfn hr1 (fun p hp => hc p (List.mem_append_right _ (List.mem_append_left _ hp))) RH RT1 hL hl fun ρ1 w1 hu1 RH1 F1 hv1 => hK _ _ ?_
            have RT2 := relT_put RT1 F1.ren hu1 F1.len (V.slot_of_under _ hv1) o.dst
            refine evOps_sound hcf hfn hL rest _ _ _ q1 ρ1 _ w1 hq (fun p hp => hc p (List.mem_append_right _ (List.mem_append_right _ hp))) (Nat.le_trans hl F1.len) RH1 RT2 fun ρ' a' w' hu' hd' RT' RH' F' => ?_
            exact hQ ρ' a' w' (hu'.trans hu1) (hd'.trans put_defers) RT' RH' (F1.trans (F'.fewer F1.len hl))
      · rename_i hw
        split at he
        · cases he
        · rename_i q1 hq
          simp only [Option.some.injEq] at he
          subst he
          obtain ⟨h1, RT1⟩ := evGuard_sound hg (fun p hp => hc p (List.mem_append_left _ hp)) RT
          refine wpListIn_step fun K hK => ?_
          rw [h1, if_neg hw]
          refine ⟨fun _ _ => trivial, hK _ _ ?_⟩
          have RT2 := relT_put (ρ' := ρ) RT1 (fun _ _ => rfl) rfl (Nat.le_refl _) (v := .raw undef) rfl o.dst
          refine evOps_sound hcf hfn hL rest _ _ _ q1 ρ _ w hq (fun p hp => hc p (List.mem_append_right _ hp)) hl RH RT2 fun ρ' a' w' hu' hd' RT' RH' F' => ?_
          exact hQ ρ' a' w' hu' (hd'.trans put_defers) RT' RH' F'
end Go.Proofs.YteefjegampdpoaaDoor.E2
end
section
namespace Go.Proofs.YteefjegampdpoaaDoor.E2
open Go Go.RowKit
mutual
def V.within (p : Nat → Bool) : V → Bool
  | .raw _ => true
  | .any _ => false
  | .ptr b _ => p b
  | .slo b _ => p b
  | .yld b => p b
  | .fn _ x y => withins p x && withins p y
  | .agg l => withins p l
  | .tup l => withins p l
  | .lit _ => true
def withins (p : Nat → Bool) : List V → Bool
  | [] => true
  | x :: l => x.within p && withins p l
end
def V.slotIn (p : Nat → Bool) : V → Bool
  | .any _ => true
  | v => v.within p
def Blk.within (p : Nat → Bool) : Blk → Bool
  | .cells cs _ _ => withins p cs
  | .rcd r => r.t.all (·.slotIn p)
mutual
theorem V.conc_in {ρ ρ' : Ren} {p : Nat → Bool} (h : ∀ i, p i = true → ρ'.blk i = ρ.blk i) : ∀ x : V, x.within p = true → x.conc ρ' = x.conc ρ
  | .raw v, _ => rfl
  | .any k, h => by simp [V.within] at h
  | .ptr b o, hx => by simp only [V.within] at hx; simp only [V.conc, h b hx]
  | .slo b l, hx => by simp only [V.within] at hx; simp only [V.conc, h b hx]
  | .yld b, hx => by simp only [V.within] at hx; simp only [V.conc, h b hx]
  | .fn f x y, hx => by
    simp only [V.within, Bool.and_eq_true] at hx
    simp only [V.conc, concs_in h x hx.1, concs_in h y hx.2]
  | .agg l, hx => by simp only [V.within] at hx; simp only [V.conc, concs_in h l hx]
  | .tup l, hx => by simp only [V.within] at hx; simp only [V.conc, concs_in h l hx]
  | .lit b, _ => rfl
theorem concs_in {ρ ρ' : Ren} {p : Nat → Bool} (h : ∀ i, p i = true → ρ'.blk i = ρ.blk i) : ∀ l : List V, withins p l = true → concs ρ' l = concs ρ l
  | [], _ => rfl
  | x :: l, hx => by
    simp only [withins, Bool.and_eq_true] at hx
    simp only [concs, V.conc_in h x hx.1, concs_in h l hx.2]
end
mutual
theorem V.within_mono {p q : Nat → Bool} (h : ∀ i, p i = true → q i = true) : ∀ x : V, x.within p = true → x.within q = true
  | .raw v, _ => rfl
  | .any k, h => by simp [V.within] at h
  | .ptr b o, hx => h b hx
  | .slo b l, hx => h b hx
  | .yld b, hx => h b hx
  | .fn f x y, hx => by
    simp only [V.within, Bool.and_eq_true] at *
    exact ⟨withins_mono h x hx.1, withins_mono h y hx.2⟩
  | .agg l, hx => by simp only [V.within] at *; exact withins_mono h l hx
  | .tup l, hx => by simp only [V.within] at *; exact withins_mono h l hx
  | .lit b, _ => rfl
theorem withins_mono {p q : Nat → Bool} (h : ∀ i, p i = true → q i = true) : ∀ l : List V, withins p l = true → withins q l = true
  | [], _ => rfl
  | x :: l, hx => by
    simp only [withins, Bool.and_eq_true] at *
    exact ⟨V.within_mono h x hx.1, withins_mono h l hx.2⟩
end
mutual
theorem V.within_of {n : Nat} : ∀ x : V, x.under n = true → x.within (fun b => decide (b < n)) = true
  | .raw v, _ => rfl
  | .any k, h => by simp [V.under] at h
  | .ptr b o, hx => hx
  | .slo b l, hx => hx
  | .yld b, hx => hx
  | .fn f x y, hx => by
    simp only [V.under, V.within, Bool.and_eq_true] at *
    exact ⟨withins_of x hx.1, withins_of y hx.2⟩
  | .agg l, hx => by simp only [V.under, V.within] at *; exact withins_of l hx
  | .tup l, hx => by simp only [V.under, V.within] at *; exact withins_of l hx
  | .lit b, _ => rfl
theorem withins_of {n : Nat} : ∀ l : List V, unders n l = true → withins (fun b => decide (b < n)) l = true
  | [], _ => rfl
  | x :: l, hx => by
    simp only [unders, withins, Bool.and_eq_true] at *
    exact ⟨V.within_of x hx.1, withins_of l hx.2⟩
end
theorem V.slotIn_mono {p q : Nat → Bool} (h : ∀ i, p i = true → q i = true) (x : V) (hx : x.slotIn p = true) : x.slotIn q = true := by
  cases x <;> first | rfl | exact V.within_mono h _ hx
theorem V.slotIn_of {n : Nat} (x : V) (hx : x.slotOk n = true) : x.slotIn (fun b => decide (b < n)) = true := by
  cases x <;> first | rfl | exact V.within_of _ hx
theorem V.slotIn_conc {ρ ρ' : Ren} {p : Nat → Bool} (h : ∀ i, p i = true → ρ'.blk i = ρ.blk i) (hu : ρ'.unk = ρ.unk) (x : V) (hx : x.slotIn p = true) : x.conc ρ' = x.conc ρ := by
  cases x with
  | any k => simp only [V.conc, hu]
  | _ => exact V.conc_in h _ hx
theorem Blk.within_mono {p q : Nat → Bool} (h : ∀ i, p i = true → q i = true) (B : Blk) (hB : B.within p = true) : B.within q = true := by
  cases B with
  | cells cs ty own => exact withins_mono h _ hB
  | rcd r =>
    simp only [Blk.within, List.all_eq_true] at hB ⊢
    exact fun x hx => V.slotIn_mono h x (hB x hx)
theorem Blk.within_of {n : Nat} (B : Blk) (hB : B.under n = true) : B.within (fun b => decide (b < n)) = true := by
  cases B with
  | cells cs ty own => exact withins_of _ hB
  | rcd r =>
    simp only [Blk.under, Blk.within, List.all_eq_true] at hB ⊢
    exact fun x hx => V.slotIn_of x (hB x hx)
theorem slots_in {ρ ρ' : Ren} {p : Nat → Bool} (h : ∀ i, p i = true → ρ'.blk i = ρ.blk i) (u : Nat → Value) {l : List V} (hx : l.all (·.slotIn p) = true) : concs ⟨ρ'.blk, u⟩ l = concs ⟨ρ.blk, u⟩ l := by
  rw [concs_map, concs_map]
  exact List.map_congr_left fun x hm => V.slotIn_conc (ρ := ⟨ρ.blk, u⟩) (ρ' := ⟨ρ'.blk, u⟩) h rfl x (List.all_eq_true.1 hx x hm)
theorem BlkOk.moveIn {P : Program} {ρ ρ' : Ren} {l : Loc} {w w' : World} {B : Blk} {p : Nat → Bool} (h : BlkOk P ρ l w B) (hu : B.within p = true) (hag : ∀ i, p i = true → ρ'.blk i = ρ.blk i) (hw : l.nil = false → w'.heap[l.n]? = w.heap[l.n]?) : BlkOk P ρ' l w' B := by
  cases B with
  | cells cs ty own =>
    refine ⟨h.nil, fun hn => ?_, h.room⟩
    obtain ⟨fr, h1, h2⟩ := h.row hn
    exact ⟨fr, by rw [hw hn, h1, concs_in hag _ hu], h2⟩
  | rcd r =>
    obtain ⟨h0, fn, u, D, h1⟩ := h
    refine ⟨h0, fn, u, D, ?_⟩
    rw [hw h0, h1]
    simp only [Rec.loop]
    rw [slots_in hag u hu]
def waitsN : Nat → Array Oper → Nat → Nat → Bool
  | 0, _, _, _ => false
  | d + 1, ops, j, i => match ops[j]? with
    | some o => o.after.toList.any (fun e => Region.binds .any e && (e.on == i || waitsN d ops e.on i))
    | none => false
def waitsB (ops : Array Oper) (j i : Nat) : Bool := waitsN 12 ops j i
theorem waitsN_mono : ∀ (d : Nat) (ops : Array Oper) (j i : Nat), waitsN d ops j i = true → waitsN (d + 1) ops j i = true
  | 0, _, _, _, h => by cases h
  | d + 1, ops, j, i, h => by
    unfold waitsN at h ⊢
    split at h
    · obtain ⟨e, he, hb⟩ := List.any_eq_true.1 h
      rw [Bool.and_eq_true, Bool.or_eq_true] at hb
      refine List.any_eq_true.2 ⟨e, he, ?_⟩
      rw [Bool.and_eq_true, Bool.or_eq_true]
      exact ⟨hb.1, hb.2.imp_right fun k => waitsN_mono d ops e.on i k⟩
    · cases h
theorem waitsB_edge {ops : Array Oper} {i : Nat} {o : Oper} {e : Edge} (ho : ops[i]? = some o) (he : e ∈ o.after.toList) (hb : Region.binds .any e = true) : waitsB ops i e.on = true := by
  unfold waitsB waitsN
  rw [ho]
  exact List.any_eq_true.2 ⟨e, he, by simp [hb]⟩
structure DIt where
  v : V
  m : Nat
  chg : List (Nat × Option Blk)
  nw : Heap
def DIt.key (it : DIt) (e : Nat) : Bool := it.chg.any (fun p => p.1 == e)
def putAll (l : List (Nat × Option Blk)) (H : Heap) : Heap := l.foldl (fun H p => H.set p.1 p.2) H
def effOne (it : DIt) (H : Heap) : Heap := putAll it.chg H ++ it.nw
def effNo (it : DIt) (H : Heap) : Heap := H ++ it.nw.map fun _ => none
def effs (S : Nat → Bool) : Nat → List DIt → Heap → Heap
  | _, [], H => H
  | j, it :: l, H => effs S (j + 1) l (if S j then effOne it H else effNo it H)
def dstAt (ops : Array Oper) (j : Nat) : Option Nat := (ops[j]?).bind (·.dst)
def slotsAt (ops : Array Oper) (S : Nat → Bool) : Nat → List DIt → List V → List V
  | _, [], t => t
  | j, it :: l, t => slotsAt ops S (j + 1) l (if S j then putT t (dstAt ops j) it.v else t)
theorem putAll_len (l : List (Nat × Option Blk)) : ∀ H : Heap, (putAll l H).length = H.length := by
  induction l with
  | nil => intro H; rfl
  | cons p l ih => intro H; show (putAll l (H.set p.1 p.2)).length = _; rw [ih, List.length_set]
theorem putAll_no {e : Nat} (l : List (Nat × Option Blk)) : ∀ H : Heap, l.any (fun p => p.1 == e) = false → (putAll l H)[e]? = H[e]? := by
  induction l with
  | nil => intro H _; rfl
  | cons p l ih =>
    intro H hk
    simp only [List.any_cons, Bool.or_eq_false_iff, beq_eq_false_iff_ne] at hk
    show (putAll l (H.set p.1 p.2))[e]? = _
    rw [ih _ hk.2, List.getElem?_set_ne hk.1]
theorem putAll_at {e : Nat} (l : List (Nat × Option Blk)) (X : Option Blk) : ∀ H : Heap, (∀ p ∈ l, p.1 = e → p.2 = X) → l.any (fun p => p.1 == e) = true → e < H.length → (putAll l H)[e]? = some X := by
  induction l with
  | nil => intro H _ hk; cases hk
  | cons p l ih =>
    intro H hX hk hl
    show (putAll l (H.set p.1 p.2))[e]? = _
    cases hk2 : l.any (fun p => p.1 == e) with
    | true => exact ih _ (fun q hq => hX q (List.mem_cons_of_mem _ hq)) hk2 (by rw [List.length_set]; exact hl)
    | false =>
      rw [putAll_no l _ hk2]
      simp only [List.any_cons, hk2, Bool.or_false, beq_iff_eq] at hk
      rw [hk, List.getElem?_set_self hl, hX p List.mem_cons_self hk]
theorem effNo_len (it : DIt) (H : Heap) : (effNo it H).length = H.length + it.nw.length := by simp [effNo]
theorem effOne_len (it : DIt) (H : Heap) : (effOne it H).length = H.length + it.nw.length := by simp [effOne, putAll_len]
def grown : List DIt → Nat → Nat
  | [], n => n
  | it :: l, n => grown l (n + it.nw.length)
theorem effs_len (S : Nat → Bool) : ∀ (l : List DIt) (j : Nat) (H : Heap), (effs S j l H).length = grown l H.length
  | [], j, H => rfl
  | it :: l, j, H => by
    show (effs S (j + 1) l _).length = _
    rw [effs_len S l]
    show grown l _ = grown l (H.length + it.nw.length)
    congr 1
    split
    · exact effOne_len it H
    · exact effNo_len it H
theorem grown_ge : ∀ (l : List DIt) (n : Nat), n ≤ grown l n
  | [], n => Nat.le_refl _
  | it :: l, n => Nat.le_trans (Nat.le_add_right _ _) (grown_ge l _)
theorem grown_append : ∀ (l m : List DIt) (n : Nat), grown (l ++ m) n = grown m (grown l n)
  | [], m, n => rfl
  | it :: l, m, n => grown_append l m _
theorem effs_append (S : Nat → Bool) : ∀ (l m : List DIt) (j : Nat) (H : Heap), effs S j (l ++ m) H = effs S (j + l.length) m (effs S j l H)
  | [], m, j, H => rfl
  | it :: l, m, j, H => by
    show effs S (j + 1) (l ++ m) _ = _
    rw [effs_append S l m, List.length_cons]
    rw [show j + 1 + l.length = j + (l.length + 1) by omega]
    rfl
theorem effs_congr {S T : Nat → Bool} : ∀ (l : List DIt) (j : Nat) (H : Heap), (∀ k, j ≤ k → k < j + l.length → S k = T k) → effs S j l H = effs T j l H
  | [], j, H, _ => rfl
  | it :: l, j, H, h => by
    show effs S (j + 1) l _ = effs T (j + 1) l _
    rw [h j (Nat.le_refl _) (by simp), effs_congr l (j + 1) _ fun k h1 h2 => h k (by omega) (by simp only [List.length_cons]; omega)]
theorem eff_old {S : Nat → Bool} {j e : Nat} {it : DIt} {H : Heap} (he : e < H.length) (hk : S j = true → it.key e = false) : (if S j then effOne it H else effNo it H)[e]? = H[e]? := by
  split
  · rename_i hs
    show (putAll it.chg H ++ it.nw)[e]? = _
    rw [List.getElem?_append_left (by rw [putAll_len]; exact he), putAll_no _ _ (hk hs)]
  · show (H ++ _)[e]? = _
    rw [List.getElem?_append_left he]
theorem effs_stay {S : Nat → Bool} {e : Nat} : ∀ (l : List DIt) (j : Nat) (H : Heap), e < H.length → (∀ k it, l[k]? = some it → S (j + k) = true → it.key e = false) → (effs S j l H)[e]? = H[e]?
  | [], j, H, _, _ => rfl
  | it :: l, j, H, he, hk => by
    show (effs S (j + 1) l _)[e]? = _
    rw [effs_stay l (j + 1) _ ?_ fun k it' h1 h2 => hk (k + 1) it' (by simpa using h1) (by rw [show j + (k + 1) = j + 1 + k by omega]; exact h2)]
    · exact eff_old he fun hs => hk 0 it rfl hs
    · split
      · rw [effOne_len]; omega
      · rw [effNo_len]; omega
theorem effs_same {S : Nat → Bool} {e : Nat} : ∀ (l : List DIt) (j : Nat) (H H' : Heap), H.length = H'.length → H[e]? = H'[e]? → (effs S j l H)[e]? = (effs S j l H')[e]?
  | [], j, H, H', _, he => he
  | it :: l, j, H, H', hl, he => by
    show (effs S (j + 1) l _)[e]? = (effs S (j + 1) l _)[e]?
    refine effs_same l (j + 1) _ _ ?_ ?_
    · split
      · rw [effOne_len, effOne_len, hl]
      · rw [effNo_len, effNo_len, hl]
    · have gen : ∀ (q : List (Nat × Option Blk)) (A B : Heap), A.length = B.length → A[e]? = B[e]? → (putAll q A)[e]? = (putAll q B)[e]? := by
        intro q
        induction q with
        | nil => intro A B _ h; exact h
        | cons p q ih =>
          intro A B hl h
          refine ih _ _ (by simp [hl]) ?_
          rw [List.getElem?_set, List.getElem?_set, hl, h]
      rcases Nat.lt_or_ge e H.length with hlt | hge
      · split
        · show (putAll _ _ ++ _)[e]? = (putAll _ _ ++ _)[e]?
          rw [List.getElem?_append_left (by rw [putAll_len]; exact hlt), List.getElem?_append_left (by rw [putAll_len]; omega)]
          exact gen _ _ _ hl he
        · show (H ++ _)[e]? = (H' ++ _)[e]?
          rw [List.getElem?_append_left hlt, List.getElem?_append_left (by omega)]
          exact he
      · split
        · show (putAll _ _ ++ _)[e]? = (putAll _ _ ++ _)[e]?
          rw [List.getElem?_append_right (by rw [putAll_len]; exact hge), List.getElem?_append_right (by rw [putAll_len]; omega), putAll_len, putAll_len, hl]
        · show (H ++ _)[e]? = (H' ++ _)[e]?
          rw [List.getElem?_append_right hge, List.getElem?_append_right (by omega), hl]
def le? (x y : Option (Option Blk)) : Prop := x = y ∨ x = none ∨ x = some none
theorem effs_less {W S : Nat → Bool} {e : Nat} : ∀ (l : List DIt) (j : Nat) (H H' : Heap), H.length = H'.length → le? H[e]? H'[e]? → (∀ k, W k = true → S k = true) → (∀ k it, l[k]? = some it → it.key e = true → (∀ p ∈ it.chg, ∀ q ∈ it.chg, p.1 = e → q.1 = e → p.2 = q.2) ∧ W (j + k) = S (j + k)) →
    le? (effs W j l H)[e]? (effs S j l H')[e]?
  | [], j, H, H', _, he, _, _ => he
  | it :: l, j, H, H', hl, he, hWS, hk => by
    show le? (effs W (j + 1) l _)[e]? (effs S (j + 1) l _)[e]?
    refine effs_less l (j + 1) _ _ ?_ ?_ hWS fun k it' h1 h2 => by rw [show j + 1 + k = j + (k + 1) by omega]; exact hk (k + 1) it' (by simpa using h1) h2
    · split <;> split <;> simp only [effOne_len, effNo_len, hl]
    · rcases Nat.lt_or_ge e H.length with hlt | hge
      · cases hkey : it.key e with
        | false => rw [eff_old hlt fun _ => hkey, eff_old (by omega) fun _ => hkey]; exact he
        | true =>
          obtain ⟨h1, h2⟩ := hk 0 it rfl hkey
          rw [Nat.add_zero] at h2
          rw [h2]
          cases hS : S j with
          | false =>
            simp only [Bool.false_eq_true, if_false]
            show le? (H ++ _)[e]? (H' ++ _)[e]?
            rw [List.getElem?_append_left hlt, List.getElem?_append_left (by omega)]
            exact he
          | true =>
            simp only [if_true]
            left
            show (putAll _ _ ++ _)[e]? = (putAll _ _ ++ _)[e]?
            rw [List.getElem?_append_left (by rw [putAll_len]; exact hlt), List.getElem?_append_left (by rw [putAll_len]; omega)]
            obtain ⟨p, hp, hpe⟩ := List.any_eq_true.1 hkey
            rw [beq_iff_eq] at hpe
            rw [putAll_at it.chg p.2 H (fun q hq hqe => h1 q hq p hp hqe hpe) hkey hlt, putAll_at it.chg p.2 H' (fun q hq hqe => h1 q hq p hp hqe hpe) hkey (by omega)]
      · have e1 : (effNo it H)[e]? = none ∨ (effNo it H)[e]? = some none := by
          show (H ++ _)[e]? = none ∨ (H ++ _)[e]? = some none
          rw [List.getElem?_append_right hge, List.getElem?_map]
          cases it.nw[e - H.length]? <;> simp
        split
        · rename_i hw
          rw [hWS j hw]
          simp only [if_true]
          left
          show (putAll _ _ ++ _)[e]? = (putAll _ _ ++ _)[e]?
          rw [List.getElem?_append_right (by rw [putAll_len]; exact hge), List.getElem?_append_right (by rw [putAll_len]; omega), putAll_len, putAll_len, hl]
        · exact .inr e1
theorem effs_from {S : Nat → Bool} {e : Nat} {B : Blk} : ∀ (l : List DIt) (j : Nat) (H : Heap), (effs S j l H)[e]? = some (some B) → H[e]? = some (some B) ∨ ∃ k it, l[k]? = some it ∧ S (j + k) = true ∧ ((e, some B) ∈ it.chg ∨ some B ∈ it.nw)
  | [], j, H, h => .inl h
  | it :: l, j, H, h => by
    rcases effs_from l (j + 1) _ h with h1 | ⟨k, it', h1, h2, h3⟩
    · split at h1
      · rename_i hs
        rcases Nat.lt_or_ge e H.length with hlt | hge
        · rw [show effOne it H = putAll it.chg H ++ it.nw from rfl, List.getElem?_append_left (by rw [putAll_len]; exact hlt)] at h1
          have gen : ∀ (q : List (Nat × Option Blk)) (A : Heap), (putAll q A)[e]? = some (some B) → A[e]? = some (some B) ∨ (e, some B) ∈ q := by
            intro q
            induction q with
            | nil => intro A h; exact .inl h
            | cons p q ih =>
              intro A h
              rcases ih _ h with h1 | h1
              · rcases get_set h1 with ⟨h2, h3⟩ | ⟨_, h2⟩
                · refine .inr (List.mem_cons.2 (.inl ?_))
                  rw [h2, ← h3]
                · exact .inl h2
              · exact .inr (List.mem_cons_of_mem _ h1)
          rcases gen _ _ h1 with h2 | h2
          · exact .inl h2
          · exact .inr ⟨0, it, rfl, hs, .inl h2⟩
        · rw [show effOne it H = putAll it.chg H ++ it.nw from rfl, List.getElem?_append_right (by rw [putAll_len]; exact hge)] at h1
          exact .inr ⟨0, it, rfl, hs, .inr (List.mem_of_getElem? h1)⟩
      · rcases Nat.lt_or_ge e H.length with hlt | hge
        · rw [show effNo it H = H ++ _ from rfl, List.getElem?_append_left hlt] at h1
          exact .inl h1
        · rw [show effNo it H = H ++ _ from rfl, List.getElem?_append_right hge, List.getElem?_map] at h1
          cases hx : it.nw[e - H.length]? with
          | none => rw [hx] at h1; cases h1
          | some x => rw [hx] at h1; cases h1
    · exact .inr ⟨k + 1, it', by simpa using h1, by rw [show j + (k + 1) = j + 1 + k by omega]; exact h2, h3⟩
theorem putT_len {t : List V} {d : Option Nat} {v : V} : (putT t d v).length = t.length := by
  cases d <;> simp [putT]
theorem putT_other {t : List V} {d : Option Nat} {v : V} {s : Nat} (h : d ≠ some s) : (putT t d v)[s]? = t[s]? := by
  cases d with
  | none => rfl
  | some d => exact List.getElem?_set_ne (fun e => h (by rw [e]))
theorem slotsAt_len {ops : Array Oper} {S : Nat → Bool} : ∀ (l : List DIt) (j : Nat) (t : List V), (slotsAt ops S j l t).length = t.length
  | [], j, t => rfl
  | it :: l, j, t => by
    show (slotsAt ops S (j + 1) l _).length = _
    rw [slotsAt_len l]
    split
    · exact putT_len
    · rfl
theorem slotsAt_un {ops : Array Oper} {S : Nat → Bool} {s : Nat} : ∀ (l : List DIt) (j : Nat) (t : List V), (∀ k, k < l.length → S (j + k) = true → dstAt ops (j + k) ≠ some s) → (slotsAt ops S j l t)[s]? = t[s]?
  | [], j, t, _ => rfl
  | it :: l, j, t, h => by
    show (slotsAt ops S (j + 1) l _)[s]? = _
    rw [slotsAt_un l (j + 1) _ fun k hk hs => by have := h (k + 1) (by simp only [List.length_cons]; omega); rw [show j + (k + 1) = j + 1 + k by omega] at this; exact this hs]
    split
    · rename_i hs
      exact putT_other (h 0 (by simp) hs)
    · rfl
theorem slotsAt_at {ops : Array Oper} {S : Nat → Bool} {s : Nat} (once : ∀ i j, dstAt ops i = some s → dstAt ops j = some s → i = j) : ∀ (l : List DIt) (j : Nat) (t : List V) (k : Nat) (it : DIt), l[k]? = some it → S (j + k) = true → dstAt ops (j + k) = some s → s < t.length →
    (slotsAt ops S j l t)[s]? = some it.v
  | [], j, t, k, it, h, _, _, _ => by simp at h
  | x :: l, j, t, 0, it, h, hs, hd, hl => by
    simp only [List.getElem?_cons_zero, Option.some.injEq] at h
    subst h
    rw [Nat.add_zero] at hs hd
    show (slotsAt ops S (j + 1) l _)[s]? = _
    rw [slotsAt_un l (j + 1) _ fun k hk _ hd' => by have := once _ _ hd hd'; omega]
    rw [if_pos hs, hd]
    exact List.getElem?_set_self hl
  | x :: l, j, t, k + 1, it, h, hs, hd, hl => by
    show (slotsAt ops S (j + 1) l _)[s]? = _
    refine slotsAt_at once l (j + 1) _ k it (by simpa using h) (by rw [show j + 1 + k = j + (k + 1) by omega]; exact hs) (by rw [show j + 1 + k = j + (k + 1) by omega]; exact hd) ?_
    split
    · rw [putT_len]; exact hl
    · exact hl
end Go.Proofs.YteefjegampdpoaaDoor.E2
end
section
namespace Go.Proofs.YteefjegampdpoaaDoor.E2
open Go Go.RowKit
def hideT (ops : Array Oper) (t : List V) : List V := t.mapIdx fun s v => match v with
  | .any _ => .any s
  | v => if ops.toList.any (fun o => o.dst == some s) then .any s else v
def seeT (ops : Array Oper) (its : List DIt) (T0 : List V) (o : Oper) : List V := o.after.toList.foldl (fun T e => if Region.binds .any e then (match dstAt ops e.on, its[e.on]? with
  | some d, some it => T.set d it.v
  | _, _ => T) else T) T0
abbrev Olds := List (Nat × Nat × Bool)
def roB : Option Blk → Option Blk
  | some (.cells cs ty _) => some (.cells cs ty .ro)
  | _ => none
def seeB (L : Nat) (ops : Array Oper) (olds : Olds) (i b : Nat) (X : Option Blk) : Option Blk :=
  if b < L then X else if olds.any (fun p => p.2.1 == b && p.1 != i && !waitsB ops i p.1 && !waitsB ops p.1 i) then none else if olds.any (fun p => p.1 == i && p.2.1 == b) then X else roB X
def seeH (L : Nat) (ops : Array Oper) (olds : Olds) (its : List DIt) (i : Nat) (h : Heap) : Heap := (effs (waitsB ops i) 0 its h).mapIdx fun b X => seeB L ops olds i b X
def okN (ops : Array Oper) (its : List DIt) (n0 i m M b : Nat) : Bool := decide (b < n0) || (decide (m ≤ b) && decide (b < M)) || (List.range i).any fun k => waitsB ops i k && match its[k]? with
  | some it => decide (it.m ≤ b) && decide (b < it.m + it.nw.length)
  | none => false
def isRawV : V → Bool
  | .raw _ => true
  | .lit _ => true
  | _ => false
def okB (p : Nat → Bool) (opq : Bool) : Option Blk → Option (List Prop)
  | none => some []
  | some (.cells cs _ _) => if opq then some [cs.all isRawV = true] else if withins p cs then some [] else none
  | some B => if B.within p then some [] else none
def okBs (p : Nat → Bool) : List (Bool × Option Blk) → Option (List Prop)
  | [] => some []
  | (q, X) :: l => match okB p q X, okBs p l with
    | some a, some b => some (a ++ b)
    | _, _ => none
def liveB (X : Option (Option Blk)) : Bool := match X with
  | some (some _) => true
  | _ => false
def wrB : Option Blk → Bool
  | some B => B.wr
  | none => true
def evDo (c : Cfg) (cf : CF) (lim : Nat) (ops : Array Oper) (olds : Olds) (h : Heap) (T0 : List V) (i : Nat) (its : List DIt) (m : Nat) (ans : List Ans) (o : Oper) : Option (DIt × List Ans × List Prop) :=
  match evOp c cf lim (seeT ops its T0 o) (seeH c.L ops olds its i h) ans o with
  | none => none
  | some r =>
    if m ≤ r.h.length ∧ r.v.within (okN ops its h.length i m r.h.length) = true ∧ ((olds.filter (fun p => p.1 == i && decide (c.L ≤ p.2.1) && decide (p.2.1 < m))).all fun p => liveB (seeH c.L ops olds its i h)[p.2.1]?) = true ∧ (r.h.drop m).all wrB = true then
      match okBs (okN ops its h.length i m r.h.length) (((olds.filter (fun p => p.1 == i && decide (c.L ≤ p.2.1) && decide (p.2.1 < m))).map fun p => (p.2.2, (r.h[p.2.1]?).join)) ++ (r.h.drop m).mapIdx fun q X => (olds.any (fun p => p.1 == i && p.2.1 == m + q && p.2.2), X)) with
      | some cons => some (⟨r.v, m, (olds.filter (fun p => p.1 == i && decide (c.L ≤ p.2.1) && decide (p.2.1 < m))).map (fun p => (p.2.1, (r.h[p.2.1]?).join)), r.h.drop m⟩, r.ans, r.cons ++ cons)
      | none => none
    else none
def evD1 (c : Cfg) (cf : CF) (lim : Nat) (ops : Array Oper) (olds : Olds) (h : Heap) (T0 : List V) (i : Nat) (its : List DIt) (m : Nat) (ans : List Ans) (o : Oper) : Option (DIt × List Ans × List Prop) :=
  match o.guard with
  | none => evDo c cf lim ops olds h T0 i its m ans o
  | some (j, want) => if waitsB ops i j && (dstAt ops j).isSome then match its[j]? with
      | some it => match it.v with
        | .raw (.bool b) => match askB b ans with
          | some (q, ans', cons) => if q == want then match evDo c cf lim ops olds h T0 i its m ans' o with
              | some (d, a, cs) => some (d, a, cons ++ cs)
              | none => none
            else some (⟨.raw undef, m, [], []⟩, ans', cons)
          | none => none
        | _ => none
      | none => none
    else none
structure DROut where
  its : List DIt
  ans : List Ans
  cons : List Prop
def evD (c : Cfg) (cf : CF) (lim : Nat) (ops : Array Oper) (olds : Olds) (h : Heap) (T0 : List V) : Nat → List DIt → Nat → List Oper → List Ans → Option DROut
  | _, its, _, [], ans => some ⟨its, ans, []⟩
  | i, its, m, o :: rest, ans => match evD1 c cf lim ops olds h T0 i its m ans o with
    | none => none
    | some (d, ans', cons) => match evD c cf lim ops olds h T0 (i + 1) (its ++ [d]) (m + d.nw.length) rest ans' with
      | none => none
      | some r => some { r with cons := cons ++ r.cons }
def shapeB (ops : Array Oper) (n : Nat) (olds : Olds) : Bool :=
  ((List.range ops.size).all fun i => match ops[i]? with
    | some o => (o.after.all fun e => !Region.binds .any e || decide (e.on < i)) && (match o.dst with
        | some d => decide (d < n)
        | none => true) && ((List.range ops.size).all fun j => i == j || match ops[j]? with
        | some p => o.dst.isNone || o.dst != p.dst
        | none => true)
    | none => true) && (olds.all fun p => olds.all fun q => !(p.2.1 == q.2.1 && decide (p.1 < q.1)) || waitsB ops q.1 p.1)
def evDrawn (c : Cfg) (cf : CF) (lim : Nat) (ops : Array Oper) (t : List V) (h : Heap) (ans : List Ans) : Option ROut :=
  match ans with
  | .olds olds :: ans => if shapeB ops t.length (olds.map fun p => (p.1, p.2 / 2, p.2 % 2 == 1)) then match evD c cf lim ops (olds.map fun p => (p.1, p.2 / 2, p.2 % 2 == 1)) h (hideT ops t) 0 [] h.length ops.toList ans with
    | some d => some ⟨slotsAt ops (fun _ => true) 0 d.its t, effs (fun _ => true) 0 d.its h, d.ans, d.cons⟩
    | none => none
    else none
  | _ => none
structure ItOk (c : Cfg) (cf : CF) (lim : Nat) (ops : Array Oper) (olds : Olds) (h : Heap) (T0 : List V) (D : List DIt) (i : Nat) (o : Oper) (it : DIt) : Prop where
  m : it.m = grown (D.take i) h.length
  keys : ∀ p ∈ it.chg, c.L ≤ p.1 ∧ p.1 < it.m ∧ (∃ q, (i, p.1, q) ∈ olds) ∧ liveB (seeH c.L ops olds (D.take i) i h)[p.1]? = true
  fn : ∀ p ∈ it.chg, ∀ q ∈ it.chg, p.1 = q.1 → p.2 = q.2
  val : it.v.within (okN ops (D.take i) h.length i it.m (it.m + it.nw.length)) = true
  turned : ∀ p ∈ it.chg, ∀ B, p.2 = some B → B.within (okN ops (D.take i) h.length i it.m (it.m + it.nw.length)) = true
  news : ∀ B, some B ∈ it.nw → B.within (okN ops (D.take i) h.length i it.m (it.m + it.nw.length)) = true ∧ B.wr = true
  run : (∃ ans r, evOp c cf lim (seeT ops (D.take i) T0 o) (seeH c.L ops olds (D.take i) i h) ans o = some r ∧ (∀ p ∈ r.cons, p) ∧ it.v = r.v ∧ it.nw = r.h.drop it.m ∧ it.m ≤ r.h.length ∧ (∀ p ∈ it.chg, p.2 = (r.h[p.1]?).join) ∧ (∀ e q, (i, e, q) ∈ olds → c.L ≤ e → e < it.m → it.key e = true) ∧
      (o.guard = none ∨ ∃ j want jt b, o.guard = some (j, want) ∧ waitsB ops i j = true ∧ (dstAt ops j).isSome = true ∧ (D.take i)[j]? = some jt ∧ jt.v = .raw (.bool b) ∧ (b == want) = true)) ∨
    (it.v = .raw undef ∧ it.chg = [] ∧ it.nw = [] ∧ ∃ j want jt b, o.guard = some (j, want) ∧ waitsB ops i j = true ∧ (dstAt ops j).isSome = true ∧ (D.take i)[j]? = some jt ∧ jt.v = .raw (.bool b) ∧ (b == want) = false)
theorem okBs_ok {p : Nat → Bool} : ∀ (l : List (Bool × Option Blk)) (cons : List Prop), okBs p l = some cons → (∀ q ∈ cons, q) → ∀ x ∈ l, ∀ B, x.2 = some B → B.within p = true
  | [], cons, h, hc, x, hx, B, hB => by cases hx
  | (q, X) :: l, cons, h, hc, x, hx, B, hB => by
    simp only [okBs] at h
    split at h
    · rename_i a b ha hb
      simp only [Option.some.injEq] at h
      subst h
      rcases List.mem_cons.1 hx with rfl | hx
      · simp only at hB
        subst hB
        cases B with
        | cells cs ty own =>
          simp only [okB] at ha
          split at ha
          · simp only [Option.some.injEq] at ha
            subst ha
            have h1 : cs.all isRawV = true := hc _ (List.mem_append_left _ (List.mem_singleton.2 rfl))
            have key : ∀ l : List V, l.all isRawV = true → withins p l = true := by
              intro l
              induction l with
              | nil => intro _; rfl
              | cons v l ih =>
                intro hl
                simp only [List.all_cons, Bool.and_eq_true] at hl
                simp only [withins, Bool.and_eq_true]
                exact ⟨by cases v <;> first | rfl | simp [isRawV] at hl, ih hl.2⟩
            exact key cs h1
          · split at ha
            · rename_i h2; exact h2
            · cases ha
        | rcd r =>
          simp only [okB] at ha
          split at ha
          · rename_i h2; exact h2
          · cases ha
      · exact okBs_ok l b hb (fun q hq => hc q (List.mem_append_right _ hq)) x hx B hB
    · cases h
section
variable {c : Cfg} {cf : CF} {lim : Nat} {ops : Array Oper} {olds : Olds} {h : Heap} {T0 : List V}
theorem evDo_ok {i m : Nat} {its : List DIt} {D : List DIt} (hD : D.take i = its) (hm : m = grown its h.length) {ans ans' : List Ans} {o : Oper} {d : DIt} {cons : List Prop} (he : evDo c cf lim ops olds h T0 i its m ans o = some (d, ans', cons)) (hc : ∀ p ∈ cons, p)
    (hg : o.guard = none ∨ ∃ j want jt b, o.guard = some (j, want) ∧ waitsB ops i j = true ∧ (dstAt ops j).isSome = true ∧ its[j]? = some jt ∧ jt.v = .raw (.bool b) ∧ (b == want) = true) : d.m = m ∧ ItOk c cf lim ops olds h T0 D i o d := by
  unfold evDo at he
  split at he
  · cases he
  · rename_i r hr
    split at he
    · rename_i hh
      obtain ⟨h1, h2, h3, h4⟩ := hh
      split at he
      · rename_i cs hcs
        simp only [Option.some.injEq, Prod.mk.injEq] at he
        obtain ⟨rfl, rfl, rfl⟩ := he
        have hM : m + (r.h.drop m).length = r.h.length := by rw [List.length_drop]; omega
        have hok := okBs_ok _ _ hcs fun p hp => hc p (List.mem_append_right _ hp)
        have mem : ∀ p : Nat × Option Blk, p ∈ ((olds.filter (fun p => p.1 == i && decide (c.L ≤ p.2.1) && decide (p.2.1 < m))).map (fun p => (p.2.1, (r.h[p.2.1]?).join))) → ∃ x ∈ olds.filter (fun p => p.1 == i && decide (c.L ≤ p.2.1) && decide (p.2.1 < m)), p = (x.2.1, (r.h[x.2.1]?).join) := fun p hp => by
          obtain ⟨x, hx, rfl⟩ := List.mem_map.1 hp
          exact ⟨x, hx, rfl⟩
        subst hD
        refine ⟨rfl, hm, fun p hp => ?_, fun p hp q hq e => ?_, by simp only [hM]; exact h2, fun p hp B hB => ?_, fun B hB => ?_, .inl ⟨ans, r, hr, fun p hp => hc p (List.mem_append_left _ hp), rfl, rfl, h1, fun p hp => ?_, fun e q hq hL hlt => ?_, hg⟩⟩
        · obtain ⟨x, hx, rfl⟩ := mem p hp
          have hl := List.all_eq_true.1 h3 x hx
          simp only [List.mem_filter, Bool.and_eq_true, beq_iff_eq, decide_eq_true_eq] at hx
          obtain ⟨hx1, ⟨hx2, hx3⟩, hx4⟩ := hx
          refine ⟨hx3, hx4, ⟨x.2.2, ?_⟩, hl⟩
          rw [← hx2]
          exact hx1
        · obtain ⟨x, _, rfl⟩ := mem p hp
          obtain ⟨y, _, rfl⟩ := mem q hq
          simp only at e ⊢
          rw [e]
        · obtain ⟨x, hx, rfl⟩ := mem p hp
          simp only [hM]
          exact hok (x.2.2, (r.h[x.2.1]?).join) (List.mem_append_left _ (List.mem_map.2 ⟨x, hx, rfl⟩)) B hB
        · refine ⟨?_, List.all_eq_true.1 h4 _ hB⟩
          simp only [hM]
          obtain ⟨q, hq⟩ := List.mem_iff_getElem?.1 hB
          exact hok (olds.any (fun p => p.1 == i && p.2.1 == m + q && p.2.2), some B) (List.mem_append_right _ (List.mem_of_getElem? (i := q) (by rw [List.getElem?_mapIdx, hq]; rfl))) B rfl
        · obtain ⟨x, _, rfl⟩ := mem p hp
          rfl
        · refine List.any_eq_true.2 ⟨(e, (r.h[e]?).join), List.mem_map.2 ⟨(i, e, q), ?_, rfl⟩, by simp⟩
          exact List.mem_filter.2 ⟨hq, by simp [hL, hlt]⟩
      · cases he
    · cases he
theorem evD1_ok {i m : Nat} {its : List DIt} {D : List DIt} (hD : D.take i = its) (hm : m = grown its h.length) {ans ans' : List Ans} {o : Oper} {d : DIt} {cons : List Prop} (he : evD1 c cf lim ops olds h T0 i its m ans o = some (d, ans', cons)) (hc : ∀ p ∈ cons, p) : d.m = m ∧ ItOk c cf lim ops olds h T0 D i o d := by
  unfold evD1 at he
  split at he
  · rename_i hg
    exact evDo_ok hD hm he hc (.inl hg)
  · rename_i j want hg
    split at he
    · rename_i hb
      rw [Bool.and_eq_true] at hb
      split at he
      · rename_i jt hj
        split at he
        · rename_i b hv
          split at he
          · rename_i q ans1 cs1 hq
            split at he
            · rename_i hw
              split at he
              · rename_i d' a' cs hd
                simp only [Option.some.injEq, Prod.mk.injEq] at he
                obtain ⟨rfl, rfl, rfl⟩ := he
                have hbq : b = q := askB_ok hq fun p hp => hc p (List.mem_append_left _ hp)
                exact evDo_ok hD hm hd (fun p hp => hc p (List.mem_append_right _ hp)) (.inr ⟨j, want, jt, b, hg, hb.1, hb.2, hj, hv, by rw [hbq]; exact hw⟩)
              · cases he
            · rename_i hw
              simp only [Option.some.injEq, Prod.mk.injEq] at he
              obtain ⟨rfl, rfl, rfl⟩ := he
              have hbq : b = q := askB_ok hq hc
              subst hD
              exact ⟨rfl, hm, fun p hp => (by cases hp), fun p hp => (by cases hp), (by simp [V.within]), fun p hp => (by cases hp), fun B hB => (by cases hB), .inr ⟨rfl, rfl, rfl, j, want, jt, b, hg, hb.1, hb.2, hj, hv, by rw [hbq]; simpa using hw⟩⟩
          · cases he
        · cases he
      · cases he
    · cases he
theorem evD_ok : ∀ (rest : List Oper) (i : Nat) (its : List DIt) (m : Nat) (ans : List Ans) (r : DROut), evD c cf lim ops olds h T0 i its m rest ans = some r → (∀ p ∈ r.cons, p) → its.length = i → m = grown its h.length → (∀ k o, rest[k]? = some o → ops[i + k]? = some o) →
    its <+: r.its ∧ r.its.length = i + rest.length ∧ ∀ k o, rest[k]? = some o → ∃ d, r.its[i + k]? = some d ∧ ItOk c cf lim ops olds h T0 r.its (i + k) o d
  | [], i, its, m, ans, r, he, hc, hl, hm, ho => by
    simp only [evD, Option.some.injEq] at he
    subst he
    exact ⟨List.prefix_refl _, by simp [hl], fun k o hk => by simp at hk⟩
  | o :: rest, i, its, m, ans, r, he, hc, hl, hm, ho => by
    simp only [evD] at he
    split at he
    · cases he
    · rename_i d ans' cons hd
      split at he
      · cases he
      · rename_i r' hr'
        simp only [Option.some.injEq] at he
        subst he
        obtain ⟨h1, h2, h3⟩ := evD_ok rest (i + 1) (its ++ [d]) _ _ r' hr' (fun p hp => hc p (List.mem_append_right _ hp)) (by simp [hl]) (by rw [grown_append, ← hm]; rfl) fun k o' hk => by
          rw [show i + 1 + k = i + (k + 1) by omega]
          exact ho (k + 1) o' (by simpa using hk)
        have hp : its <+: r'.its := (List.prefix_append its [d]).trans h1
        have htk : r'.its.take i = its := by
          obtain ⟨u, hu⟩ := hp
          rw [← hu, ← hl]; simp
        refine ⟨hp, by simp only [h2, List.length_cons]; omega, fun k o' hk => ?_⟩
        cases k with
        | zero =>
          simp only [List.getElem?_cons_zero, Option.some.injEq] at hk
          subst hk
          obtain ⟨_, k2⟩ := evD1_ok (D := r'.its) htk hm hd fun p hp => hc p (List.mem_append_left _ hp)
          refine ⟨d, ?_, k2⟩
          obtain ⟨u, hu⟩ := h1
          show r'.its[i]? = some d
          rw [← hu, ← hl]
          simp
        | succ k =>
          obtain ⟨d', k1, k2⟩ := h3 k o' (by simpa using hk)
          rw [show i + 1 + k = i + (k + 1) by omega] at k1 k2
          exact ⟨d', k1, k2⟩
end
end Go.Proofs.YteefjegampdpoaaDoor.E2
end
section
namespace Go.Proofs.YteefjegampdpoaaDoor.E2
open Go Go.RowKit
theorem grown_take {D : List DIt} {n : Nat} : ∀ {i k : Nat}, i ≤ k → grown (D.take i) n ≤ grown (D.take k) n := fun {i k} h => by
  obtain ⟨q, rfl⟩ : ∃ q, k = i + q := ⟨k - i, by omega⟩
  rw [List.take_add, grown_append]
  exact grown_ge _ _
theorem grown_succ {D : List DIt} {n i : Nat} {it : DIt} (h : D[i]? = some it) : grown (D.take (i + 1)) n = grown (D.take i) n + it.nw.length := by
  rw [List.take_add_one, h, grown_append]
  rfl
theorem split_at {D : List DIt} {i : Nat} {it : DIt} (h : D[i]? = some it) : D = D.take i ++ it :: D.drop (i + 1) := by
  have hl : i < D.length := (List.getElem?_eq_some_iff.1 h).1
  have e : D[i] = it := (List.getElem?_eq_some_iff.1 h).2
  rw [← e, List.getElem_cons_drop, List.take_append_drop]
theorem mem_slotsAt {ops : Array Oper} {S : Nat → Bool} {x : V} : ∀ (l : List DIt) (j : Nat) (t : List V), x ∈ slotsAt ops S j l t → x ∈ t ∨ ∃ k it, l[k]? = some it ∧ S (j + k) = true ∧ x = it.v
  | [], j, t, h => .inl h
  | it :: l, j, t, h => by
    rcases mem_slotsAt l (j + 1) _ h with h1 | ⟨k, it', h1, h2, h3⟩
    · split at h1
      · rename_i hs
        cases hd : dstAt ops j with
        | none => rw [hd] at h1; exact .inl h1
        | some d =>
          rw [hd] at h1
          rcases List.mem_or_eq_of_mem_set h1 with h2 | h2
          · exact .inl h2
          · exact .inr ⟨0, it, rfl, hs, h2⟩
      · exact .inl h1
    · exact .inr ⟨k + 1, it', by simpa using h1, by rw [show j + (k + 1) = j + 1 + k by omega]; exact h2, h3⟩
mutual
theorem V.under_of {n : Nat} : ∀ x : V, x.within (fun b => decide (b < n)) = true → x.under n = true
  | .raw v, _ => rfl
  | .any k, h => by simp [V.within] at h
  | .ptr b o, hx => hx
  | .slo b l, hx => hx
  | .yld b, hx => hx
  | .fn f x y, hx => by
    simp only [V.under, V.within, Bool.and_eq_true] at *
    exact ⟨unders_of x hx.1, unders_of y hx.2⟩
  | .agg l, hx => by simp only [V.under, V.within] at *; exact unders_of l hx
  | .tup l, hx => by simp only [V.under, V.within] at *; exact unders_of l hx
  | .lit b, _ => rfl
theorem unders_of {n : Nat} : ∀ l : List V, withins (fun b => decide (b < n)) l = true → unders n l = true
  | [], _ => rfl
  | x :: l, hx => by
    simp only [unders, withins, Bool.and_eq_true] at *
    exact ⟨V.under_of x hx.1, unders_of l hx.2⟩
end
theorem V.slotOk_of {n : Nat} (x : V) (hx : x.slotIn (fun b => decide (b < n)) = true) : x.slotOk n = true := by
  cases x <;> first | rfl | exact V.under_of _ hx
theorem Blk.under_of {n : Nat} (B : Blk) (hB : B.within (fun b => decide (b < n)) = true) : B.under n = true := by
  cases B with
  | cells cs ty own => exact unders_of _ hB
  | rcd r =>
    simp only [Blk.under, Blk.within, List.all_eq_true] at hB ⊢
    exact fun x hx => V.slotOk_of x (hB x hx)
theorem roB_some {X : Option Blk} {B' : Blk} (h : roB X = some B') : ∃ cs ty own, X = some (.cells cs ty own) ∧ B' = .cells cs ty .ro := by
  cases X with
  | none => cases h
  | some B =>
    cases B with
    | cells cs ty own => cases h; exact ⟨cs, ty, own, rfl, rfl⟩
    | _ => cases h
section
variable {c : Cfg} {cf : CF} {lim : Nat} {ops : Array Oper} {olds : Olds} {h : Heap} {t : List V} {D : List DIt} {S : Nat → Bool}
structure Told (c : Cfg) (cf : CF) (lim : Nat) (ops : Array Oper) (olds : Olds) (h : Heap) (t : List V) (D : List DIt) : Prop where
  len : D.length = ops.size
  it : ∀ i o, ops[i]? = some o → ∃ d, D[i]? = some d ∧ ItOk c cf lim ops olds h (hideT ops t) D i o d
  back : ∀ (i : Nat) (o : Oper), ops[i]? = some o → ∀ e ∈ o.after, Region.binds .any e = true → e.on < i
  dst : ∀ i d, dstAt ops i = some d → d < t.length
  once : ∀ i j s, dstAt ops i = some s → dstAt ops j = some s → i = j
  chain : ∀ p ∈ olds, ∀ q ∈ olds, p.2.1 = q.2.1 → p.1 < q.1 → waitsB ops q.1 p.1 = true
def Closed (ops : Array Oper) (S : Nat → Bool) : Prop := ∀ i j, S i = true → waitsB ops i j = true → S j = true
theorem waits_lt (H : Told c cf lim ops olds h t D) {i j : Nat} (hw : waitsB ops i j = true) : j < i := by
  have key : ∀ (d i j : Nat), waitsN d ops i j = true → j < i := by
    intro d
    induction d with
    | zero => intro i j h; cases h
    | succ d ih =>
      intro i j h
      unfold waitsN at h
      split at h
      · rename_i o ho
        obtain ⟨e, he, hb⟩ := List.any_eq_true.1 h
        rw [Bool.and_eq_true, Bool.or_eq_true, beq_iff_eq] at hb
        have h1 := H.back i o ho e (Array.mem_toList_iff.1 he) hb.1
        rcases hb.2 with h2 | h2
        · omega
        · have := ih _ _ h2
          omega
      · cases h
  exact key 12 i j hw
theorem Told.of (H : Told c cf lim ops olds h t D) {i : Nat} {d : DIt} (hd : D[i]? = some d) : ∃ o, ops[i]? = some o ∧ ItOk c cf lim ops olds h (hideT ops t) D i o d := by
  have hl : i < ops.size := by rw [← H.len]; exact (List.getElem?_eq_some_iff.1 hd).1
  obtain ⟨d', h1, h2⟩ := H.it i _ (Array.getElem?_eq_getElem hl)
  obtain rfl := Option.some.inj (hd.symm.trans h1)
  exact ⟨_, Array.getElem?_eq_getElem hl, h2⟩
theorem Told.key (H : Told c cf lim ops olds h t D) {k e : Nat} {it : DIt} (hk : D[k]? = some it) (he : it.key e = true) : c.L ≤ e ∧ e < it.m ∧ (∃ q, (k, e, q) ∈ olds) ∧ liveB (seeH c.L ops olds (D.take k) k h)[e]? = true := by
  obtain ⟨o, _, h2⟩ := H.of hk
  obtain ⟨p, hp, hpe⟩ := List.any_eq_true.1 he
  rw [beq_iff_eq] at hpe
  subst hpe
  exact h2.keys p hp
theorem Told.fn (H : Told c cf lim ops olds h t D) {k : Nat} {it : DIt} (hk : D[k]? = some it) : ∀ p ∈ it.chg, ∀ q ∈ it.chg, p.1 = q.1 → p.2 = q.2 := by
  obtain ⟨o, _, h2⟩ := H.of hk
  exact h2.fn
theorem Told.m_le (H : Told c cf lim ops olds h t D) {k i : Nat} {it d : DIt} (hk : D[k]? = some it) (hi : D[i]? = some d) (hlt : k < i) : it.m + it.nw.length ≤ d.m := by
  obtain ⟨_, _, h2⟩ := H.of hk
  obtain ⟨_, _, h4⟩ := H.of hi
  rw [h2.m, h4.m, ← grown_succ hk]
  exact grown_take hlt
theorem Told.ok_lt (H : Told c cf lim ops olds h t D) {k : Nat} {it : DIt} (hk : D[k]? = some it) {b : Nat} (hb : okN ops (D.take k) h.length k it.m (it.m + it.nw.length) b = true) : b < it.m + it.nw.length := by
  obtain ⟨_, _, h2⟩ := H.of hk
  simp only [okN, Bool.or_eq_true, Bool.and_eq_true, decide_eq_true_eq] at hb
  rcases hb with (hb | hb) | hb
  · have := grown_ge (D.take k) h.length
    rw [← h2.m] at this
    omega
  · exact hb.2
  · obtain ⟨j, hj, hb⟩ := List.any_eq_true.1 hb
    rw [List.mem_range] at hj
    rw [Bool.and_eq_true] at hb
    obtain ⟨_, hb⟩ := hb
    split at hb
    · rename_i jt hjt
      rw [Bool.and_eq_true, decide_eq_true_eq, decide_eq_true_eq] at hb
      rw [List.getElem?_take, if_pos hj] at hjt
      have := H.m_le hjt hk hj
      omega
    · cases hb
theorem Told.sees (H : Told c cf lim ops olds h t D) (hC : Closed ops S) {i : Nat} (hS : S i = false) (hW : ∀ j, waitsB ops i j = true → S j = true) {e : Nat} {B' : Blk} (hB : (seeH c.L ops olds (D.take i) i h)[e]? = some (some B')) :
    ∃ B, (effs (waitsB ops i) 0 (D.take i) h)[e]? = some (some B) ∧ (effs S 0 D h)[e]? = some (some B) ∧ ((B' = B ∧ (e < c.L ∨ ∃ q, (i, e, q) ∈ olds)) ∨ roB (some B) = some B') := by
  unfold seeH at hB
  rw [List.getElem?_mapIdx, Option.map_eq_some_iff] at hB
  obtain ⟨X, hX, hB⟩ := hB
  have hX' : ∃ B, X = some B ∧ ((B' = B ∧ (e < c.L ∨ ∃ q, (i, e, q) ∈ olds)) ∨ roB (some B) = some B') ∧ (c.L ≤ e → ∀ p ∈ olds, p.2.1 = e → p.1 = i ∨ waitsB ops i p.1 = true ∨ waitsB ops p.1 i = true) := by
    unfold seeB at hB
    split at hB
    · rename_i hL
      exact ⟨B', hB, .inl ⟨rfl, .inl hL⟩, fun h => by omega⟩
    · split at hB
      · cases hB
      · rename_i hk
        have hrel : ∀ p ∈ olds, p.2.1 = e → p.1 = i ∨ waitsB ops i p.1 = true ∨ waitsB ops p.1 i = true := fun p hp hpe => by
          rw [Bool.not_eq_true, List.any_eq_false] at hk
          have := hk p hp
          simp only [hpe, beq_self_eq_true, Bool.true_and, Bool.and_eq_true, bne_iff_ne, Bool.not_eq_true', not_and, Bool.not_eq_false] at this
          by_cases h1 : p.1 = i
          · exact .inl h1
          · by_cases h2 : waitsB ops i p.1 = true
            · exact .inr (.inl h2)
            · exact .inr (.inr (this ⟨h1, by simpa using h2⟩))
        split at hB
        · rename_i hd
          obtain ⟨p, hp, hpe⟩ := List.any_eq_true.1 hd
          rw [Bool.and_eq_true, beq_iff_eq, beq_iff_eq] at hpe
          refine ⟨B', hB, .inl ⟨rfl, .inr ⟨p.2.2, ?_⟩⟩, fun _ => hrel⟩
          rw [← hpe.1, ← hpe.2]
          exact hp
        · obtain ⟨cs, ty, own, h1, h2⟩ := roB_some hB
          exact ⟨_, h1, .inr (by rw [h1] at hB; exact hB), fun _ => hrel⟩
  obtain ⟨B, rfl, hcase, hrel⟩ := hX'
  refine ⟨B, hX, ?_, hcase⟩
  have related : ∀ k it, D[k]? = some it → it.key e = true → k = i ∨ waitsB ops i k = true ∨ waitsB ops k i = true := fun k it hk hke => by
    obtain ⟨k1, _, ⟨q, k3⟩, _⟩ := H.key hk hke
    exact hrel k1 _ k3 rfl
  have h1 : (effs S 0 (D.take i) h)[e]? = some (some B) := by
    have := effs_less (W := waitsB ops i) (S := S) (e := e) (D.take i) 0 h h rfl (.inl rfl) hW fun k it hk hke => by
      rw [List.getElem?_take] at hk
      split at hk
      · rename_i hki
        refine ⟨fun p hp q hq e1 e2 => H.fn hk p hp q hq (e1.trans e2.symm), ?_⟩
        rw [Nat.zero_add]
        rcases related k it hk hke with rfl | h1 | h1
        · omega
        · rw [h1, hW k h1]
        · have := waits_lt H h1; omega
      · cases hk
    rcases this with h2 | h2 | h2
    · rw [← h2]; exact hX
    · rw [hX] at h2; cases h2
    · rw [hX] at h2; cases h2
  rw [show (effs S 0 D h) = effs S 0 (D.take i ++ D.drop i) h by rw [List.take_append_drop], effs_append, effs_stay _ _ _ (lt_len h1), h1]
  intro k it hk hs
  rw [List.getElem?_drop] at hk
  cases hke : it.key e with
  | false => rfl
  | true =>
    exfalso
    have hl : i < D.length := by
      have := (List.getElem?_eq_some_iff.1 hk).1
      omega
    have hlt : (D.take i).length = i := by rw [List.length_take]; omega
    rw [hlt, Nat.zero_add] at hs
    rcases related (i + k) it hk hke with h2 | h2 | h2
    · rw [h2, hS] at hs; cases hs
    · have := waits_lt H h2; omega
    · rw [hC _ _ hs h2] at hS; cases hS
theorem Told.unborn (H : Told c cf lim ops olds h t D) (hC : Closed ops S) {i : Nat} (hS : S i = false) {it : DIt} (hi : D[i]? = some it) {e : Nat} (h1 : it.m ≤ e) (h2 : e < it.m + it.nw.length) :
    ∀ k kt, i < k → D[k]? = some kt → S k = true → kt.key e = false := by
  intro k
  induction k using Nat.strongRecOn with
  | ind k ih =>
    intro kt hik hk hs
    cases hke : kt.key e with
    | false => rfl
    | true =>
      exfalso
      obtain ⟨_, _, _, hlive⟩ := H.key hk hke
      unfold seeH at hlive
      rw [List.getElem?_mapIdx] at hlive
      have hWi : waitsB ops k i = false := by
        cases hw : waitsB ops k i with
        | false => rfl
        | true => rw [hC _ _ hs hw] at hS; cases hS
      have hdead : (effs (waitsB ops k) 0 (D.take k) h)[e]? = some none := by
        have hi' : (D.take k)[i]? = some it := by rw [List.getElem?_take, if_pos hik]; exact hi
        rw [split_at hi', effs_append]
        have hlt : ((D.take k).take i).length = i := by
          rw [List.length_take, List.length_take]
          have := (List.getElem?_eq_some_iff.1 hk).1
          omega
        have hm : it.m = (effs (waitsB ops k) 0 ((D.take k).take i) h).length := by
          obtain ⟨_, _, h4⟩ := H.of hi
          rw [effs_len, h4.m, List.take_take, Nat.min_eq_left (by omega)]
        rw [hlt, Nat.zero_add]
        show (effs _ (i + 1) _ (if waitsB ops k i = true then _ else _))[e]? = _
        rw [hWi]
        simp only [Bool.false_eq_true, if_false]
        have hat : (effNo it (effs (waitsB ops k) 0 ((D.take k).take i) h))[e]? = some none := by
          show (_ ++ _)[e]? = _
          rw [List.getElem?_append_right (by omega), List.getElem?_map, List.getElem?_eq_getElem (by omega)]
          rfl
        rw [effs_stay _ _ _ (lt_len hat), hat]
        intro q qt hq hw
        rw [List.getElem?_drop, List.getElem?_take] at hq
        split at hq
        · rename_i hqk
          exact ih (i + 1 + q) hqk qt (by omega) hq (hC _ _ hs hw)
        · cases hq
      rw [hdead] at hlive
      simp only [Option.map_some] at hlive
      unfold seeB at hlive
      split at hlive
      · cases hlive
      · split at hlive
        · cases hlive
        · split at hlive <;> cases hlive
theorem Told.after (H : Told c cf lim ops olds h t D) (hC : Closed ops S) {i : Nat} (hS : S i = false) {it : DIt} (hi : D[i]? = some it) :
    (∀ e X, (e, X) ∈ it.chg → (effs (fun k => S k || k == i) 0 D h)[e]? = some X) ∧
    (∀ e, it.m ≤ e → e < it.m + it.nw.length → (effs (fun k => S k || k == i) 0 D h)[e]? = it.nw[e - it.m]? ∧ (effs S 0 D h)[e]? = some none) ∧
    (∀ e, it.key e = false → (e < it.m ∨ it.m + it.nw.length ≤ e) → (effs (fun k => S k || k == i) 0 D h)[e]? = (effs S 0 D h)[e]?) := by
  obtain ⟨o, ho, hok⟩ := H.of hi
  have hlt : (D.take i).length = i := by
    rw [List.length_take]
    have := (List.getElem?_eq_some_iff.1 hi).1
    omega
  have e1 : effs (fun k => S k || k == i) 0 D h = effs S (i + 1) (D.drop (i + 1)) (effOne it (effs S 0 (D.take i) h)) := by
    conv => lhs; rw [split_at hi]
    rw [effs_append, hlt, Nat.zero_add]
    show effs _ (i + 1) _ (if (S i || i == i) = true then _ else _) = _
    rw [effs_congr (S := fun k => S k || k == i) (T := S) (D.take i) 0 h fun k h1 h2 => by
      have : ¬ k = i := by omega
      simp [this]]
    simp only [beq_self_eq_true, Bool.or_true, if_true]
    exact effs_congr _ _ _ fun k h1 h2 => by
      have : ¬ k = i := by omega
      simp [this]
  have e2 : effs S 0 D h = effs S (i + 1) (D.drop (i + 1)) (effNo it (effs S 0 (D.take i) h)) := by
    conv => lhs; rw [split_at hi]
    rw [effs_append, hlt, Nat.zero_add]
    show effs _ (i + 1) _ (if S i = true then _ else _) = _
    rw [hS]
    rfl
  have hm : it.m = (effs S 0 (D.take i) h).length := by rw [effs_len, hok.m]
  refine ⟨fun e X hX => ?_, fun e h1 h2 => ?_, fun e hk hr => ?_⟩
  · have hke : it.key e = true := List.any_eq_true.2 ⟨_, hX, by simp⟩
    obtain ⟨k1, k2, ⟨q, k3⟩, _⟩ := H.key hi hke
    have hat : (effOne it (effs S 0 (D.take i) h))[e]? = some X := by
      show (putAll _ _ ++ _)[e]? = _
      rw [List.getElem?_append_left (by rw [putAll_len]; omega)]
      exact putAll_at it.chg X _ (fun p hp hpe => H.fn hi p hp _ hX hpe) hke (by omega)
    rw [e1, effs_stay _ _ _ (lt_len hat), hat]
    intro k kt hk hs
    rw [List.getElem?_drop] at hk
    cases hke' : kt.key e with
    | false => rfl
    | true =>
      exfalso
      obtain ⟨_, _, ⟨q', j3⟩, _⟩ := H.key hk hke'
      have := H.chain _ k3 _ j3 rfl (by simp only; omega)
      rw [hC _ _ hs this] at hS
      cases hS
  · have stay : ∀ k kt, (D.drop (i + 1))[k]? = some kt → S (i + 1 + k) = true → kt.key e = false := fun k kt hk hs => by
      rw [List.getElem?_drop] at hk
      exact H.unborn hC hS hi h1 h2 _ kt (by omega) hk hs
    have hn : it.nw[e - it.m]? = some (it.nw[e - it.m]'(by omega)) := List.getElem?_eq_getElem _
    constructor
    · have hat : (effOne it (effs S 0 (D.take i) h))[e]? = it.nw[e - it.m]? := by
        show (putAll _ _ ++ _)[e]? = _
        rw [List.getElem?_append_right (by rw [putAll_len]; omega), putAll_len, ← hm]
      rw [e1, effs_stay _ _ _ (lt_len (hat.trans hn)) stay, hat]
    · have hat : (effNo it (effs S 0 (D.take i) h))[e]? = some none := by
        show (_ ++ _)[e]? = _
        rw [List.getElem?_append_right (by omega), List.getElem?_map, ← hm, hn]
        rfl
      rw [e2, effs_stay _ _ _ (lt_len hat) stay, hat]
  · rw [e1, e2]
    refine effs_same _ _ _ _ (by rw [effOne_len, effNo_len]) ?_
    rcases hr with hr | hr
    · show (putAll _ _ ++ _)[e]? = (_ ++ _)[e]?
      rw [List.getElem?_append_left (by rw [putAll_len]; omega), List.getElem?_append_left (by omega), putAll_no _ _ hk]
    · rw [List.getElem?_eq_none (by rw [effOne_len]; omega), List.getElem?_eq_none (by rw [effNo_len]; omega)]
def okS (D : List DIt) (S : Nat → Bool) (n0 b : Nat) : Prop := b < n0 ∨ ∃ k it, D[k]? = some it ∧ S k = true ∧ it.m ≤ b ∧ b < it.m + it.nw.length
theorem Told.okS_of (H : Told c cf lim ops olds h t D) (hC : Closed ops S) {k : Nat} {it : DIt} (hk : D[k]? = some it) (hs : S k = true) {b : Nat} (hb : okN ops (D.take k) h.length k it.m (it.m + it.nw.length) b = true) : okS D S h.length b := by
  simp only [okN, Bool.or_eq_true, Bool.and_eq_true, decide_eq_true_eq] at hb
  rcases hb with (hb | hb) | hb
  · exact .inl hb
  · exact .inr ⟨k, it, hk, hs, hb⟩
  · obtain ⟨j, hj, hb⟩ := List.any_eq_true.1 hb
    rw [Bool.and_eq_true] at hb
    obtain ⟨hw, hb⟩ := hb
    split at hb
    · rename_i jt hjt
      rw [Bool.and_eq_true, decide_eq_true_eq, decide_eq_true_eq] at hb
      rw [List.getElem?_take] at hjt
      split at hjt
      · exact .inr ⟨j, jt, hjt, hC _ _ hs hw, hb⟩
      · cases hjt
    · cases hb
theorem Told.okS_far (H : Told c cf lim ops olds h t D) {i : Nat} (hS : S i = false) {it : DIt} (hi : D[i]? = some it) {b : Nat} (hb : okS D S h.length b) : ¬ (it.m ≤ b ∧ b < it.m + it.nw.length) := by
  rintro ⟨h1, h2⟩
  rcases hb with hb | ⟨k, kt, hk, hs, k1, k2⟩
  · obtain ⟨_, _, h4⟩ := H.of hi
    have := grown_ge (D.take i) h.length
    rw [← h4.m] at this
    omega
  · rcases Nat.lt_trichotomy k i with hlt | rfl | hgt
    · have := H.m_le hk hi hlt; omega
    · rw [hS] at hs; cases hs
    · have := H.m_le hi hk hgt; omega
end
end Go.Proofs.YteefjegampdpoaaDoor.E2
end
section
namespace Go.Proofs.YteefjegampdpoaaDoor.E2
open Go Go.RowKit
section
variable {c : Cfg} {cf : CF} {lim : Nat} {ops : Array Oper} {olds : Olds} {h : Heap} {t : List V} {D : List DIt} {S : Nat → Bool}
theorem hide_get {s : Nat} {v : V} (hv : (hideT ops t)[s]? = some v) : v = .any s ∨ (t[s]? = some v ∧ (∀ j, dstAt ops j ≠ some s) ∧ ∀ k, v ≠ .any k) := by
  unfold hideT at hv
  rw [List.getElem?_mapIdx, Option.map_eq_some_iff] at hv
  obtain ⟨x, hx, hv⟩ := hv
  cases x with
  | any k => exact .inl hv.symm
  | _ =>
    simp only at hv
    split at hv
    · exact .inl hv.symm
    · rename_i hn
      subst hv
      refine .inr ⟨hx, fun j hj => hn ?_, fun k e => by cases e⟩
      unfold dstAt at hj
      obtain ⟨o, ho, hd⟩ := Option.bind_eq_some_iff.1 hj
      exact List.any_eq_true.2 ⟨o, Array.mem_toList_iff.2 (Array.mem_of_getElem? ho), by simp [hd]⟩
theorem see_get {its : List DIt} {T0 : List V} {o : Oper} {i : Nat} (ho : ops[i]? = some o) : (seeT ops its T0 o).length = T0.length ∧ ∀ s v, (seeT ops its T0 o)[s]? = some v → T0[s]? = some v ∨ ∃ j jt, waitsB ops i j = true ∧ dstAt ops j = some s ∧ its[j]? = some jt ∧ v = jt.v := by
  have gen : ∀ (l : List Edge) (T : List V), (∀ e ∈ l, e ∈ o.after.toList) → (T.length = T0.length ∧ ∀ s v, T[s]? = some v → T0[s]? = some v ∨ ∃ j jt, waitsB ops i j = true ∧ dstAt ops j = some s ∧ its[j]? = some jt ∧ v = jt.v) →
      (l.foldl (fun T e => if Region.binds .any e then (match dstAt ops e.on, its[e.on]? with
  | some d, some it => T.set d it.v
  | _, _ => T) else T) T).length = T0.length ∧ ∀ s v, (l.foldl (fun T e => if Region.binds .any e then (match dstAt ops e.on, its[e.on]? with
  | some d, some it => T.set d it.v
  | _, _ => T) else T) T)[s]? = some v → T0[s]? = some v ∨ ∃ j jt, waitsB ops i j = true ∧ dstAt ops j = some s ∧ its[j]? = some jt ∧ v = jt.v := by
    intro l
    induction l with
    | nil => intro T _ hT; exact hT
    | cons e l ih =>
      intro T hl hT
      refine ih _ (fun e' he' => hl e' (List.mem_cons_of_mem _ he')) ?_
      dsimp only
      split
      · rename_i hb
        split
        · rename_i d jt hd hj
          refine ⟨by rw [List.length_set]; exact hT.1, fun s v hv => ?_⟩
          rcases Nat.decEq d s with hne | rfl
          · rw [List.getElem?_set_ne hne] at hv; exact hT.2 s v hv
          · have hl' : d < T.length := by
              have := (List.getElem?_eq_some_iff.1 hv).1
              rwa [List.length_set] at this
            rw [List.getElem?_set_self hl'] at hv
            refine .inr ⟨e.on, jt, ?_, hd, hj, (Option.some.inj hv).symm⟩
            exact waitsB_edge ho (hl e List.mem_cons_self) hb
        · exact hT
      · exact hT
  exact gen o.after.toList T0 (fun _ h => h) ⟨rfl, fun s v hv => .inl hv⟩
theorem hide_len : (hideT ops t).length = t.length := by simp [hideT]
structure Inv (c : Cfg) (lim : Nat) (ops : Array Oper) (h : Heap) (t : List V) (D : List DIt) (ρ0 : Ren) (a0 : Act) (w0 : World) (S : Nat → Bool) (a : Act) (w : World) (ρ : Ren) : Prop where
  unk : ρ.unk = ρ0.unk
  defers : a.defers = a0.defers
  T : RelT ρ (grown D h.length) (slotsAt ops S 0 D t) a
  H : RelH c ρ (effs S 0 D h) w
  F : Fr lim h.length ρ0 h w0 ρ (effs S 0 D h) w
variable {ρ0 : Ren} {a0 : Act} {w0 : World} {a : Act} {w : World} {ρ : Ren}
theorem Told.seesT (H : Told c cf lim ops olds h t D) (R0 : RelT ρ0 h.length t a0) (I : Inv c lim ops h t D ρ0 a0 w0 S a w ρ) {i : Nat} {o : Oper} {it : DIt} (ho : ops[i]? = some o) (hi : D[i]? = some it) (hW : ∀ j, waitsB ops i j = true → S j = true) :
    RelT ⟨ρ.blk, fun s => a.tmps.getD s undef⟩ it.m (seeT ops (D.take i) (hideT ops t) o) a := by
  obtain ⟨hlen, hget⟩ := see_get (its := D.take i) (T0 := hideT ops t) ho
  have hm : h.length ≤ it.m := by
    obtain ⟨_, _, h4⟩ := H.of hi
    rw [h4.m]; exact grown_ge _ _
  have hts : a.tmps.size = t.length := by rw [I.T.tmps]; simp [concs_length, slotsAt_len]
  have slot : ∀ s : Nat, ((slotsAt ops S 0 D t)[s]?).map (fun x : V => x.conc ρ) = a.tmps[s]? := fun s => by
    rw [I.T.tmps]; simp [concs_get]
  have old : ∀ {s : Nat} {v : V}, t[s]? = some v → (∀ k, v ≠ .any k) → v.under h.length = true := fun {s v} hs hna => by
    have := R0.sco v (List.mem_of_getElem? hs)
    cases v with
    | any k => exact absurd rfl (hna k)
    | _ => exact this
  have item : ∀ {j : Nat} {jt : DIt}, (D.take i)[j]? = some jt → D[j]? = some jt ∧ j < i := fun {j jt} hj => by
    rw [List.getElem?_take] at hj
    split at hj
    · rename_i hlt; exact ⟨hj, hlt⟩
    · cases hj
  refine ⟨?_, fun x hx => ?_⟩
  · apply Array.ext_getElem?
    intro s
    have et : ∀ l : List Value, l.toArray[s]? = l[s]? := fun l => List.getElem?_toArray
    rw [et (concs ⟨ρ.blk, fun s => a.tmps.getD s undef⟩ (seeT ops (D.take i) (hideT ops t) o)), concs_get]
    rcases Nat.lt_or_ge s t.length with hs | hs
    · have hsome : (seeT ops (D.take i) (hideT ops t) o)[s]? = some ((seeT ops (D.take i) (hideT ops t) o)[s]'(by rw [hlen, hide_len]; exact hs)) := List.getElem?_eq_getElem _
      generalize (seeT ops (D.take i) (hideT ops t) o)[s]'(by rw [hlen, hide_len]; exact hs) = v at hsome
      rw [hsome]
      have hany : a.tmps[s]? = some ((V.any s).conc ⟨ρ.blk, fun s => a.tmps.getD s undef⟩) := by simp [V.conc, hts, hs]
      rcases hget s v hsome with h1 | ⟨j, jt, h1, h2, h3, rfl⟩
      · rcases hide_get h1 with rfl | ⟨h2, h3, h4⟩
        · exact hany
        · rw [← slot s, slotsAt_un D 0 t fun k _ _ => by rw [Nat.zero_add]; exact h3 k, h2]
          simp only [Option.map_some]
          rw [← V.conc_agree (ρ := ρ) (ρ' := ⟨ρ.blk, fun s => a.tmps.getD s undef⟩) (fun _ _ => rfl) v (old h2 h4)]
      · obtain ⟨h4, _⟩ := item h3
        rw [← slot s, slotsAt_at (fun i j h5 h6 => H.once i j s h5 h6) D 0 t j jt h4 (by rw [Nat.zero_add]; exact hW j h1) (by rw [Nat.zero_add]; exact h2) hs]
        simp only [Option.map_some]
        obtain ⟨_, _, h5⟩ := H.of h4
        rw [← V.conc_in (ρ := ρ) (ρ' := ⟨ρ.blk, fun s => a.tmps.getD s undef⟩) (fun _ _ => rfl) _ h5.val]
    · rw [Array.getElem?_eq_none (by omega), List.getElem?_eq_none (by rw [hlen, hide_len]; exact hs)]
      rfl
  · obtain ⟨s, hs⟩ := List.mem_iff_getElem?.1 hx
    rcases hget s x hs with h1 | ⟨j, jt, h1, h2, h3, rfl⟩
    · rcases hide_get h1 with rfl | ⟨h2, h3, h4⟩
      · rfl
      · exact V.slot_of_under _ (V.under_mono hm _ (old h2 h4))
    · obtain ⟨h4, h5⟩ := item h3
      obtain ⟨_, _, h6⟩ := H.of h4
      refine V.slot_of_under _ (V.under_of _ (V.within_mono (fun b hb => ?_) _ h6.val))
      have := H.ok_lt h4 hb
      have := H.m_le h4 hi h5
      simp only [decide_eq_true_eq]; omega
theorem Told.entry (H : Told c cf lim ops olds h t D) {W : Nat → Bool} (hC : ∀ k, W k = true → ∀ j, waitsB ops k j = true → W j = true ∨ True) (hsco : ∀ (i : Nat) (B : Blk), h[i]? = some (some B) → B.under h.length = true) {l : List DIt} (hl : l <+: D) {e : Nat} {B : Blk} (he : (effs W 0 l h)[e]? = some (some B)) :
    B.under h.length = true ∨ ∃ k it, l[k]? = some it ∧ D[k]? = some it ∧ W k = true ∧ B.within (okN ops (D.take k) h.length k it.m (it.m + it.nw.length)) = true := by
  rcases effs_from l 0 h he with h1 | ⟨k, it, h1, h2, h3⟩
  · exact .inl (hsco e B h1)
  · rw [Nat.zero_add] at h2
    have hk : D[k]? = some it := by
      obtain ⟨u, rfl⟩ := hl
      rw [List.getElem?_append_left (List.getElem?_eq_some_iff.1 h1).1]; exact h1
    obtain ⟨o, _, h4⟩ := H.of hk
    refine .inr ⟨k, it, h1, hk, h2, ?_⟩
    rcases h3 with h3 | h3
    · exact h4.turned _ h3 B rfl
    · exact (h4.news B h3).1
theorem Told.seesH (H : Told c cf lim ops olds h t D) (hC : Closed ops S) (hL : c.L ≤ lim) (hlh : lim ≤ h.length) (RH0 : RelH c ρ0 h w0) (I : Inv c lim ops h t D ρ0 a0 w0 S a w ρ) {i : Nat} {it : DIt} (hi : D[i]? = some it) (hS : S i = false) (hW : ∀ j, waitsB ops i j = true → S j = true) (u : Nat → Value) :
    RelH c ⟨ρ.blk, u⟩ (seeH c.L ops olds (D.take i) i h) w ∧ (seeH c.L ops olds (D.take i) i h).length = it.m := by
  obtain ⟨o, ho, hok⟩ := H.of hi
  have hlen : (seeH c.L ops olds (D.take i) i h).length = it.m := by unfold seeH; rw [List.length_mapIdx, effs_len, hok.m]
  have hm : h.length ≤ it.m := by rw [hok.m]; exact grown_ge _ _
  refine ⟨⟨fun e B' hB => ?_, fun x y hx hy he => ?_, fun e B' hB => ?_, fun p hp => ?_, by rw [hlen]; have := RH0.big; omega, fun e he => ?_⟩, hlen⟩
  · obtain ⟨B, _, h2, h3⟩ := H.sees hC hS hW hB
    have h4 : BlkOk c.P ⟨ρ.blk, u⟩ (ρ.blk e) w B := (I.H.cell e B h2).move (I.H.sco e B h2) (fun _ _ => rfl) (fun _ => rfl)
    rcases h3 with ⟨rfl, _⟩ | h3
    · exact h4
    · obtain ⟨cs, ty, own, h5, rfl⟩ := roB_some h3
      obtain rfl := Option.some.inj h5
      refine ⟨h4.nil, fun hn => ?_, fun sz hsz => (by cases hsz)⟩
      obtain ⟨fr, h6, _⟩ := h4.row hn
      exact ⟨fr, h6, fun hro => absurd rfl hro⟩
  · obtain ⟨B', x1, x2, x3⟩ := hx
    obtain ⟨C', y1, y3⟩ := hy
    obtain ⟨B, _, h2, h3⟩ := H.sees hC hS hW x1
    obtain ⟨C, _, k2, k3⟩ := H.sees hC hS hW y1
    refine I.H.inj x y ⟨B, h2, ?_, x3⟩ ⟨C, k2, y3⟩ he
    rcases h3 with ⟨rfl, _⟩ | h3
    · exact x2
    · obtain ⟨cs, ty, own, _, rfl⟩ := roB_some h3
      cases x2
  · obtain ⟨B, h1, h2, h3⟩ := H.sees hC hS hW hB
    rw [hlen]
    have h4 : B.under it.m = true := by
      rcases H.entry (W := waitsB ops i) (fun _ _ _ _ => .inr trivial) RH0.sco (List.take_prefix i D) h1 with h5 | ⟨k, kt, h5, h6, h7, h8⟩
      · exact Blk.under_mono hm _ h5
      · refine Blk.under_of _ (Blk.within_mono (fun b hb => ?_) _ h8)
        have hki := waits_lt H h7
        have := H.ok_lt h6 hb
        have := H.m_le h6 hi hki
        simp only [decide_eq_true_eq]; omega
    rcases h3 with ⟨rfl, _⟩ | h3
    · exact h4
    · obtain ⟨cs, ty, own, h5, rfl⟩ := roB_some h3
      obtain rfl := Option.some.inj h5
      exact h4
  · obtain ⟨g1, g2, g3⟩ := RH0.glob p hp
    have hb := I.F.ren p.2 g3
    refine ⟨?_, ?_, by rw [hlen]; omega⟩
    · show (ρ.blk p.2).n = p.1
      rw [hb, g1]
    · show (ρ.blk p.2).pre = []
      rw [hb, g2]
  · have hbig := RH0.big
    unfold seeH
    rw [List.getElem?_mapIdx, effs_stay _ _ _ (by omega) fun k kt hk _ => ?_]
    · rw [RH0.base e he]
      have : ∀ X : Option (Option Blk), X.map (fun X => seeB c.L ops olds i e X) = X := fun X => by
        cases X with
        | none => rfl
        | some X => simp [seeB, he]
      exact this _
    · cases hke : kt.key e with
      | false => rfl
      | true =>
        have hk' : D[k]? = some kt := by
          rw [List.getElem?_take] at hk
          split at hk
          · exact hk
          · cases hk
        have := (H.key hk' hke).1
        omega
theorem Told.step (H : Told c cf lim ops olds h t D) (hC : Closed ops S) (hL : c.L ≤ lim) (hlh : lim ≤ h.length) (RH0 : RelH c ρ0 h w0) (R0 : RelT ρ0 h.length t a0) (I : Inv c lim ops h t D ρ0 a0 w0 S a w ρ) {i : Nat} {o : Oper} {it : DIt} (ho : ops[i]? = some o) (hi : D[i]? = some it) (hS : S i = false) (hW : ∀ j, waitsB ops i j = true → S j = true)
    {v : V} {oh : Heap} {ρ' : Ren} {w' : World} (hv : it.v = v) (hnw : it.nw = oh.drop it.m) (hml : it.m ≤ oh.length) (hval : ∀ p ∈ it.chg, p.2 = (oh[p.1]?).join) (hdecl : ∀ e q, (i, e, q) ∈ olds → c.L ≤ e → e < it.m → it.key e = true) {u : Nat → Value}
    (RH' : RelH c ρ' oh w') (F' : Fr lim it.m ⟨ρ.blk, u⟩ (seeH c.L ops olds (D.take i) i h) w ρ' oh w') : ∃ ρ2, Inv c lim ops h t D ρ0 a0 w0 (fun k => S k || k == i) (a.put o.dst (v.conc ρ')) w' ρ2 := by
  obtain ⟨_, ho', hok⟩ := H.of hi
  obtain rfl : o = _ := Option.some.inj (ho.symm.trans ho')
  obtain ⟨A1, A2, A3⟩ := H.after hC hS hi
  obtain ⟨RHs, hslen⟩ := H.seesH hC hL hlh RH0 I hi hS hW u
  have hM : it.m + it.nw.length = oh.length := by rw [hnw, List.length_drop]; omega
  have hm : h.length ≤ it.m := by rw [hok.m]; exact grown_ge _ _
  have hN : it.m + it.nw.length ≤ grown D h.length := by
    rw [hok.m, ← grown_succ hi]
    have := grown_take (D := D) (n := h.length) (i := i + 1) (k := D.length) (List.getElem?_eq_some_iff.1 hi).1
    rwa [List.take_length] at this
  rw [hM] at A2 A3
  generalize hρ2 : (⟨fun e => if it.m ≤ e ∧ e < oh.length then ρ'.blk e else ρ.blk e, ρ.unk⟩ : Ren) = ρ2
  have b2 : ∀ e, ρ2.blk e = if it.m ≤ e ∧ e < oh.length then ρ'.blk e else ρ.blk e := fun e => by rw [← hρ2]
  have bnew : ∀ e, it.m ≤ e → e < oh.length → ρ2.blk e = ρ'.blk e := fun e h1 h2 => by rw [b2, if_pos ⟨h1, h2⟩]
  have bold : ∀ e, ¬ (it.m ≤ e ∧ e < oh.length) → ρ2.blk e = ρ.blk e := fun e h1 => by rw [b2, if_neg h1]
  have bren : ∀ e, e < it.m → ρ'.blk e = ρ.blk e := fun e h1 => F'.ren e h1
  have blow : ∀ e, e < oh.length → ρ2.blk e = ρ'.blk e := fun e h1 => by
    rcases Nat.lt_or_ge e it.m with h2 | h2
    · rw [bold e (by omega), bren e h2]
    · exact bnew e h2 h1
  have bok : ∀ b, okN ops (D.take i) h.length i it.m (it.m + it.nw.length) b = true → ρ2.blk b = ρ'.blk b := fun b hb => blow b (by have := H.ok_lt hi hb; omega)
  have bfar : ∀ b, okS D S h.length b → ρ2.blk b = ρ.blk b := fun b hb => bold b (by have := H.okS_far hS hi hb; rw [hM] at this; exact this)
  -- names of entries that stay
  have within : ∀ (e : Nat) (B : Blk), (effs S 0 D h)[e]? = some (some B) → ∃ p : Nat → Bool, B.within p = true ∧ ∀ b, p b = true → ρ2.blk b = ρ.blk b := fun e B he => by
    rcases H.entry (W := S) (fun _ _ _ _ => .inr trivial) RH0.sco (List.prefix_refl D) he with h5 | ⟨k, kt, _, h6, h7, h8⟩
    · exact ⟨_, Blk.within_of B h5, fun b hb => bfar b (.inl (by simpa using hb))⟩
    · exact ⟨_, h8, fun b hb => bfar b (H.okS_of hC h6 h7 hb)⟩
  -- kinds of entries
  have kind : ∀ (e : Nat) (B : Blk), (effs (fun k => S k || k == i) 0 D h)[e]? = some (some B) →
      (∃ q, (e, some B) ∈ it.chg ∧ e < it.m ∧ (i, e, q) ∈ olds ∧ oh[e]? = some (some B) ∧ ∃ C, (effs S 0 D h)[e]? = some (some C)) ∨ (it.m ≤ e ∧ e < oh.length ∧ some B ∈ it.nw ∧ oh[e]? = some (some B)) ∨ ((effs S 0 D h)[e]? = some (some B) ∧ it.key e = false ∧ ¬ (it.m ≤ e ∧ e < oh.length)) := fun e B he => by
    cases hke : it.key e with
    | true =>
      obtain ⟨p, hp, hpe⟩ := List.any_eq_true.1 hke
      rw [beq_iff_eq] at hpe
      subst hpe
      obtain ⟨k1, k2, ⟨q, k3⟩, k4⟩ := H.key hi hke
      have h1 := A1 p.1 p.2 hp
      rw [he] at h1
      have h2 : some B = p.2 := Option.some.inj h1
      have h3 := hval p hp
      rw [← h2] at h3
      refine .inl ⟨q, by rw [h2]; exact hp, k2, k3, ?_, ?_⟩
      · cases hx : oh[p.1]? with
        | none => rw [hx] at h3; cases h3
        | some X => rw [hx] at h3; simp only [Option.join_some] at h3; rw [← h3]
      · unfold liveB at k4
        split at k4
        · rename_i B' hB'
          obtain ⟨C, _, h5, _⟩ := H.sees hC hS hW hB'
          exact ⟨C, h5⟩
        · cases k4
    | false =>
      by_cases hr : it.m ≤ e ∧ e < oh.length
      · obtain ⟨h1, _⟩ := A2 e hr.1 hr.2
        rw [he] at h1
        refine .inr (.inl ⟨hr.1, hr.2, List.mem_of_getElem? h1.symm, ?_⟩)
        rw [hnw, List.getElem?_drop, show it.m + (e - it.m) = e by omega] at h1
        exact h1.symm
      · have h1 := A3 e hke (by omega)
        exact .inr (.inr (And.intro (h1.symm.trans he) (And.intro rfl hr)))
  have slw : ∀ e, lw ⟨ρ.blk, u⟩ (seeH c.L ops olds (D.take i) i h) e → lw ρ (effs S 0 D h) e ∧ (lim ≤ e → it.key e = true) := fun e he => by
    obtain ⟨B', h1, h2, h3⟩ := he
    obtain ⟨B, _, h5, h6⟩ := H.sees hC hS hW h1
    rcases h6 with ⟨rfl, h6⟩ | h6
    · refine ⟨⟨_, h5, h2, h3⟩, fun hl => ?_⟩
      rcases h6 with h6 | ⟨q, h6⟩
      · omega
      · exact hdecl e q h6 (by omega) (by have := lt_len h1; omega)
    · obtain ⟨cs, ty, own, _, rfl⟩ := roB_some h6
      cases h2
  have same : ∀ e, lv ρ (effs S 0 D h) e → it.key e = false → w'.heap[(ρ.blk e).n]? = w.heap[(ρ.blk e).n]? := fun e he hk => by
    refine F'.blk _ (I.H.lt he) fun j hj hlwj hn => ?_
    obtain ⟨h1, h2⟩ := slw j hlwj
    have := I.H.inj j e h1 he hn
    subst this
    rw [h2 hj] at hk
    cases hk
  -- what lies behind a new name
  have fresh : ∀ e, it.m ≤ e → lw ρ' oh e → w.heap.size ≤ (ρ'.blk e).n ∨ ∃ j, lim ≤ j ∧ lw ρ (effs S 0 D h) j ∧ it.key j = true ∧ (ρ'.blk e).n = (ρ.blk j).n := fun e h1 h2 => by
    rcases F'.fresh e h1 h2 with h3 | ⟨j, h3, h4, h5⟩
    · exact .inl h3
    · obtain ⟨h6, h7⟩ := slw j h4
      exact .inr ⟨j, h3, h6, h7 h3, h5⟩
  have hRH : RelH c ρ2 (effs (fun k => S k || k == i) 0 D h) w' := by
    refine ⟨fun e B he => ?_, fun x y hx hy hxy => ?_, fun e B he => ?_, fun p hp => ?_, ?_, fun e he => ?_⟩
    · rcases kind e B he with ⟨q, k1, k2, k3, k4, _⟩ | ⟨k1, k2, k3, k4⟩ | ⟨k1, k2, k3⟩
      · rw [blow e (by omega)]
        exact (RH'.cell e B k4).moveIn (hok.turned _ k1 B rfl) bok (fun _ => rfl)
      · rw [bnew e k1 k2]
        exact (RH'.cell e B k4).moveIn (hok.news B k3).1 bok (fun _ => rfl)
      · obtain ⟨p, p1, p2⟩ := within e B k1
        rw [bold e k3]
        exact (I.H.cell e B k1).moveIn p1 p2 fun hn => same e ⟨B, k1, hn⟩ k2
    · obtain ⟨B, x1, x2, x3⟩ := hx
      obtain ⟨C, y1, y3⟩ := hy
      rcases kind x B x1 with ⟨q, k1, k2, k3, k4, X, k5⟩ | ⟨k1, k2, k3, k4⟩ | ⟨k1, k2, k3⟩
      · -- x was turned
        rw [blow x (by omega)] at x3 hxy
        have hlx : lw ρ' oh x := ⟨B, k4, x2, x3⟩
        have hlx0 : lw ρ (effs S 0 D h) x := (slw x (F'.dead x k2 hlx)).1
        rw [bren x k2] at hxy
        rcases kind y C y1 with ⟨q', j1, j2, j3, j4, Y, j5⟩ | ⟨j1, j2, j3, j4⟩ | ⟨j1, j2, j3⟩
        · rw [blow y (by omega)] at y3 hxy
          exact RH'.inj x y hlx ⟨C, j4, y3⟩ (by rw [bren x k2]; exact hxy)
        · rw [bnew y j1 j2] at y3 hxy
          exact RH'.inj x y hlx ⟨C, j4, y3⟩ (by rw [bren x k2]; exact hxy)
        · rw [bold y j3] at y3 hxy
          exact I.H.inj x y hlx0 ⟨C, j1, y3⟩ hxy
      · -- x is new
        rw [bnew x k1 k2] at x3 hxy
        have hlx : lw ρ' oh x := ⟨B, k4, x2, x3⟩
        rcases kind y C y1 with ⟨q', j1, j2, j3, j4, Y, j5⟩ | ⟨j1, j2, j3, j4⟩ | ⟨j1, j2, j3⟩
        · rw [blow y (by omega)] at y3 hxy
          exact RH'.inj x y hlx ⟨C, j4, y3⟩ hxy
        · rw [bnew y j1 j2] at y3 hxy
          exact RH'.inj x y hlx ⟨C, j4, y3⟩ hxy
        · exfalso
          rw [bold y j3] at y3 hxy
          have hly : lv ρ (effs S 0 D h) y := ⟨C, j1, y3⟩
          rcases fresh x k1 hlx with h3 | ⟨j, _, h4, h5, h6⟩
          · have := I.H.lt hly; omega
          · have := I.H.inj j y h4 hly (h6.symm.trans hxy)
            subst this
            rw [h5] at j2
            cases j2
      · -- x stays
        rw [bold x k3] at x3 hxy
        have hlx : lw ρ (effs S 0 D h) x := ⟨B, k1, x2, x3⟩
        rcases kind y C y1 with ⟨q', j1, j2, j3, j4, Y, j5⟩ | ⟨j1, j2, j3, j4⟩ | ⟨j1, j2, j3⟩
        · rw [bold y (by omega)] at y3 hxy
          exact I.H.inj x y hlx ⟨Y, j5, y3⟩ hxy
        · exfalso
          rw [bnew y j1 j2] at y3 hxy
          have hly : lw ρ' oh y := ⟨C, j4, (hok.news C j3).2, y3⟩
          rcases fresh y j1 hly with h3 | ⟨j, _, h4, h5, h6⟩
          · have := I.H.lt hlx.lv; omega
          · have := I.H.inj x j hlx h4.lv (hxy.trans h6)
            subst this
            rw [h5] at k2
            cases k2
        · rw [bold y j3] at y3 hxy
          exact I.H.inj x y hlx ⟨C, j1, y3⟩ hxy
    · rw [effs_len]
      rcases kind e B he with ⟨q, k1, _⟩ | ⟨k1, k2, k3, k4⟩ | ⟨k1, k2, k3⟩
      · refine Blk.under_of _ (Blk.within_mono (fun b hb => ?_) _ (hok.turned _ k1 B rfl))
        have := H.ok_lt hi hb
        simp only [decide_eq_true_eq]; omega
      · refine Blk.under_of _ (Blk.within_mono (fun b hb => ?_) _ (hok.news B k3).1)
        have := H.ok_lt hi hb
        simp only [decide_eq_true_eq]; omega
      · have := I.H.sco e B k1
        rw [effs_len] at this
        exact this
    · obtain ⟨g1, g2, g3⟩ := RH0.glob p hp
      have hb : ρ2.blk p.2 = ρ0.blk p.2 := by rw [bold _ (by omega), I.F.ren _ g3]
      refine ⟨by rw [hb, g1], by rw [hb, g2], ?_⟩
      rw [effs_len]
      have := grown_ge D h.length
      omega
    · rw [effs_len]
      have := grown_ge D h.length
      have := RH0.big
      omega
    · have hke : it.key e = false := by
        cases hke : it.key e with
        | false => rfl
        | true => have := (H.key hi hke).1; omega
      have hbig := RH0.big
      rw [A3 e hke (by omega)]
      exact I.H.base e he
  have hF : Fr lim h.length ρ (effs S 0 D h) w ρ2 (effs (fun k => S k || k == i) 0 D h) w' := by
    refine ⟨F'.os, F'.tape, F'.output, F'.size, fun k hk hn => F'.blk k hk fun j hj hlwj => hn j hj (slw j hlwj).1, fun e he => bold e (by omega), ?_, fun e he hl => ?_, fun e he hl => ?_⟩
    · rw [effs_len]; exact grown_ge _ _
    · obtain ⟨B, x1, x2, x3⟩ := hl
      rcases kind e B x1 with ⟨q, k1, k2, k3, k4, X, k5⟩ | ⟨k1, k2, k3, k4⟩ | ⟨k1, k2, k3⟩
      · rw [blow e (by omega)] at x3
        have hlx0 := (slw e (F'.dead e k2 ⟨B, k4, x2, x3⟩)).1
        exact .inr ⟨e, by omega, hlx0, by rw [blow e (by omega), bren e k2]⟩
      · rw [bnew e k1 k2] at x3 ⊢
        rcases fresh e k1 ⟨B, k4, x2, x3⟩ with h3 | ⟨j, h3, h4, _, h6⟩
        · exact .inl h3
        · exact .inr ⟨j, h3, h4, h6⟩
      · rw [bold e k3] at x3 ⊢
        exact .inr ⟨e, by omega, ⟨B, k1, x2, x3⟩, rfl⟩
    · obtain ⟨B, x1, x2, x3⟩ := hl
      rcases kind e B x1 with ⟨q, k1, k2, k3, k4, X, k5⟩ | ⟨k1, k2, k3, k4⟩ | ⟨k1, k2, k3⟩
      · rw [blow e (by omega)] at x3
        exact (slw e (F'.dead e k2 ⟨B, k4, x2, x3⟩)).1
      · omega
      · rw [bold e k3] at x3
        exact ⟨B, k1, x2, x3⟩
  refine ⟨ρ2, by rw [← hρ2]; exact I.unk, by rw [put_defers]; exact I.defers, ?_, hRH, I.F.trans hF⟩
  -- the slots
  have hslots : slotsAt ops (fun k => S k || k == i) 0 D t = putT (slotsAt ops S 0 D t) o.dst v := by
    have hdst : dstAt ops i = o.dst := by simp [dstAt, ho]
    apply List.ext_getElem?
    intro s
    rcases Nat.lt_or_ge s t.length with hs | hs
    · by_cases hds : dstAt ops i = some s
      · rw [slotsAt_at (fun i j h5 h6 => H.once i j s h5 h6) D 0 t i it hi (by simp) (by rw [Nat.zero_add]; exact hds) hs, ← hdst, hds]
        simp only [putT]
        rw [List.getElem?_set_self (by rw [slotsAt_len]; exact hs), hv]
      · rw [putT_other (by rw [← hdst]; exact hds)]
        by_cases hex : ∃ k, k < D.length ∧ S k = true ∧ dstAt ops k = some s
        · obtain ⟨k, k1, k2, k3⟩ := hex
          rw [slotsAt_at (fun i j h5 h6 => H.once i j s h5 h6) D 0 t k D[k] (List.getElem?_eq_getElem k1) (by simp [k2]) (by rw [Nat.zero_add]; exact k3) hs, slotsAt_at (fun i j h5 h6 => H.once i j s h5 h6) D 0 t k D[k] (List.getElem?_eq_getElem k1) (by simp [k2]) (by rw [Nat.zero_add]; exact k3) hs]
        · rw [slotsAt_un D 0 t fun k k1 k2 k3 => ?_, slotsAt_un D 0 t fun k k1 k2 k3 => ?_]
          · rw [Nat.zero_add] at k2 k3
            exact hex ⟨k, k1, k2, k3⟩
          · rw [Nat.zero_add] at k2 k3
            simp only [Bool.or_eq_true, beq_iff_eq] at k2
            rcases k2 with k2 | rfl
            · exact hex ⟨k, k1, k2, k3⟩
            · exact hds k3
    · rw [List.getElem?_eq_none (by rw [slotsAt_len]; exact hs), List.getElem?_eq_none (by rw [putT_len, slotsAt_len]; exact hs)]
  rw [hslots]
  have hvc : v.conc ρ' = v.conc ρ2 := by
    rw [← hv]
    exact (V.conc_in bok _ hok.val).symm
  rw [hvc]
  have hold : concs ρ2 (slotsAt ops S 0 D t) = concs ρ (slotsAt ops S 0 D t) := by
    rw [concs_map, concs_map]
    refine List.map_congr_left fun x hx => ?_
    rcases mem_slotsAt D 0 t hx with h1 | ⟨k, kt, h1, h2, rfl⟩
    · exact V.slotIn_conc (p := fun b => decide (b < h.length)) (fun b hb => bfar b (.inl (by simpa using hb))) (by rw [← hρ2]) x (V.slotIn_of _ (R0.sco x h1))
    · rw [Nat.zero_add] at h2
      obtain ⟨_, _, h3⟩ := H.of h1
      exact V.conc_in (fun b hb => bfar b (H.okS_of hC h1 h2 hb)) _ h3.val
  have hT : RelT ρ2 (grown D h.length) (slotsAt ops S 0 D t) a := ⟨by rw [hold]; exact I.T.tmps, I.T.sco⟩
  refine relT_put hT (fun _ _ => rfl) rfl (Nat.le_refl _) (V.slot_of_under _ (V.under_of _ (V.within_mono (fun b hb => ?_) _ (by rw [← hv]; exact hok.val)))) o.dst
  have := H.ok_lt hi hb
  simp only [decide_eq_true_eq]; omega
end
end Go.Proofs.YteefjegampdpoaaDoor.E2
end
section
namespace Go.Proofs.YteefjegampdpoaaDoor.E2
open Go Go.RowKit
section
variable {c : Cfg} {cf : CF} {lim : Nat} {ops : Array Oper} {olds : Olds} {h : Heap} {t : List V}
theorem told_of {ans : List Ans} {d : DROut} (he : evD c cf lim ops olds h (hideT ops t) 0 [] h.length ops.toList ans = some d) (hc : ∀ p ∈ d.cons, p) (hs : shapeB ops t.length olds = true) : Told c cf lim ops olds h t d.its := by
  obtain ⟨_, h2, h3⟩ := evD_ok ops.toList 0 [] h.length ans d he hc rfl rfl fun k o hk => by rw [Nat.zero_add, ← Array.getElem?_toList]; exact hk
  simp only [shapeB, Bool.and_eq_true] at hs
  obtain ⟨s1, s2⟩ := hs
  have at1 : ∀ (i : Nat) (o : Oper), ops[i]? = some o → (o.after.all fun e => !Region.binds .any e || decide (e.on < i)) = true ∧ (match o.dst with
        | some d => decide (d < t.length)
        | none => true) = true ∧ ∀ (j : Nat) (p : Oper), ops[j]? = some p → i = j ∨ (o.dst.isNone || o.dst != p.dst) = true := fun i o ho => by
    have := List.all_eq_true.1 s1 i (List.mem_range.2 (itm_lt ho))
    rw [ho] at this
    simp only [Bool.and_eq_true] at this
    refine ⟨this.1.1, this.1.2, fun j p hp => ?_⟩
    have h4 := List.all_eq_true.1 this.2 j (List.mem_range.2 (itm_lt hp))
    rw [hp] at h4
    simp only [Bool.or_eq_true, beq_iff_eq] at h4 ⊢
    rcases h4 with h4 | h4
    · exact .inl h4
    · exact .inr h4
  refine ⟨by rw [h2, Nat.zero_add, Array.length_toList], fun i o ho => ?_, fun i o ho e he hb => ?_, fun i s hi => ?_, fun i j s hi hj => ?_, fun p hp q hq e1 e2 => ?_⟩
  · have := h3 i o (by rw [Array.getElem?_toList]; exact ho)
    rw [Nat.zero_add] at this
    exact this
  · have := Array.all_eq_true'.1 (at1 i o ho).1 e he
    simpa [hb] using this
  · unfold dstAt at hi
    obtain ⟨o, ho, hd⟩ := Option.bind_eq_some_iff.1 hi
    have := (at1 i o ho).2.1
    rw [hd] at this
    simpa using this
  · unfold dstAt at hi hj
    obtain ⟨o, ho, hd⟩ := Option.bind_eq_some_iff.1 hi
    obtain ⟨p, hp, hd'⟩ := Option.bind_eq_some_iff.1 hj
    rcases (at1 i o ho).2.2 j p hp with h4 | h4
    · exact h4
    · simp [hd, hd'] at h4
  · have := List.all_eq_true.1 (List.all_eq_true.1 s2 p hp) q hq
    simpa [e1, e2] using this
def up (listed : Array Bool) (k : Nat) : Bool := listed[k]? == some true
theorem up_set {listed : Array Bool} {i : Nat} (hi : listed[i]? = some false) (k : Nat) : up (listed.setIfInBounds i true) k = (up listed k || k == i) := by
  have hl : i < listed.size := (Array.getElem?_eq_some_iff.1 hi).1
  unfold up
  rw [Array.getElem?_setIfInBounds]
  by_cases hk : i = k
  · subst hk; simp [hl]
  · have : ¬ k = i := fun e => hk e.symm
    simp [hk, this]
theorem slotsAt_congr {S T : Nat → Bool} : ∀ (l : List DIt) (j : Nat) (t : List V), (∀ k, j ≤ k → k < j + l.length → S k = T k) → slotsAt ops S j l t = slotsAt ops T j l t
  | [], j, t, _ => rfl
  | it :: l, j, t, h => by
    show slotsAt ops S (j + 1) l _ = slotsAt ops T (j + 1) l _
    rw [h j (Nat.le_refl _) (by simp), slotsAt_congr l (j + 1) _ fun k h1 h2 => h k (by omega) (by simp only [List.length_cons]; omega)]
theorem wpAny_told {D : List DIt} {r : Option Nat} {ρ0 : Ren} {a0 : Act} {w0 : World} {Q : Exit → Act → World → Prop} (hcf : CallOk c cf) (hfn : ∀ f, c.fns f = true → Callable c.P f) (H : Told c cf lim ops olds h t D) (hL : c.L ≤ lim) (hlh : lim ≤ h.length) (RH0 : RelH c ρ0 h w0) (R0 : RelT ρ0 h.length t a0)
    (hend : ∀ ρ a w, Inv c lim ops h t D ρ0 a0 w0 (fun _ => true) a w ρ → Q .normal a w) :
    ∀ (fuel : Nat) (listed : Array Bool) (a : Act) (w : World) (ρ : Ren), listed.size = ops.size → Closed ops (up listed) → Inv c lim ops h t D ρ0 a0 w0 (up listed) a w ρ → left listed ≤ fuel → wpAnyIn (FW r) 0 c.P .any ops Q fuel listed a w := by
  have done : ∀ (listed : Array Bool) (a : Act) (w : World) (ρ : Ren), listed.size = ops.size → Inv c lim ops h t D ρ0 a0 w0 (up listed) a w ρ → Region.ready .any ops listed = [] → Q .normal a w := fun listed a w ρ hsz I hr => by
    have hall := all_of_ready H.back hsz hr
    have hS : ∀ k, k < D.length → up listed k = true := fun k hk => by simp [up, hall k (by rw [← H.len]; exact hk)]
    have e1 : effs (fun _ => true) 0 D h = effs (up listed) 0 D h := effs_congr D 0 h fun k _ hk => (hS k (by omega)).symm
    have e2 : slotsAt ops (fun _ => true) 0 D t = slotsAt ops (up listed) 0 D t := slotsAt_congr D 0 t fun k _ hk => (hS k (by omega)).symm
    exact hend ρ a w ⟨I.unk, I.defers, by rw [e2]; exact I.T, by rw [e1]; exact I.H, by rw [e1]; exact I.F⟩
  intro fuel
  induction fuel with
  | zero =>
    intro listed a w ρ hsz hC I hc
    have hr : Region.ready .any ops listed = [] := by
      rcases hrd : Region.ready .any ops listed with _ | ⟨i, l⟩
      · rfl
      · exfalso
        obtain ⟨o, ho, hf, _⟩ := ready_spec hsz (i := i) (by rw [hrd]; exact List.mem_cons_self)
        have := left_set hf
        omega
    exact ⟨hr, done listed a w ρ hsz I hr⟩
  | succ fuel ih =>
    intro listed a w ρ hsz hC I hc
    refine ⟨done listed a w ρ hsz I, fun i hi => ?_⟩
    obtain ⟨o, ho, hf, haft⟩ := ready_spec hsz hi
    obtain ⟨it, hit, hok⟩ := H.it i o ho
    have hcount := left_set hf
    have hS : up listed i = false := by simp [up, hf]
    have hW : ∀ j, waitsB ops i j = true → up listed j = true := fun j hw => by
      unfold waitsB waitsN at hw
      rw [ho] at hw
      obtain ⟨e, he, hb⟩ := List.any_eq_true.1 hw
      rw [Bool.and_eq_true, Bool.or_eq_true, beq_iff_eq] at hb
      have h1 : up listed e.on = true := by simp [up, haft e (Array.mem_toList_iff.1 he) hb.1]
      rcases hb.2 with h2 | h2
      · rw [← h2]; exact h1
      · exact hC e.on j h1 (waitsN_mono 11 ops e.on j h2)
    have hS' : up (listed.setIfInBounds i true) = fun k => up listed k || k == i := funext (up_set hf)
    have hC' : Closed ops (up (listed.setIfInBounds i true)) := fun x y hx hxy => by
      rw [hS'] at hx ⊢
      simp only [Bool.or_eq_true, beq_iff_eq] at hx ⊢
      rcases hx with hx | rfl
      · exact .inl (hC x y hx hxy)
      · exact .inl (hW y hxy)
    have next : ∀ (a' : Act) (w' : World), (∃ ρ2, Inv c lim ops h t D ρ0 a0 w0 (fun k => up listed k || k == i) a' w' ρ2) → wpAnyIn (FW r) 0 c.P .any ops Q fuel (listed.setIfInBounds i true) a' w' := fun a' w' ⟨ρ2, I'⟩ =>
      ih _ a' w' ρ2 (by simp [hsz]) hC' (by rw [hS']; exact I') (by omega)
    have flag : ∀ j jt b, waitsB ops i j = true → (dstAt ops j).isSome = true → (D.take i)[j]? = some jt → jt.v = .raw (.bool b) → yielded ops a.tmps j = some b := fun j jt b hw hd hj hv => by
      obtain ⟨d, hd⟩ := Option.isSome_iff_exists.1 hd
      have hj' : D[j]? = some jt := by
        rw [List.getElem?_take] at hj
        split at hj
        · exact hj
        · cases hj
      have hat := slotsAt_at (S := up listed) (fun x y h5 h6 => H.once x y d h5 h6) D 0 t j jt hj' (by rw [Nat.zero_add]; exact hW j hw) (by rw [Nat.zero_add]; exact hd) (H.dst j d hd)
      have hy : a.tmps[d]? = some (.bool b) := by
        rw [I.T.tmps, List.getElem?_toArray, concs_get, hat, hv]; rfl
      have hd' : (ops[j]?).bind (·.dst) = some d := hd
      simp [yielded, hd', hy]
    unfold wpOpIn
    rw [ho]
    dsimp only
    rcases hok.run with ⟨ans, q, h1, h2, h3, h4, h5, h6, h7, h8⟩ | ⟨h1, h2, h3, j, want, jt, b, h4, h5, h6, h7, h8, h9⟩
    · have hw : Region.wanted o (yielded ops a.tmps) = true := by
        unfold Region.wanted
        rcases h8 with h8 | ⟨j, want, jt, b, g1, g2, g3, g4, g5, g6⟩
        · rw [h8]
        · rw [g1]
          simp only
          rw [flag j jt b g2 g3 g4 g5]
          simpa using g6
      rw [hw, if_pos rfl]
      obtain ⟨RHs, hslen⟩ := H.seesH hC hL hlh RH0 I hit hS hW (fun s => a.tmps.getD s undef)
      have RTs := H.seesT R0 I ho hit hW
      rw [← hslen] at RTs
      refine evOp_sound hcf hfn h1 h2 RHs RTs hL (by rw [hslen, hok.m]; exact Nat.le_trans hlh (grown_ge _ _)) fun ρ' w' e1 e2 e3 e4 => next _ _ ?_
      rw [hslen] at e3
      exact H.step hC hL hlh RH0 R0 I ho hit hS hW h3 h4 h5 h6 h7 e2 e3
    · have hw : ¬ Region.wanted o (yielded ops a.tmps) = true := by
        unfold Region.wanted
        rw [h4]
        simp only
        rw [flag j jt b h5 h6 h7 h8]
        simpa using h9
      rw [if_neg hw]
      refine ⟨fun _ _ => trivial, next _ _ ?_⟩
      obtain ⟨RHs, hslen⟩ := H.seesH hC hL hlh RH0 I hit hS hW (fun s => a.tmps.getD s undef)
      -- as an operation that leaves all as it is
      obtain ⟨A1, A2, A3⟩ := H.after hC hS hit
      have hsame : ∀ e, (effs (fun k => up listed k || k == i) 0 D h)[e]? = (effs (up listed) 0 D h)[e]? := fun e => A3 e (by simp [DIt.key, h2]) (by rw [h3]; simp; omega)
      have he : effs (fun k => up listed k || k == i) 0 D h = effs (up listed) 0 D h := List.ext_getElem? hsame
      refine ⟨ρ, I.unk, by rw [put_defers]; exact I.defers, ?_, by rw [he]; exact I.H, by rw [he]; exact I.F⟩
      have hslots : slotsAt ops (fun k => up listed k || k == i) 0 D t = putT (slotsAt ops (up listed) 0 D t) o.dst (.raw undef) := by
        have hdst : dstAt ops i = o.dst := by simp [dstAt, ho]
        apply List.ext_getElem?
        intro s
        rcases Nat.lt_or_ge s t.length with hs | hs
        · by_cases hds : dstAt ops i = some s
          · rw [slotsAt_at (fun x y h5 h6 => H.once x y s h5 h6) D 0 t i it hit (by simp) (by rw [Nat.zero_add]; exact hds) hs, ← hdst, hds]
            simp only [putT]
            rw [List.getElem?_set_self (by rw [slotsAt_len]; exact hs), h1]
          · rw [putT_other (by rw [← hdst]; exact hds)]
            by_cases hex : ∃ k, k < D.length ∧ up listed k = true ∧ dstAt ops k = some s
            · obtain ⟨k, k1, k2, k3⟩ := hex
              rw [slotsAt_at (fun x y h5 h6 => H.once x y s h5 h6) D 0 t k D[k] (List.getElem?_eq_getElem k1) (by simp [k2]) (by rw [Nat.zero_add]; exact k3) hs, slotsAt_at (fun x y h5 h6 => H.once x y s h5 h6) D 0 t k D[k] (List.getElem?_eq_getElem k1) (by simp [k2]) (by rw [Nat.zero_add]; exact k3) hs]
            · rw [slotsAt_un D 0 t fun k k1 k2 k3 => ?_, slotsAt_un D 0 t fun k k1 k2 k3 => ?_]
              · rw [Nat.zero_add] at k2 k3
                exact hex ⟨k, k1, k2, k3⟩
              · rw [Nat.zero_add] at k2 k3
                simp only [Bool.or_eq_true, beq_iff_eq] at k2
                rcases k2 with k2 | rfl
                · exact hex ⟨k, k1, k2, k3⟩
                · exact hds k3
        · rw [List.getElem?_eq_none (by rw [slotsAt_len]; exact hs), List.getElem?_eq_none (by rw [putT_len, slotsAt_len]; exact hs)]
      rw [hslots]
      exact relT_put I.T (fun _ _ => rfl) rfl (Nat.le_refl _) (v := .raw undef) rfl o.dst
theorem evDrawn_sound {r : Option Nat} (hm : c.P.follows .mixedOrders = true) (hcf : CallOk c cf) (hfn : ∀ f, c.fns f = true → Callable c.P f) (hL : c.L ≤ lim) (hlh : lim ≤ h.length) {id : Nat} {Q : Exit → Act → World → Prop}
    {ans : List Ans} {q : ROut} {ρ : Ren} {a : Act} {w : World} (he : evDrawn c cf lim ops t h ans = some q) (hc : ∀ p ∈ q.cons, p) (RH : RelH c ρ h w) (RT : RelT ρ h.length t a)
    (hQ : ∀ ρ' a' w', ρ'.unk = ρ.unk → a'.defers = a.defers → RelT ρ' q.h.length q.t a' → RelH c ρ' q.h w' → Fr lim h.length ρ h w ρ' q.h w' → Q .normal a' w') : (Code.region id ops true).wpIn (FW r) 0 c.P Q a w := by
  unfold evDrawn at he
  split at he
  · rename_i olds0 ans0
    split at he
    · rename_i hs
      split at he
      · rename_i d hd
        simp only [Option.some.injEq] at he
        subst he
        have H := told_of hd hc hs
        have RHd : RelH c ρ h w.drew := ⟨fun i B hi => (RH.cell i B hi).move (RH.sco i B hi) (fun _ _ => rfl) (fun _ => rfl), RH.inj, RH.sco, RH.glob, RH.big, RH.base⟩
        refine wpIn_region_any hm (wpAny_told (ρ0 := ρ) (a0 := a) hcf hfn H hL hlh RHd RT (fun ρ' a' w' I => ?_) _ _ _ _ ρ (by simp) ?_ ?_ (by simp [left]))
        · refine hQ ρ' a' w' I.unk I.defers (by rw [effs_len]; exact I.T) I.H ?_
          have F := I.F
          exact ⟨F.os, F.tape, F.output, F.size, F.blk, F.ren, F.len, F.fresh, F.dead⟩
        · intro i j hi _
          simp only [up, Array.getElem?_replicate] at hi
          split at hi <;> simp at hi
        · have no : ∀ k, up (Array.replicate ops.size false) k = false := fun k => by
            simp only [up, Array.getElem?_replicate]
            split <;> simp
          have gen : ∀ (l : List DIt) (j : Nat) (A : Heap) (ρ0 : Ren), RelH c ρ0 A w.drew → RelH c ρ0 (effs (up (Array.replicate ops.size false)) j l A) w.drew ∧ ∀ (e : Nat) (B : Blk), (effs (up (Array.replicate ops.size false)) j l A)[e]? = some (some B) → A[e]? = some (some B) := by
            intro l
            induction l with
            | nil => intro j A ρ0 hA; exact ⟨hA, fun _ _ h => h⟩
            | cons it l ih =>
              intro j A ρ0 hA
              have e0 : effs (up (Array.replicate ops.size false)) j (it :: l) A = effs (up (Array.replicate ops.size false)) (j + 1) l (effNo it A) := by
                show effs _ (j + 1) l (if up (Array.replicate ops.size false) j = true then effOne it A else effNo it A) = _
                rw [no]; rfl
              rw [e0]
              have back : ∀ {e : Nat} {B : Blk}, (effNo it A)[e]? = some (some B) → A[e]? = some (some B) := fun {e B} hB => by
                rcases Nat.lt_or_ge e A.length with hlt | hge
                · rwa [show effNo it A = A ++ _ from rfl, List.getElem?_append_left hlt] at hB
                · rw [show effNo it A = A ++ _ from rfl, List.getElem?_append_right hge, List.getElem?_map] at hB
                  cases hx : it.nw[e - A.length]? with
                  | none => rw [hx] at hB; cases hB
                  | some x => rw [hx] at hB; cases hB
              have hA' : RelH c ρ0 (effNo it A) w.drew := by
                refine ⟨fun e B hB => hA.cell e B (back hB), fun x y hx hy e => ?_, fun e B hB => Blk.under_mono (by rw [effNo_len]; omega) _ (hA.sco e B (back hB)), fun p hp => ?_, by rw [effNo_len]; have := hA.big; omega, fun e he => ?_⟩
                · obtain ⟨B, x1, x2⟩ := hx
                  obtain ⟨C, y1, y2⟩ := hy
                  exact hA.inj x y ⟨B, back x1, x2⟩ ⟨C, back y1, y2⟩ e
                · obtain ⟨g1, g2, g3⟩ := hA.glob p hp
                  exact ⟨g1, g2, by rw [effNo_len]; omega⟩
                · have := hA.big
                  rw [show effNo it A = A ++ _ from rfl, List.getElem?_append_left (by omega)]
                  exact hA.base e he
              obtain ⟨i1, i2⟩ := ih (j + 1) (effNo it A) ρ0 hA'
              exact ⟨i1, fun e B hB => back (i2 e B hB)⟩
          obtain ⟨G1, G2⟩ := gen d.its 0 h ρ RHd
          have hsl : slotsAt ops (up (Array.replicate ops.size false)) 0 d.its t = t := by
            apply List.ext_getElem?
            intro s
            exact slotsAt_un d.its 0 t fun k _ hk => by rw [no] at hk; cases hk
          refine ⟨rfl, rfl, ?_, G1, ?_⟩
          · rw [hsl]
            exact ⟨RT.tmps, fun x hx => V.slotOk_mono (grown_ge _ _) x (RT.sco x hx)⟩
          · refine ⟨rfl, rfl, rfl, Nat.le_refl _, fun _ _ _ => rfl, fun _ _ => rfl, by rw [effs_len]; exact grown_ge _ _, fun e h1 h2 => ?_, fun e _ h2 => ?_⟩
            · obtain ⟨B, x1, x2⟩ := h2
              have := lt_len (G2 e B x1)
              omega
            · obtain ⟨B, x1, x2⟩ := h2
              exact ⟨B, G2 e B x1, x2⟩
      · cases he
    · cases he
  · cases he
end
end Go.Proofs.YteefjegampdpoaaDoor.E2
end
section
namespace Go.Proofs.YteefjegampdpoaaDoor.E2
open Go Go.RowKit
def rndOf (ρ : Ren) (rnd : Option Nat) : Option Nat := rnd.map fun b => (ρ.blk b).n
def markOf (D : Nat) : Deferred := { target := .collected D, args := #[] }
def Marks (w0 w : World) (ms : List Deferred) : Prop := ∃ Ds : List Nat, ms = Ds.map markOf ∧ Ds.Nodup ∧ ∀ D ∈ Ds, w0.heap.size ≤ D ∧ w.heap[D]? = some (.deferred (some []))
def Runs (c : Cfg) (lim n : Nat) (rnd : Option Nat) (code : Code) (t : List V) (h : Heap) (e : Ex) (t' : List V) (h' : Heap) : Prop :=
  ∀ ρ a w, RelT ρ h.length t a → RelH c ρ h w → code.wpIn (FW (rndOf ρ rnd)) 0 c.P (fun x a' w' => x = e.to ∧ ∃ ρ' ms, a'.defers = ms ++ a.defers ∧ Marks w w' ms ∧ RelT ρ' h'.length t' a' ∧ RelH c ρ' h' w' ∧ Fr lim n ρ h w ρ' h' w') a w
def Meets (c : Cfg) (lim : Nat) (f : FuncId) (args : List V) (h : Heap) (v : V) (h' : Heap) : Prop :=
  ∀ ρ w, RelH c ρ h w → unders h.length args = true → Calls c.P f (concs ρ args).toArray w (Post c lim ρ h w v h')
def Ret (c : Cfg) (f : FuncId) (args : List V) (v : V) : Prop := ∀ h lim, c.L ≤ lim → lim ≤ h.length → Meets c lim f args h v h
structure COut where
  e : Ex
  t : List V
  h : Heap
  ans : List Ans
  cons : List Prop
def iter (body : List V → Heap → List Ans → Option COut) : Nat → List V → Heap → List Ans → Option COut
  | 0, _, _, _ => none
  | n + 1, t, h, ans => match body t h ans with
    | none => none
    | some r => match r.e with
      | .normal => match iter body n r.t r.h r.ans with
        | none => none
        | some q => some { q with cons := r.cons ++ q.cons }
      | _ => some r
def litOf (t : List V) : Operand → Option Bool
  | .tmp s => match t[s]? with
    | some (.lit b) => some b
    | _ => none
  | _ => none
def recB (h : Heap) (rnd : Option Nat) : Bool := match rnd with
  | none => true
  | some b => match h[b]? with
    | some (some (.rcd _)) => true
    | _ => false
def evCode (c : Cfg) (cf : CF) (lim : Nat) (rnd : Option Nat) (fi : Nat) : Code → Nat → List V → Heap → List Ans → Option COut
  | .skip, _, t, h, ans => some ⟨.normal, t, h, ans, []⟩
  | .label _, _, t, h, ans => some ⟨.normal, t, h, ans, []⟩
  | .exit id, _, t, h, ans => some ⟨.exit id, t, h, ans, []⟩
  | .ret, _, t, h, ans => some ⟨.ret, t, h, ans, []⟩
  | .region _ ops draws, _, t, h, ans => match (match draws with
      | true => evDrawn c cf lim ops t h ans
      | false => evOps c cf lim ops ops.toList t h ans) with
    | some r => some ⟨.normal, r.t, r.h, r.ans, r.cons⟩
    | none => none
  | .seq x y, k, t, h, ans => match evCode c cf lim rnd fi x k t h ans with
    | none => none
    | some r => match r.e with
      | .normal => match evCode c cf lim rnd fi y (k + (rangesIn x).length) r.t r.h r.ans with
        | none => none
        | some q => some { q with cons := r.cons ++ q.cons }
      | _ => some r
  | .cond x y z, k, t, h, ans => match litOf t x with
    | some true => evCode c cf lim rnd fi y k t h ans
    | some false => evCode c cf lim rnd fi z (k + (rangesIn y).length) t h ans
    | none => match opnd c t x with
    | some (.raw (.bool b)) => match askB b ans with
      | some (q, ans', cons) => match (match q with
          | true => evCode c cf lim rnd fi y k t h ans'
          | false => evCode c cf lim rnd fi z (k + (rangesIn y).length) t h ans') with
        | none => none
        | some r => some { r with cons := cons ++ r.cons }
      | none => none
    | _ => none
  | .block id x, k, t, h, ans => match evCode c cf lim rnd fi x k t h ans with
    | none => none
    | some r => some { r with e := match r.e with
        | .exit i => if i = id then .normal else .exit i
        | e => e }
  | .scope x, k, t, h, ans => evCode c cf lim rnd fi x k t h ans
  | .loop x, k, t, h, ans => match ans with
    | .loop e t' h' :: ans' => if h.length ≤ h'.length then some ⟨e, t', h', ans', [Runs c lim h.length rnd (.loop x) t h e t' h']⟩ else none
    | ans => iter (evCode c cf lim rnd fi x k) 100000 t h ans
  | .rangeFunc g ps x y, k, t, h, ans => match opnd c t g with
    | some (.fn (.func f) first cap) => if c.fns f && recB h rnd && t.all (·.slotOk h.length) then
        match cf.call f (first ++ [.yld h.length] ++ cap) (h ++ [some (.rcd ⟨t, fi, k, .ready⟩)]) lim ans with
        | some r => match r.h[h.length]? with
          | some (some (.rcd q)) => match q.st with
            | .ready => some ⟨.normal, t, r.h.set h.length none, r.ans, r.cons⟩
            | .done e => some ⟨e, t, r.h.set h.length none, r.ans, r.cons⟩
            | .busy => none
          | _ => none
        | none => none
      else none
    | _ => none
  | _, _, _, _, _ => none
def resultsV (c : Cfg) (t : List V) (h : Heap) : List ResultVar → Option (List V)
  | [] => some []
  | .tmp s :: l => match opnd c t (.tmp s), resultsV c t h l with
    | some v, some vs => some (v :: vs)
    | _, _ => none
  | .cell s T :: l => match opnd c t (.tmp s) with
    | some (.ptr b off) => match loadV c h T b off, resultsV c t h l with
      | some v, some vs => some (v :: vs)
      | _, _ => none
    | _ => none
def oneOf : List V → V
  | [v] => v
  | l => mkTup l
def evYld (c : Cfg) (cf : CF) (b : Nat) (args : List V) (h : Heap) (lim : Nat) (ans : List Ans) : Option Out :=
  match h[b]? with
  | some (some (.rcd r)) => match r.st with
    | .ready => if lim ≤ b ∧ args.length = (rangeAt c.P r.f r.i).1.size ∧ (rangesIn (rangeAt c.P r.f r.i).2.1).isEmpty = true then
        match evCode c cf lim (some b) r.f (rangeAt c.P r.f r.i).2.1 0 (((rangeAt c.P r.f r.i).1.toList.zip args).foldl (fun t p => t.set p.1 p.2) r.t) h ans with
        | some o1 => match o1.e, o1.h[b]? with
          | .normal, some (some (.rcd r1)) => match r1.st with
            | .ready => match evCode c cf lim (some b) r.f (rangeAt c.P r.f r.i).2.2 (r.i + 1) o1.t (o1.h.set b (some (.rcd { r1 with st := .busy }))) o1.ans with
              | some o2 => match o2.h[b]? with
                | some (some (.rcd r2)) => match o2.e with
                  | .normal => some ⟨.raw (.bool true), o2.h.set b (some (.rcd { r2 with st := .ready })), o2.ans, o1.cons ++ o2.cons⟩
                  | e => some ⟨.raw (.bool false), o2.h.set b (some (.rcd { r2 with st := .done e })), o2.ans, o1.cons ++ o2.cons⟩
                | _ => none
              | none => none
            | _ => none
          | _, _ => none
        | none => none
      else none
    | _ => none
  | _ => none
def evYlds (c : Cfg) (call : FuncId → List V → Heap → Nat → List Ans → Option Out) : Nat → Nat → List V → Heap → Nat → List Ans → Option Out
  | 0, _, _, _, _, _ => none
  | m + 1, b, args, h, lim, ans => evYld c ⟨call, evYlds c call m⟩ b args h lim ans
def evFunc (c : Cfg) : Nat → FuncId → List V → Heap → Nat → List Ans → Option Out
  | 0, _, _, _, _, _ => none
  | n + 1, f, args, h, lim, ans => match ans with
    | .ret v :: ans' => some ⟨v, h, ans', [Ret c f args v]⟩
    | .reth v h' :: ans' => some ⟨v, h', ans', [Meets c lim f args h v h']⟩
    | _ => match (match ans with
        | .go :: a => some a
        | .auto :: a => some (.auto :: a)
        | _ => none) with
      | none => none
      | some ans' => match c.P.funcs[f]? with
        | none => none
        | some fn => match fn.body with
          | none => none
          | some code => match evCode c ⟨evFunc c n, evYlds c (evFunc c n) 3⟩ lim none f code 0 (args ++ List.replicate (fn.ntmps - args.length) (.raw undef)) h ans' with
            | none => none
            | some r => match r.e with
              | .exit _ => none
              | _ => match resultsV c r.t r.h fn.results.toList with
                | none => none
                | some vs => some ⟨oneOf vs, r.h, r.ans, r.cons⟩
end Go.Proofs.YteefjegampdpoaaDoor.E2
end
section
namespace Go.Proofs.YteefjegampdpoaaDoor.E2
open Go Go.RowKit
section
variable {c : Cfg} {lim : Nat}
theorem BlkOk.notDfr {P : Program} {ρ : Ren} {l : Loc} {w : World} {B : Blk} (h : BlkOk P ρ l w B) (hn : l.nil = false) {x : Option (List Deferred)} : w.heap[l.n]? ≠ some (.deferred x) := by
  cases B with
  | cells cs ty own => obtain ⟨fr, h1, _⟩ := h.row hn; rw [h1]; simp
  | rcd r => obtain ⟨_, fn, u, D, h1⟩ := h; rw [h1]; simp
theorem Fr.keep {n : Nat} {ρ ρ' : Ren} {h h' : Heap} {w w' : World} (RH : RelH c ρ h w) (F : Fr lim n ρ h w ρ' h' w') {D : Nat} {x : Option (List Deferred)} (hD : w.heap[D]? = some (.deferred x)) : w'.heap[D]? = some (.deferred x) := by
  rw [F.blk D (Array.getElem?_eq_some_iff.1 hD).1 fun i _ hi e => ?_, hD]
  obtain ⟨B, h1, _, h3⟩ := hi
  exact (RH.cell i B h1).notDfr h3 (by rw [e]; exact hD)
theorem Marks.nil {w0 w : World} : Marks w0 w [] := ⟨[], rfl, List.nodup_nil, fun D hD => by cases hD⟩
theorem Marks.keep {w0 w w' : World} {ms : List Deferred} (h : Marks w0 w ms) (hk : ∀ D : Nat, w.heap[D]? = some (.deferred (some [])) → w'.heap[D]? = some (.deferred (some []))) : Marks w0 w' ms := by
  obtain ⟨Ds, h1, h2, h3⟩ := h
  exact ⟨Ds, h1, h2, fun D hD => ⟨(h3 D hD).1, hk D (h3 D hD).2⟩⟩
theorem Marks.trans {w0 w1 w2 : World} {ms ms' : List Deferred} (h : Marks w0 w1 ms) (h' : Marks w1 w2 ms') (hs : w0.heap.size ≤ w1.heap.size) (hk : ∀ D : Nat, w1.heap[D]? = some (.deferred (some [])) → w2.heap[D]? = some (.deferred (some []))) : Marks w0 w2 (ms' ++ ms) := by
  obtain ⟨Ds, rfl, h2, h3⟩ := h
  obtain ⟨Es, rfl, k2, k3⟩ := h'
  refine ⟨Es ++ Ds, by simp, ?_, fun D hD => ?_⟩
  · rw [List.nodup_append]
    refine ⟨k2, h2, fun x hx y hy e => ?_⟩
    subst e
    have h4 := (k3 x hx).1
    have h5 := (Array.getElem?_eq_some_iff.1 (h3 x hy).2).1
    omega
  · rcases List.mem_append.1 hD with h4 | h4
    · exact ⟨Nat.le_trans hs (k3 D h4).1, (k3 D h4).2⟩
    · exact ⟨(h3 D h4).1, hk D (h3 D h4).2⟩
theorem Runs.go {n : Nat} {rnd : Option Nat} {code : Code} {t t' : List V} {h h' : Heap} {e : Ex} (hr : Runs c lim n rnd code t h e t' h') {ρ : Ren} {a : Act} {w : World} (RT : RelT ρ h.length t a) (RH : RelH c ρ h w) {Q : Exit → Act → World → Prop}
    (hQ : ∀ ρ' a' w' ms, a'.defers = ms ++ a.defers → Marks w w' ms → RelT ρ' h'.length t' a' → RelH c ρ' h' w' → Fr lim n ρ h w ρ' h' w' → Q e.to a' w') : code.wpIn (FW (rndOf ρ rnd)) 0 c.P Q a w :=
  wpIn_mono (hr ρ a w RT RH) fun x a' w' ⟨hx, ρ', ms, h1, h2, h3, h4, h5⟩ => by subst hx; exact hQ ρ' a' w' ms h1 h2 h3 h4 h5
theorem Runs.fewer {n m : Nat} {rnd : Option Nat} {code : Code} {t t' : List V} {h h' : Heap} {e : Ex} (hr : Runs c lim n rnd code t h e t' h') (hm : m ≤ n) (hl : lim ≤ m) : Runs c lim m rnd code t h e t' h' :=
  fun ρ a w RT RH => hr.go RT RH fun ρ' a' w' ms h1 h2 h3 h4 h5 => ⟨rfl, ρ', ms, h1, h2, h3, h4, h5.fewer hm hl⟩
theorem rndOf_ren {ρ ρ' : Ren} {rnd : Option Nat} {n : Nat} (hb : ∀ b, rnd = some b → b < n) (h : ∀ i, i < n → ρ'.blk i = ρ.blk i) : rndOf ρ' rnd = rndOf ρ rnd := by
  cases rnd with
  | none => rfl
  | some b => simp only [rndOf, Option.map_some]; rw [h b (hb b rfl)]
theorem Runs.seq {n : Nat} {rnd : Option Nat} {x y : Code} {t t1 t' : List V} {h h1 h' : Heap} {e : Ex} (hb : ∀ b, rnd = some b → b < n) (hr : Runs c lim n rnd x t h .normal t1 h1) (hs : Runs c lim n rnd y t1 h1 e t' h') : Runs c lim n rnd (.seq x y) t h e t' h' := by
  intro ρ a w RT RH
  refine wpIn_seq (hr.go RT RH fun ρ1 a1 w1 ms1 d1 M1 RT1 RH1 F1 => ?_)
  have := hs ρ1 a1 w1 RT1 RH1
  rw [rndOf_ren hb F1.ren] at this
  refine wpIn_mono this fun z a2 w2 ⟨hz, ρ2, ms2, d2, M2, RT2, RH2, F2⟩ => ⟨hz, ρ2, ms2 ++ ms1, by rw [d2, d1, List.append_assoc], Marks.trans M1 M2 F1.size (fun D hD => F2.keep RH1 hD), RT2, RH2, F1.trans F2⟩
def Rounds (c : Cfg) (lim n : Nat) (rnd : Option Nat) (x : Code) (m : Nat) (t : List V) (h : Heap) (e : Ex) (t' : List V) (h' : Heap) : Prop :=
  ∀ ρ a w, RelT ρ h.length t a → RelH c ρ h w → ∀ Q : Exit → Act → World → Prop,
    (∀ ρ' a' w' ms, a'.defers = ms ++ a.defers → Marks w w' ms → RelT ρ' h'.length t' a' → RelH c ρ' h' w' → Fr lim n ρ h w ρ' h' w' → Q e.to a' w') → Code.roundsIn (FW (rndOf ρ rnd)) 0 c.P x Q m a w
theorem rounds_done {n : Nat} {rnd : Option Nat} {x : Code} {t t' : List V} {h h' : Heap} {e : Ex} (hr : Runs c lim n rnd x t h e t' h') (he : e ≠ .normal) : Rounds c lim n rnd x 1 t h e t' h' := by
  intro ρ a w RT RH Q hQ
  rw [roundsIn_succ]
  refine hr.go RT RH fun ρ' a' w' ms d M RT' RH' F => ?_
  have := hQ ρ' a' w' ms d M RT' RH' F
  cases e with
  | normal => exact absurd rfl he
  | exit i => exact this
  | ret => exact this
theorem rounds_more {n : Nat} {rnd : Option Nat} {x : Code} {t t1 t' : List V} {h h1 h' : Heap} {e : Ex} {m : Nat} (hb : ∀ b, rnd = some b → b < n) (hr : Runs c lim n rnd x t h .normal t1 h1) (hs : Rounds c lim n rnd x m t1 h1 e t' h') : Rounds c lim n rnd x (m + 1) t h e t' h' := by
  intro ρ a w RT RH Q hQ
  rw [roundsIn_succ]
  refine hr.go RT RH fun ρ1 a1 w1 ms1 d1 M1 RT1 RH1 F1 => ?_
  have := hs ρ1 a1 w1 RT1 RH1 Q fun ρ' a' w' ms d M RT' RH' F => hQ ρ' a' w' (ms ++ ms1) (by rw [d, d1, List.append_assoc]) (Marks.trans M1 M F1.size (fun D hD => F.keep RH1 hD)) RT' RH' (F1.trans F)
  rw [rndOf_ren hb F1.ren] at this
  exact this
theorem runs_loop {n : Nat} {rnd : Option Nat} {x : Code} {t t' : List V} {h h' : Heap} {e : Ex} {m : Nat} (hr : Rounds c lim n rnd x m t h e t' h') : Runs c lim n rnd (.loop x) t h e t' h' := by
  intro ρ a w RT RH
  exact wpIn_loop_rounds m (hr ρ a w RT RH _ fun ρ' a' w' ms d M RT' RH' F => ⟨rfl, ρ', ms, d, M, RT', RH', F⟩)
theorem iter_sound {rnd : Option Nat} {n : Nat} {x : Code} (hln : lim ≤ n) (hb : ∀ b, rnd = some b → b < n) {body : List V → Heap → List Ans → Option COut} (hbody : ∀ t h ans r, n ≤ h.length → body t h ans = some r → (∀ p ∈ r.cons, p) → Runs c lim n rnd x t h r.e r.t r.h) :
    ∀ (m : Nat) (t : List V) (h : Heap) (ans : List Ans) (r : COut), iter body m t h ans = some r → (∀ p ∈ r.cons, p) → n ≤ h.length → Rounds c lim n rnd x m t h r.e r.t r.h := by
  intro m
  induction m with
  | zero => intro t h ans r he; simp [iter] at he
  | succ m ih =>
    intro t h ans r he hc hnl
    simp only [iter] at he
    split at he
    · cases he
    · rename_i r1 hr1
      split at he
      · rename_i hn
        split at he
        · cases he
        · rename_i q hq
          simp only [Option.some.injEq] at he
          subst he
          have h1 := hbody _ _ _ _ hnl hr1 (fun p hp => hc p (List.mem_append_left _ hp))
          rw [hn] at h1
          intro ρ a w RT RH Q hQ
          rw [roundsIn_succ]
          refine h1.go RT RH fun ρ1 a1 w1 ms1 d1 M1 RT1 RH1 F1 => ?_
          have := ih _ _ _ q hq (fun p hp => hc p (List.mem_append_right _ hp)) F1.len ρ1 a1 w1 RT1 RH1 Q fun ρ' a' w' ms d M RT' RH' F => hQ ρ' a' w' (ms ++ ms1) (by rw [d, d1, List.append_assoc]) (Marks.trans M1 M F1.size (fun D hD => F.keep RH1 hD)) RT' RH' (F1.trans F)
          rw [rndOf_ren hb F1.ren] at this
          exact this
      · rename_i hne
        simp only [Option.some.injEq] at he
        subst he
        have h1 := hbody _ _ _ _ hnl hr1 hc
        intro ρ a w RT RH Q hQ
        rw [roundsIn_succ]
        refine h1.go RT RH fun ρ' a' w' ms d M RT' RH' F => ?_
        have := hQ ρ' a' w' ms d M RT' RH' F
        cases he : r1.e with
        | normal => exact absurd he hne
        | exit i => rw [he] at this; exact this
        | ret => rw [he] at this; exact this
end
theorem litOf_eval {c : Cfg} {ρ : Ren} {h : Heap} {w : World} {t : List V} {a : Act} (RH : RelH c ρ h w) (RT : RelT ρ h.length t a) {x : Operand} {b : Bool} (hx : litOf t x = some b) : a.eval x = .bool b := by
  unfold litOf at hx
  split at hx
  · rename_i s
    split at hx
    · rename_i b' hb
      simp only [Option.some.injEq] at hx
      subst hx
      have := opnd_eval (c := c) (x := .tmp s) (v := .raw (.bool b')) RH RT (by simp [opnd, hb])
      exact this
    · cases hx
  · cases hx
theorem results_list {c : Cfg} {ρ : Ren} {h : Heap} {w : World} {t : List V} {a : Act} (RH : RelH c ρ h w) (RT : RelT ρ h.length t a) (F : ResultVar → Sem Value)
    (hF1 : ∀ s, F (.tmp s) = pure (a.tmps.getD s undef)) (hF2 : ∀ s T, F (.cell s T) = (asAddr (a.tmps.getD s undef) >>= fun q => loadVar T q)) : ∀ (l : List ResultVar) (vs : List V), resultsV c t h l = some vs →
    (l.mapM F).run c.P w = .ok (concs ρ vs) w ∧ unders h.length vs = true
  | [], vs, he => by
    simp only [resultsV, Option.some.injEq] at he
    subst he
    exact ⟨rfl, rfl⟩
  | .tmp s :: l, vs, he => by
    simp only [resultsV] at he
    split at he
    · rename_i v us hv hus
      simp only [Option.some.injEq] at he
      subst he
      obtain ⟨h1, h2⟩ := results_list RH RT F hF1 hF2 l us hus
      have e1 := opnd_eval RH RT hv
      simp only [Act.eval] at e1
      refine ⟨?_, by simp [unders, h2, opnd_under RH RT hv]⟩
      simp only [List.mapM_cons, concs, hF1, e1]
      simp [go_sem, h1]
    · cases he
  | .cell s T :: l, vs, he => by
    simp only [resultsV] at he
    split at he
    · rename_i b off hv
      split at he
      · rename_i v us hl hus
        simp only [Option.some.injEq] at he
        subst he
        obtain ⟨h1, h2⟩ := results_list RH RT F hF1 hF2 l us hus
        obtain ⟨h3, h4⟩ := load_conc RH hl
        have e1 := opnd_eval RH RT hv
        simp only [Act.eval, V.conc] at e1
        refine ⟨?_, by simp [unders, h2, h4]⟩
        have e2 : F (.cell s T) = loadVar T ⟨(ρ.blk b).n, (ρ.blk b).pre.length + off, none⟩ := by rw [hF2, e1]; rfl
        simp only [List.mapM_cons, concs, e2]
        generalize loadVar T ⟨(ρ.blk b).n, (ρ.blk b).pre.length + off, none⟩ = q at h3 ⊢
        simp [go_sem, h1, h3]
      · cases he
    · cases he
theorem oneOf_ok {ρ : Ren} {n : Nat} {vs : List V} (hu : unders n vs = true) : (oneOf vs).conc ρ = (if h : (concs ρ vs).toArray.size = 1 then (concs ρ vs).toArray[0] else Value.tuple (concs ρ vs).toArray) ∧ (oneOf vs).under n = true := by
  match vs, hu with
  | [], _ => exact ⟨by simp [oneOf, mkTup_conc, concs], rfl⟩
  | [v], hu =>
    refine ⟨by simp [oneOf, concs], ?_⟩
    simp only [unders, Bool.and_true] at hu
    exact hu
  | v :: u :: l, hu => exact ⟨by simp [oneOf, mkTup_conc, concs], mkTup_under hu⟩
theorem results_ok {c : Cfg} {ρ : Ren} {h : Heap} {w : World} {t : List V} {a : Act} (RH : RelH c ρ h w) (RT : RelT ρ h.length t a) {fn : Func} {vs : List V} (hv : resultsV c t h fn.results.toList = some vs) :
    (results fn a.tmps).run c.P w = .ok ((oneOf vs).conc ρ) w ∧ (oneOf vs).under h.length = true := by
  unfold results
  obtain ⟨h1, h2⟩ := results_list RH RT (fun x => match x with
    | ResultVar.tmp t => pure (a.tmps.getD t undef)
    | ResultVar.cell s T => do
      let q ← asAddr (a.tmps.getD s undef)
      loadVar T q) (fun _ => rfl) (fun _ _ => rfl) _ _ hv
  obtain ⟨h3, h4⟩ := oneOf_ok (ρ := ρ) h2
  refine ⟨?_, h4⟩
  rw [h3]
  simp only [Array.mapM_eq_mapM_toList]
  generalize hq : List.mapM (m := Sem) _ fn.results.toList = q at h1
  clear hq
  simp [go_sem, h1]
theorem wpIn_scope_straight {F : Fence} {n : Nat} {P : Program} {x : Code} {Q : Exit → Act → World → Prop} {a : Act} {w : World} (h : x.wpIn F n P (Exit.noGoto Q) a w) : (Code.scope x).wpIn F n P Q a w := by
  intro b k cs hro hb hr
  have s1 : step P (lone (b.atR a (.code (.scope x) :: k)) cs w) = .next (lone (b.atR a (.code x :: .inScope x :: k)) cs w) := step_lone_go (by simp [stepG, stepG.exec, Frame.atR])
  have s2 : ∀ a w, step P (lone (b.atR a (.inScope x :: k)) cs w) = .next (lone (b.atR a k) cs w) := fun a w => step_lone_go (by simp [stepG, stepG.exec, Frame.atR])
  have t1 : StepsIn (Machine.fenced P F) P (lone (b.atR a (.code (.scope x) :: k)) cs w) (lone (b.atR a (.code x :: .inScope x :: k)) cs w) := .one (fenced_calm hb hr rfl) s1
  obtain ⟨e, a₁, w₁, hq, harr⟩ := h b (.inScope x :: k) cs hro hb hr
  cases e with
  | normal => exact ⟨.normal, a₁, w₁, hq, StepsIn.trans t1 (StepsIn.trans harr (.one (fenced_calm hb hr rfl) (s2 a₁ w₁)))⟩
  | exit id =>
    refine ⟨.exit id, a₁, w₁, hq, ?_⟩
    refine .of_steps t1 ?_
    have hx : exitTo id (.inScope x :: k) = exitTo id k := by simp [exitTo]
    exact ⟨fun k' hk => harr.1 k' (by rw [hx]; exact hk), fun hr' hk => harr.2 hr' (by rw [hx]; exact hk)⟩
  | goto l => exact hq.elim
  | ret => exact ⟨_, a₁, w₁, hq, .of_steps t1 harr⟩
  | panic ch => exact ⟨_, a₁, w₁, hq, .of_steps t1 harr⟩
  | outgrown => exact ⟨_, a₁, w₁, hq, .of_steps t1 harr⟩
end Go.Proofs.YteefjegampdpoaaDoor.E2
end
section
namespace Go.Proofs.YteefjegampdpoaaDoor.E2
open Go Go.RowKit
section
variable {c : Cfg} {lim : Nat}
theorem enter_ok {P : Program} {ρ : Ren} {h : Heap} {w : World} (RH : RelH c ρ h w) {rnd : Option Nat} (hr : recB h rnd = true) (fn : FuncId) (tmps : Array Value) (ps : Array Tmp) (x y : Code) :
    ∃ (l : Nat) (mark : List Deferred) (w1 : World) (D : Nat), (Instr.enterLoop fn tmps ps x y (rndOf ρ rnd)).run P w = .ok (l, mark) w1 ∧ w1.heap[l]? = some (.loop { state := .ready, pending := none, fn, tmps, params := ps, assign := x, body := y, defers := D }) ∧ w.heap.size ≤ l ∧
      (∀ k : Nat, k < w.heap.size → w1.heap[k]? = w.heap[k]?) ∧ w1.os = w.os ∧ w1.tape = w.tape ∧ w1.output = w.output ∧ w.heap.size ≤ w1.heap.size ∧ Marks w w1 mark := by
  cases rnd with
  | none =>
    refine ⟨w.heap.size + 1, [markOf w.heap.size], (w.alloc (.deferred (some []))).alloc (.loop { state := .ready, pending := none, fn, tmps, params := ps, assign := x, body := y, defers := w.heap.size }), w.heap.size, run_enterLoop_outer (w := w) fn tmps ps x y, ?_, by omega, fun k hk => ?_, rfl, rfl, rfl, by simp; omega, [w.heap.size], rfl, by simp, fun D hD => ?_⟩
    · have := alloc_this (w.alloc (.deferred (some []))) (.loop { state := .ready, pending := none, fn, tmps, params := ps, assign := x, body := y, defers := w.heap.size })
      rwa [World.size_alloc] at this
    · rw [Below.heap_alloc _ _ _ (by simp; omega), Below.heap_alloc _ _ _ hk]
    · rw [List.mem_singleton] at hD
      subst hD
      exact ⟨Nat.le_refl _, by rw [Below.heap_alloc _ _ _ (by simp), alloc_this]⟩
  | some b =>
    simp only [recB] at hr
    split at hr
    · rename_i q hb
      obtain ⟨_, fn', u, D, h1⟩ := RH.cell b _ hb
      refine ⟨w.heap.size, [], w.alloc (.loop { state := .ready, pending := none, fn, tmps, params := ps, assign := x, body := y, defers := D }), D, ?_, alloc_this _ _, Nat.le_refl _, fun k hk => Below.heap_alloc _ _ _ hk, rfl, rfl, rfl, by simp, Marks.nil⟩
      simp only [rndOf, Option.map_some]
      unfold Instr.enterLoop
      simp only [Sem.run_bind, run_getLoop h1, Rec.loop, Result.andThen, Sem.run_pure, run_newObj_alloc]
    · cases hr
theorem putObj_rel {ρ : Ren} {h : Heap} {w : World} (RH : RelH c ρ h w) {b : Nat} {q : Rec} {X : Option Blk} {o : Obj} (hb : h[b]? = some (some (.rcd q))) (hL : c.L ≤ b) (hl : lim ≤ b) (hX : ∀ B', X = some B' → B'.under h.length = true ∧ ((w.putObj (ρ.blk b).n o).heap[(ρ.blk b).n]? = some o → BlkOk c.P ρ (ρ.blk b) (w.putObj (ρ.blk b).n o) B')) :
    RelH c ρ (h.set b X) (w.putObj (ρ.blk b).n o) ∧ Fr lim h.length ρ h w ρ (h.set b X) (w.putObj (ρ.blk b).n o) ∧ ∀ (D : Nat) (x : Option (List Deferred)), w.heap[D]? = some (.deferred x) → (w.putObj (ρ.blk b).n o).heap[D]? = some (.deferred x) := by
  obtain ⟨hn, fn, u, D, h1⟩ := RH.cell b _ hb
  have hlt : (ρ.blk b).n < w.heap.size := (Array.getElem?_eq_some_iff.1 h1).1
  refine ⟨relH_set RH hb rfl hn hL (fun B' e => ⟨(hX B' e).1, (hX B' e).2 (World.putObj_heap_same hlt)⟩) (fun k hk => World.putObj_heap_other hk), fr_set hb rfl hn hl rfl rfl rfl (by simp) (fun k _ hk => World.putObj_heap_other hk), fun E x hE => ?_⟩
  rw [World.putObj_heap_other (fun e => by subst e; rw [h1] at hE; cases hE), hE]
theorem evCode_sound (hm : c.P.follows .mixedOrders = true) {cf : CF} (hcf : CallOk c cf) (hfn : ∀ f, c.fns f = true → Callable c.P f) (hL : c.L ≤ lim) {rnd : Option Nat} {fi : Nat} :
    ∀ (code : Code) (k : Nat) (t : List V) (h : Heap) (ans : List Ans) (r : COut), evCode c cf lim rnd fi code k t h ans = some r → (∀ p ∈ r.cons, p) → lim ≤ h.length → (∀ b, rnd = some b → b < h.length) → (∀ j x, (rangesIn code)[j]? = some x → rangeAt c.P fi (k + j) = x) → Runs c lim h.length rnd code t h r.e r.t r.h := by
  intro code
  induction code with
  | skip =>
    intro k t h ans r he hc hl hb hs
    simp only [evCode, Option.some.injEq] at he
    subst he
    exact fun ρ a w RT RH => wpIn_skip ⟨rfl, ρ, [], rfl, Marks.nil, RT, RH, Fr.refl _ _ _ _ hl (Nat.le_refl _)⟩
  | label l =>
    intro k t h ans r he hc hl hb hs
    simp only [evCode, Option.some.injEq] at he
    subst he
    exact fun ρ a w RT RH => wpIn_label ⟨rfl, ρ, [], rfl, Marks.nil, RT, RH, Fr.refl _ _ _ _ hl (Nat.le_refl _)⟩
  | exit id =>
    intro k t h ans r he hc hl hb hs
    simp only [evCode, Option.some.injEq] at he
    subst he
    exact fun ρ a w RT RH => wpIn_exit ⟨rfl, ρ, [], rfl, Marks.nil, RT, RH, Fr.refl _ _ _ _ hl (Nat.le_refl _)⟩
  | ret =>
    intro k t h ans r he hc hl hb hs
    simp only [evCode, Option.some.injEq] at he
    subst he
    exact fun ρ a w RT RH => wpIn_ret ⟨rfl, ρ, [], rfl, Marks.nil, RT, RH, Fr.refl _ _ _ _ hl (Nat.le_refl _)⟩
  | region id ops draws =>
    intro k t h ans r he hc hl hb hs
    simp only [evCode] at he
    split at he
    · rename_i q hq
      simp only [Option.some.injEq] at he
      subst he
      intro ρ a w RT RH
      cases draws with
      | true => exact evDrawn_sound hm hcf hfn hL hl hq hc RH RT fun ρ' a' w' _ h1 h2 h3 h4 => ⟨rfl, ρ', [], h1, Marks.nil, h2, h3, h4⟩
      | false => exact wpIn_region_list (evOps_sound hcf hfn hL _ _ _ _ _ ρ a w hq hc hl RH RT fun ρ' a' w' _ h1 h2 h3 h4 => ⟨rfl, ρ', [], h1, Marks.nil, h2, h3, h4⟩)
    · cases he
  | seq x y ihx ihy =>
    intro k t h ans r he hc hl hb hs
    simp only [evCode] at he
    have hsx : ∀ j z, (rangesIn x)[j]? = some z → rangeAt c.P fi (k + j) = z := fun j z hz => hs j z (by simp only [rangesIn]; rw [List.getElem?_append_left (List.getElem?_eq_some_iff.1 hz).1]; exact hz)
    have hsy : ∀ j z, (rangesIn y)[j]? = some z → rangeAt c.P fi (k + (rangesIn x).length + j) = z := fun j z hz => by
      rw [Nat.add_assoc]
      exact hs _ z (by simp only [rangesIn]; rw [List.getElem?_append_right (by omega), Nat.add_sub_cancel_left]; exact hz)
    split at he
    · cases he
    · rename_i r1 hr1
      split at he
      · rename_i hn
        split at he
        · cases he
        · rename_i q hq
          simp only [Option.some.injEq] at he
          subst he
          have h1 := ihx _ _ _ _ _ hr1 (fun p hp => hc p (List.mem_append_left _ hp)) hl hb hsx
          rw [hn] at h1
          intro ρ a w RT RH
          refine wpIn_seq (h1.go RT RH fun ρ1 a1 w1 ms1 d1 M1 RT1 RH1 F1 => ?_)
          have h2 := ihy _ _ _ _ _ hq (fun p hp => hc p (List.mem_append_right _ hp)) (Nat.le_trans hl F1.len) (fun b e => Nat.lt_of_lt_of_le (hb b e) F1.len) hsy
          have := h2 ρ1 a1 w1 RT1 RH1
          rw [rndOf_ren hb F1.ren] at this
          exact wpIn_mono this fun z a2 w2 ⟨hz, ρ2, ms2, d2, M2, RT2, RH2, F2⟩ => ⟨hz, ρ2, ms2 ++ ms1, by rw [d2, d1, List.append_assoc], Marks.trans M1 M2 F1.size (fun D hD => F2.keep RH1 hD), RT2, RH2, F1.trans (F2.fewer F1.len hl)⟩
      · rename_i hne
        simp only [Option.some.injEq] at he
        subst he
        have h1 := ihx _ _ _ _ _ hr1 hc hl hb hsx
        intro ρ a w RT RH
        refine wpIn_seq (h1.go RT RH fun ρ1 a1 w1 ms1 d1 M1 RT1 RH1 F1 => ?_)
        cases he : r1.e with
        | normal => exact absurd he hne
        | exit i => exact ⟨rfl, ρ1, ms1, d1, M1, RT1, RH1, F1⟩
        | ret => exact ⟨rfl, ρ1, ms1, d1, M1, RT1, RH1, F1⟩
  | cond x y z ihy ihz =>
    intro k t h ans r he hc hl hb hs
    simp only [evCode] at he
    have hsy : ∀ j q, (rangesIn y)[j]? = some q → rangeAt c.P fi (k + j) = q := fun j q hq => hs j q (by simp only [rangesIn]; rw [List.getElem?_append_left (List.getElem?_eq_some_iff.1 hq).1]; exact hq)
    have hsz : ∀ j q, (rangesIn z)[j]? = some q → rangeAt c.P fi (k + (rangesIn y).length + j) = q := fun j q hq => by
      rw [Nat.add_assoc]
      exact hs _ q (by simp only [rangesIn]; rw [List.getElem?_append_right (by omega), Nat.add_sub_cancel_left]; exact hq)
    split at he
    · rename_i hlit
      intro ρ a w RT RH
      refine wpIn_cond (litOf_eval RH RT hlit) ?_
      exact ihy _ _ _ _ _ he hc hl hb hsy ρ a w RT RH
    · rename_i hlit
      intro ρ a w RT RH
      refine wpIn_cond (litOf_eval RH RT hlit) ?_
      exact ihz _ _ _ _ _ he hc hl hb hsz ρ a w RT RH
    · split at he
      · rename_i b hbv
        split at he
        · rename_i q ans' cons hq
          split at he
          · cases he
          · rename_i r1 hr1
            simp only [Option.some.injEq] at he
            subst he
            have hbq : b = q := askB_ok hq fun p hp => hc p (List.mem_append_left _ hp)
            subst hbq
            intro ρ a w RT RH
            have hev := opnd_eval RH RT hbv
            refine wpIn_cond hev ?_
            cases b with
            | true => exact ihy _ _ _ _ _ hr1 (fun p hp => hc p (List.mem_append_right _ hp)) hl hb hsy ρ a w RT RH
            | false => exact ihz _ _ _ _ _ hr1 (fun p hp => hc p (List.mem_append_right _ hp)) hl hb hsz ρ a w RT RH
        · cases he
      · cases he
  | block id x ih =>
    intro k t h ans r he hc hl hb hs
    simp only [evCode] at he
    split at he
    · cases he
    · rename_i r1 hr1
      simp only [Option.some.injEq] at he
      subst he
      intro ρ a w RT RH
      refine wpIn_block ((ih _ _ _ _ _ hr1 hc hl hb hs).go RT RH fun ρ1 a1 w1 ms1 d1 M1 RT1 RH1 F1 => ?_)
      cases he : r1.e with
      | normal => exact ⟨rfl, ρ1, ms1, d1, M1, RT1, RH1, F1⟩
      | ret => exact ⟨rfl, ρ1, ms1, d1, M1, RT1, RH1, F1⟩
      | exit i =>
        simp only [Ex.to, Exit.inBlock]
        by_cases hi : i = id
        · rw [if_pos hi]
          exact ⟨by simp [hi, Ex.to], ρ1, ms1, d1, M1, RT1, RH1, F1⟩
        · rw [if_neg hi]
          exact ⟨by simp [hi, Ex.to], ρ1, ms1, d1, M1, RT1, RH1, F1⟩
  | scope x ih =>
    intro k t h ans r he hc hl hb hs
    simp only [evCode] at he
    intro ρ a w RT RH
    refine wpIn_scope_straight ((ih _ _ _ _ _ he hc hl hb hs).go RT RH fun ρ1 a1 w1 ms1 d1 M1 RT1 RH1 F1 => ?_)
    cases he : r.e with
    | normal => exact ⟨rfl, ρ1, ms1, d1, M1, RT1, RH1, F1⟩
    | ret => exact ⟨rfl, ρ1, ms1, d1, M1, RT1, RH1, F1⟩
    | exit i => exact ⟨rfl, ρ1, ms1, d1, M1, RT1, RH1, F1⟩
  | loop x ih =>
    intro k t h ans r he hc hl hb hs
    simp only [evCode] at he
    split at he
    · split at he
      · simp only [Option.some.injEq] at he
        subst he
        exact hc _ List.mem_cons_self
      · cases he
    · exact runs_loop (iter_sound hl hb (fun t' h' ans' r' hn h1 h2 => (ih _ _ _ _ _ h1 h2 (Nat.le_trans hl hn) (fun b e => Nat.lt_of_lt_of_le (hb b e) hn) hs).fewer hn hl) _ _ _ _ _ he hc (Nat.le_refl _))
  | rangeFunc g ps x y _ ih =>
    intro k t h ans r he hc hl hb hs
    have hr0 : rangeAt c.P fi k = (ps, x, y) := hs 0 _ rfl
    simp only [evCode] at he
    split at he
    · rename_i gf first cap hg
      split at he
      · rename_i hchk
        simp only [Bool.and_eq_true] at hchk
        obtain ⟨⟨c1, c2⟩, c3⟩ := hchk
        split at he
        · rename_i out hout
          split at he
          · rename_i q hq
            have main : ∀ e, (r = ⟨e, t, out.h.set h.length none, out.ans, out.cons⟩) → q.st ≠ .busy → q.st.pend = e.code → Runs c lim h.length rnd (.rangeFunc g ps x y) t h r.e r.t r.h := fun e hre hnb hpend => by
              subst hre
              intro ρ a w RT RH
              refine wpIn_rangeFunc fun fn _ => ?_
              obtain ⟨l, mark, w1, D, e1, e2, e3, e4, e5, e6, e7, e8, M1⟩ := enter_ok (P := c.P) RH c2 fn a.tmps ps x y
              have eg := opnd_eval RH RT hg
              have hu := opnd_under RH RT hg
              simp only [V.conc] at eg
              simp only [V.under, Bool.and_eq_true] at hu
              obtain ⟨f0, f1, f2, f3⟩ := hfn gf c1
              have hag : ∀ i, i < h.length → (ρ.push h.length (Loc.at l)).blk i = ρ.blk i := fun i hi => push_old hi
              have RH1 : RelH c (ρ.push h.length (Loc.at l)) (h ++ [some (.rcd ⟨t, fi, k, .ready⟩)]) w1 := by
                refine relH_push RH ?_ ⟨rfl, fn, ρ.unk, D, ?_⟩ (fun i hi => e4 _ (RH.lt hi)) (fun _ i hi e => ?_)
                · simp only [Blk.under, List.all_eq_true]
                  exact fun v hv => V.slotOk_mono (by omega) v (List.all_eq_true.1 c3 v hv)
                · rw [show (Loc.at l).n = l from rfl, e2]
                  have ht : (concs ⟨(ρ.push h.length (Loc.at l)).blk, ρ.unk⟩ t).toArray = a.tmps := by
                    rw [RT.tmps, slots_agree hag ρ.unk c3]
                  simp only [Rec.loop, hr0, RSt.state, RSt.pend, ht]
                · have h9 := RH.lt hi
                  have h10 : (ρ.blk i).n = l := e
                  omega
              have F1 : Fr lim h.length ρ h w (ρ.push h.length (Loc.at l)) (h ++ [some (.rcd ⟨t, fi, k, .ready⟩)]) w1 := fr_push hl e5 e6 e7 e8 e4 fun _ => e3
              have hargs : concs (ρ.push h.length (Loc.at l)) (first ++ [.yld h.length] ++ cap) = concs ρ first ++ [Value.func (.yield l) #[] #[]] ++ concs ρ cap := by
                rw [concs_append, concs_append, concs_agree hag _ hu.1, concs_agree hag _ hu.2]
                simp only [concs, V.conc, push_new, Loc.at]
              have hcall := hcf.call gf _ _ lim ans out hout hc hL (by simp; omega) _ w1 RH1 (by
                refine unders_append (unders_append (unders_mono (by simp) _ hu.1) ?_) (unders_mono (by simp) _ hu.2)
                simp [unders, V.under])
              rw [hargs] at hcall
              refine ⟨l, mark, w1, { target := .fn (.func gf) (concs ρ cap).toArray, args := (concs ρ first).toArray ++ #[Value.func (.yield l) #[] #[]] }, w1, gf, (concs ρ first ++ [Value.func (.yield l) #[] #[]] ++ concs ρ cap).toArray, w1, e1, ?_, fun _ _ => trivial, ?_, fun hn => (by cases hn), ?_⟩
              · have ey : a.eval (.const (Value.func (.yield l) #[] #[])) = Value.func (.yield l) #[] #[] := rfl
                generalize a.eval = ev at eg ey ⊢
                simp only [resolve, rangeCall, eg, Deferred.ofValue, Sem.run_pure, List.map_toArray, List.map_cons, List.map_nil, ey]
              · have h2' : ¬ f0.name = "runtime.NumGoroutine" := by simpa using f2
                have h3' : ¬ f0.body = none := by intro hn; rw [hn] at f3; cases f3
                simp [invoke, callFunc, go_sem, f1, h2', h3']
              · have hcall' : CallsIn (FW (rndOf ρ rnd)) (0 - 1) c.P gf (concs ρ first ++ [Value.func (.yield l) #[] #[]] ++ concs ρ cap).toArray w1 (Post c lim (ρ.push h.length (Loc.at l)) (h ++ [some (.rcd ⟨t, fi, k, .ready⟩)]) w1 out.v out.h) := (callsIn_wide (n := 0 - 1)).2 hcall
                refine CallsIn.mono hcall' fun e3' w3 hp => ?_
                obtain ⟨ρ2, k1, rfl, RH3, F2, k5⟩ := hp
                have hbl : ρ2.blk h.length = Loc.at l := by rw [F2.ren _ (by simp), push_new]
                obtain ⟨hn, fn', u, D', g1⟩ := RH3.cell h.length _ hq
                rw [hbl] at g1
                have hend := run_endLoop (P := c.P) g1 (by simp only [Rec.loop]; cases hst : q.st with
                  | ready => simp [RSt.state]
                  | busy => exact absurd hst hnb
                  | done e => simp [RSt.state])
                obtain ⟨p1, p2, p3⟩ := putObj_rel (lim := lim) RH3 (X := none) (o := .loop { q.loop c.P ρ2 fn' u D' with state := .exhausted }) hq (by omega) (by omega) (fun B' e => by cases e)
                rw [hbl] at p1 p2 p3
                generalize (w3.putObj (Loc.at l).n (.loop { q.loop c.P ρ2 fn' u D' with state := .exhausted })) = w4 at hend p1 p2 p3
                refine ⟨_, _, hend, ?_⟩
                have hpen : (q.loop c.P ρ2 fn' u D').pending = e.code := hpend
                rw [hpen]
                have hfin : e.to = e.to ∧ ∃ ρ' ms, ({ a with defers := mark ++ a.defers } : Act).defers = ms ++ a.defers ∧ Marks w w4 ms ∧ RelT ρ' (out.h.set h.length none).length t { a with defers := mark ++ a.defers } ∧ RelH c ρ' (out.h.set h.length none) w4 ∧ Fr lim h.length ρ h w ρ' (out.h.set h.length none) w4 := by
                  have hlen2 : h.length + 1 ≤ out.h.length := by have := F2.len; simpa using this
                  refine ⟨rfl, ρ2, mark, rfl, M1.keep fun E hE => p3 E _ (F2.keep RH1 hE), ⟨?_, fun v hv => V.slotOk_mono (by rw [List.length_set]; omega) v (List.all_eq_true.1 c3 v hv)⟩, p1, F1.trans ((F2.fewer (by simp) hl).trans (p2.fewer (by omega) hl))⟩
                  show a.tmps = _
                  rw [RT.tmps]
                  congr 1
                  rw [concs_map, concs_map]
                  exact List.map_congr_left fun v hv => (V.slot_agree (n := h.length) (fun i hi => by rw [F2.ren i (by simp; omega), push_old hi]) (by rw [k1]; rfl) v (List.all_eq_true.1 c3 v hv)).symm
                cases e with
                | normal => exact hfin
                | exit id => exact wpIn_exit hfin
                | ret => exact wpIn_ret hfin
            split at he
            · rename_i hst
              simp only [Option.some.injEq] at he
              exact main .normal he.symm (by rw [hst]; simp) (by rw [hst]; rfl)
            · rename_i e hst
              simp only [Option.some.injEq] at he
              exact main e he.symm (by rw [hst]; simp) (by rw [hst]; rfl)
            · cases he
          · cases he
        · cases he
      · cases he
    · cases he
  | goto l => intro k t h ans r he; simp [evCode] at he
  | refuse s => intro k t h ans r he; simp [evCode] at he
end
end Go.Proofs.YteefjegampdpoaaDoor.E2
end
