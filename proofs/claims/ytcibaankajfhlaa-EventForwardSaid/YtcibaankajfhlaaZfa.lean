/-
  Part of a claim: the reckoner and contracts.
-/
import Derived.WalkKit
import Derived.Below
import Derived.Orders
import Derived.OrdersIn
import Derived.Scope
import Derived.Laws.Cells
import Derived.Laws.CopyRow
import Derived.Laws.MakeOwn
import Derived.Maps.AppendAt
import Derived.RangeFuncIn
import Derived.RangeFuncRecord
import Derived.RangeFuncLeaves
import Derived.LoopNIn
import Derived.TacticsIn
import Derived.IntWalk
import Derived.Lib.ConvBytes
import Derived.Laws.BytesString
import Derived.RecoverIn
import Derived.Shelf.Small.Wraps
import Derived.Shelf.Strconv.Itoa0
import Derived.Ground.Names2Prog
import Derived.Shelf.Slices.Clone
import Derived.Shelf.Slices.Delete
import Derived.ProofKit
import Derived.OpenShut
import Derived.Carry
import Derived.Lib.SmallJoins
import Derived.Lib.LaidTab
import Derived.LaidMore
import Derived.Deep.DeepHandedRow
import Derived.Test.YtcibaankajfhlaaRows
import Derived.Test.YtcibaankajfhlaaProg
set_option linter.unusedVariables false
set_option linter.unusedSimpArgs false
set_option maxRecDepth 100000
section
namespace Go.Proofs.Ytcibaankajfhlaa.E2
open Go Go.RowKit
inductive V where
  | raw (v : Value)
  | any (k : Nat)
  | ptr (b off : Nat)
  | slo (b len : Nat)
  /-- A part of a row, from a cell on: how long, and for how many elements there is room. -/
  | sub (b off len cap : Nat)
  | yld (b : Nat)
  | mp (b : Nat)
  | fn (f : Fn) (first cap : List V)
  | agg (l : List V)
  | tup (l : List V)
  | lit (b : Bool)
structure Loc where
  n : Nat
  pre : List Value
  sp : List Value
  cap : Nat
  nil : Bool
def Loc.row (l : Loc) (xs : List Value) : List Value := l.pre ++ xs ++ l.sp
def Loc.at (n : Nat) : Loc := ⟨n, [], [], 0, false⟩
structure Ren where
  blk : Nat → Loc
  unk : Nat → Value
def slcOf (l : Loc) (len : Nat) : Value := if len = 0 ∧ l.nil = true then .slice none 0 0 else .slice (some ⟨l.n, l.pre.length, none⟩) len l.cap
def subOf (l : Loc) (off len cap : Nat) : Value := if (len = 0 ∧ cap = 0) ∧ l.nil = true then .slice none 0 0 else .slice (some ⟨l.n, l.pre.length + off, none⟩) len cap
mutual
def V.conc (ρ : Ren) : V → Value
  | .raw v => v
  | .any k => ρ.unk k
  | .ptr b o => .pointer (some ⟨(ρ.blk b).n, (ρ.blk b).pre.length + o, none⟩)
  | .slo b l => slcOf (ρ.blk b) l
  | .sub b o l k => subOf (ρ.blk b) o l k
  | .yld b => .func (.yield (ρ.blk b).n) #[] #[]
  | .mp b => .map (some (ρ.blk b).n)
  | .fn f x y => .func f (concs ρ x).toArray (concs ρ y).toArray
  | .agg l => .agg (concs ρ l).toArray
  | .tup l => .tuple (concs ρ l).toArray
  | .lit b => .bool b
def concs (ρ : Ren) : List V → List Value
  | [] => []
  | x :: l => x.conc ρ :: concs ρ l
end
mutual
def V.under (n : Nat) : V → Bool
  | .raw _ => true
  | .any _ => false
  | .ptr b _ => decide (b < n)
  | .slo b _ => decide (b < n)
  | .sub b _ _ _ => decide (b < n)
  | .yld b => decide (b < n)
  | .mp b => decide (b < n)
  | .fn _ x y => unders n x && unders n y
  | .agg l => unders n l
  | .tup l => unders n l
  | .lit _ => true
def unders (n : Nat) : List V → Bool
  | [] => true
  | x :: l => x.under n && unders n l
end
def V.slotOk (n : Nat) : V → Bool
  | .any _ => true
  | v => v.under n
inductive Ex where
  | normal
  | exit (id : Nat)
  | ret
def Ex.to : Ex → Exit
  | .normal => .normal
  | .exit id => .exit id
  | .ret => .ret
def Ex.code : Ex → Option Code
  | .normal => none
  | .exit id => some (.exit id)
  | .ret => some .ret
inductive Own where
  | ro
  | rw
  | row (size : Nat)
inductive RSt where
  | ready
  | busy
  | done (e : Ex)
structure Rec where
  t : List V
  f : Nat
  i : Nat
  st : RSt
inductive Blk where
  | cells (cs : List V) (ty : TypeId) (own : Own)
  | rcd (r : Rec)
  /-- A map: its keys, what they have, when they came; its clock. -/
  | mp (ks : List Value) (vs : List V) (bs : List Nat) (k : Nat)
abbrev Heap := List (Option Blk)
def Blk.wr : Blk → Bool
  | .cells _ _ .ro => false
  | _ => true
def Blk.under (n : Nat) : Blk → Bool
  | .cells cs _ _ => unders n cs
  | .rcd r => r.t.all (·.slotOk n)
  | .mp _ vs _ _ => unders n vs
def rangesIn : Code → List (Array Tmp × Code × Code)
  | .rangeFunc _ ps x y => (ps, x, y) :: rangesIn y
  | .loop x => rangesIn x
  | .seq x y => rangesIn x ++ rangesIn y
  | .cond _ x y => rangesIn x ++ rangesIn y
  | .block _ x => rangesIn x
  | .scope x => rangesIn x
  | _ => []
def rangeAt (P : Program) (f i : Nat) : Array Tmp × Code × Code := match P.funcs[f]? with
  | some fn => match fn.body with
    | some b => (rangesIn b).getD i (#[], .skip, .skip)
    | none => (#[], .skip, .skip)
  | none => (#[], .skip, .skip)
structure Cfg where
  P : Program
  /-- The blocks that lie in every heap: those of package variables. -/
  H0 : Heap
  L : Nat
  /-- Package variables that have names. -/
  G : List (Nat × Nat)
  /-- Sums stay bare, and their range is owed. -/
  bare : Bool
  /-- Functions that can be entered. -/
  fns : FuncId → Bool
  /-- What is owed is looked at, and owed only where it does not hold at once. -/
  conc : Bool
def owe (c : Cfg) (p : Prop) [Decidable p] : List Prop := match c.conc with
  | true => if p then [] else [p]
  | false => [p]
theorem owe_ok {c : Cfg} {p : Prop} [Decidable p] (h : ∀ q ∈ owe c p, q) : p := by
  unfold owe at h
  split at h
  · by_cases hp : p
    · exact hp
    · rw [if_neg hp] at h
      exact h _ (List.mem_singleton.2 rfl)
  · exact h _ (List.mem_singleton.2 rfl)
theorem concs_map (ρ : Ren) : ∀ l, concs ρ l = l.map (·.conc ρ)
  | [] => rfl
  | x :: l => by simp [concs, concs_map ρ l]
theorem concs_append (ρ : Ren) (l m : List V) : concs ρ (l ++ m) = concs ρ l ++ concs ρ m := by simp [concs_map]
theorem concs_length (ρ : Ren) (l : List V) : (concs ρ l).length = l.length := by simp [concs_map]
theorem concs_set (ρ : Ren) (l : List V) (i : Nat) (v : V) : concs ρ (l.set i v) = (concs ρ l).set i (v.conc ρ) := by simp [concs_map, List.map_set]
theorem concs_get (ρ : Ren) (l : List V) (i : Nat) : (concs ρ l)[i]? = (l[i]?).map (·.conc ρ) := by simp [concs_map]
theorem concs_raw (ρ : Ren) (l : List Value) : concs ρ (l.map .raw) = l := by
  rw [concs_map, List.map_map]
  conv => rhs; rw [← List.map_id l]
  rfl
theorem unders_iff (n : Nat) : ∀ l, unders n l = true ↔ ∀ x ∈ l, x.under n = true
  | [] => by simp [unders]
  | x :: l => by simp [unders, unders_iff n l]
theorem unders_append {n : Nat} {l m : List V} (h : unders n l = true) (k : unders n m = true) : unders n (l ++ m) = true := by
  rw [unders_iff] at *
  intro x hx
  rcases List.mem_append.1 hx with h1 | h1
  · exact h x h1
  · exact k x h1
theorem unders_raw (n : Nat) (l : List Value) : unders n (l.map .raw) = true := by
  rw [unders_iff]
  intro x hx
  obtain ⟨v, _, rfl⟩ := List.mem_map.1 hx
  rfl
theorem unders_sub {n : Nat} {l m : List V} (h : unders n l = true) (hs : ∀ x ∈ m, x ∈ l) : unders n m = true := by
  rw [unders_iff] at *
  exact fun x hx => h x (hs x hx)
mutual
theorem V.conc_agree {ρ ρ' : Ren} {n : Nat} (h : ∀ i, i < n → ρ'.blk i = ρ.blk i) : ∀ x : V, x.under n = true → x.conc ρ' = x.conc ρ
  | .raw v, _ => rfl
  | .any k, h => by simp [V.under] at h
  | .ptr b o, hx => by simp only [V.under, decide_eq_true_eq] at hx; simp only [V.conc, h b hx]
  | .slo b l, hx => by simp only [V.under, decide_eq_true_eq] at hx; simp only [V.conc, h b hx]
  | .sub b o l k, hx => by simp only [V.under, decide_eq_true_eq] at hx; simp only [V.conc, h b hx]
  | .yld b, hx => by simp only [V.under, decide_eq_true_eq] at hx; simp only [V.conc, h b hx]
  | .mp b, hx => by simp only [V.under, decide_eq_true_eq] at hx; simp only [V.conc, h b hx]
  | .fn f x y, hx => by
    simp only [V.under, Bool.and_eq_true] at hx
    simp only [V.conc, concs_agree h x hx.1, concs_agree h y hx.2]
  | .agg l, hx => by simp only [V.under] at hx; simp only [V.conc, concs_agree h l hx]
  | .tup l, hx => by simp only [V.under] at hx; simp only [V.conc, concs_agree h l hx]
  | .lit b, _ => rfl
theorem concs_agree {ρ ρ' : Ren} {n : Nat} (h : ∀ i, i < n → ρ'.blk i = ρ.blk i) : ∀ l : List V, unders n l = true → concs ρ' l = concs ρ l
  | [], _ => rfl
  | x :: l, hx => by
    simp only [unders, Bool.and_eq_true] at hx
    simp only [concs, V.conc_agree h x hx.1, concs_agree h l hx.2]
end
mutual
theorem V.under_mono {n m : Nat} (h : n ≤ m) : ∀ x : V, x.under n = true → x.under m = true
  | .raw v, _ => rfl
  | .any k, h => by simp [V.under] at h
  | .ptr b o, hx => by simp only [V.under, decide_eq_true_eq] at *; omega
  | .slo b l, hx => by simp only [V.under, decide_eq_true_eq] at *; omega
  | .sub b o l k, hx => by simp only [V.under, decide_eq_true_eq] at *; omega
  | .yld b, hx => by simp only [V.under, decide_eq_true_eq] at *; omega
  | .mp b, hx => by simp only [V.under, decide_eq_true_eq] at *; omega
  | .fn f x y, hx => by
    simp only [V.under, Bool.and_eq_true] at *
    exact ⟨unders_mono h x hx.1, unders_mono h y hx.2⟩
  | .agg l, hx => by simp only [V.under] at *; exact unders_mono h l hx
  | .tup l, hx => by simp only [V.under] at *; exact unders_mono h l hx
  | .lit b, _ => rfl
theorem unders_mono {n m : Nat} (h : n ≤ m) : ∀ l : List V, unders n l = true → unders m l = true
  | [], _ => rfl
  | x :: l, hx => by
    simp only [unders, Bool.and_eq_true] at *
    exact ⟨V.under_mono h x hx.1, unders_mono h l hx.2⟩
end
theorem V.slotOk_mono {n m : Nat} (h : n ≤ m) (x : V) (hx : x.slotOk n = true) : x.slotOk m = true := by
  cases x <;> first | rfl | exact V.under_mono h _ hx
theorem V.slot_agree {ρ ρ' : Ren} {n : Nat} (h : ∀ i, i < n → ρ'.blk i = ρ.blk i) (hu : ρ'.unk = ρ.unk) (x : V) (hx : x.slotOk n = true) : x.conc ρ' = x.conc ρ := by
  cases x with
  | any k => simp only [V.conc, hu]
  | _ => exact V.conc_agree h _ hx
theorem V.slot_of_under {n : Nat} (x : V) (hx : x.under n = true) : x.slotOk n = true := by
  cases x <;> first | rfl | exact hx
theorem slots_agree {ρ ρ' : Ren} {n : Nat} (h : ∀ i, i < n → ρ'.blk i = ρ.blk i) (u : Nat → Value) {l : List V} (hx : l.all (·.slotOk n) = true) : concs ⟨ρ'.blk, u⟩ l = concs ⟨ρ.blk, u⟩ l := by
  rw [concs_map, concs_map]
  exact List.map_congr_left fun x hm => V.slot_agree (ρ := ⟨ρ.blk, u⟩) (ρ' := ⟨ρ'.blk, u⟩) h rfl x (List.all_eq_true.1 hx x hm)
theorem Blk.under_mono {n m : Nat} (h : n ≤ m) (B : Blk) (hB : B.under n = true) : B.under m = true := by
  cases B with
  | cells cs ty own => exact unders_mono h _ hB
  | rcd r =>
    simp only [Blk.under, List.all_eq_true] at hB ⊢
    exact fun x hx => V.slotOk_mono h x (hB x hx)
  | mp ks vs bs k => exact unders_mono h _ hB
def cellsV : V → Option (List V)
  | .raw v => some (v.cells.toList.map .raw)
  | .any _ => none
  | .agg l => some l
  | .tup _ => none
  | x => some [x]
def raws : List V → Option (List Value)
  | [] => some []
  | .raw v :: l => (raws l).map (v :: ·)
  | _ :: _ => none
def mkAgg (l : List V) : V := match raws l with
  | some vs => .raw (.agg vs.toArray)
  | none => .agg l
def mkTup (l : List V) : V := match raws l with
  | some vs => .raw (.tuple vs.toArray)
  | none => .tup l
theorem raws_concs (ρ : Ren) : ∀ (l : List V) (vs : List Value), raws l = some vs → concs ρ l = vs
  | [], vs, h => by simp only [raws, Option.some.injEq] at h; subst h; rfl
  | x :: l, vs, h => by
    cases x with
    | raw v =>
      simp only [raws, Option.map_eq_some_iff] at h
      obtain ⟨us, hu, rfl⟩ := h
      simp [concs, V.conc, raws_concs ρ l us hu]
    | _ => simp [raws] at h
theorem mkAgg_conc (ρ : Ren) (l : List V) : (mkAgg l).conc ρ = .agg (concs ρ l).toArray := by
  unfold mkAgg
  split
  · rename_i vs h; rw [raws_concs ρ l vs h]; rfl
  · rfl
theorem mkAgg_under {n : Nat} {l : List V} (h : unders n l = true) : (mkAgg l).under n = true := by
  unfold mkAgg
  split
  · rfl
  · exact h
theorem mkTup_conc (ρ : Ren) (l : List V) : (mkTup l).conc ρ = .tuple (concs ρ l).toArray := by
  unfold mkTup
  split
  · rename_i vs h; rw [raws_concs ρ l vs h]; rfl
  · rfl
theorem mkTup_under {n : Nat} {l : List V} (h : unders n l = true) : (mkTup l).under n = true := by
  unfold mkTup
  split
  · rfl
  · exact h
theorem cellsV_conc (ρ : Ren) {x : V} {xs : List V} (h : cellsV x = some xs) : (x.conc ρ).cells.toList = concs ρ xs := by
  cases x <;> simp only [cellsV, Option.some.injEq, reduceCtorEq] at h <;> subst h
  · rw [concs_raw]; rfl
  case slo b l => simp only [V.conc, slcOf, concs]; split <;> rfl
  case sub b o l k => simp only [V.conc, subOf, concs]; split <;> rfl
  all_goals rfl
theorem cellsV_under {n : Nat} {x : V} {xs : List V} (h : cellsV x = some xs) (hx : x.under n = true) : unders n xs = true := by
  cases x <;> simp only [cellsV, Option.some.injEq, reduceCtorEq] at h <;> subst h
  · exact unders_raw n _
  all_goals first | exact hx | (simp only [unders, Bool.and_true]; exact hx)
def RSt.state : RSt → LoopState
  | .ready => .ready
  | .busy => .busy
  | .done _ => .done
def RSt.pend : RSt → Option Code
  | .done e => e.code
  | _ => none
def Rec.loop (P : Program) (ρ : Ren) (r : Rec) (fn : FuncId) (u : Nat → Value) (D : Nat) : Loop :=
  { state := r.st.state, pending := r.st.pend, fn, tmps := (concs ⟨ρ.blk, u⟩ r.t).toArray, params := (rangeAt P r.f r.i).1, assign := (rangeAt P r.f r.i).2.1, body := (rangeAt P r.f r.i).2.2, defers := D }
structure CellsOk (ρ : Ren) (l : Loc) (w : World) (cs : List V) (ty : TypeId) (own : Own) : Prop where
  nil : l.nil = true → cs = []
  row : l.nil = false → ∃ fr, w.heap[l.n]? = some (.cells (l.row (concs ρ cs)).toArray ty fr) ∧ (own ≠ .ro → fr = (0, 0))
  room : ∀ sz, own = .row sz → l.pre = [] ∧ (l.nil = false → cs.length + l.sp.length = l.cap * sz ∧ l.cap ≤ maxLen)
def mapEnts (ks vs : List Value) (bs : List Nat) : List MapEntry := (ks.zip (vs.zip bs)).map fun p => ⟨p.1, p.2.1, p.2.2⟩
def BlkOk (P : Program) (ρ : Ren) (l : Loc) (w : World) : Blk → Prop
  | .cells cs ty own => CellsOk ρ l w cs ty own
  | .rcd r => l.nil = false ∧ ∃ fn u D, w.heap[l.n]? = some (.loop (r.loop P ρ fn u D))
  | .mp ks vs bs k => l.nil = false ∧ w.heap[l.n]? = some (.map (mapEnts ks (concs ρ vs) bs).toArray k)
def lw (ρ : Ren) (h : Heap) (i : Nat) : Prop := ∃ B, h[i]? = some (some B) ∧ B.wr = true ∧ (ρ.blk i).nil = false
def lv (ρ : Ren) (h : Heap) (i : Nat) : Prop := ∃ B, h[i]? = some (some B) ∧ (ρ.blk i).nil = false
structure RelH (c : Cfg) (ρ : Ren) (h : Heap) (w : World) : Prop where
  cell : ∀ (i : Nat) (B : Blk), h[i]? = some (some B) → BlkOk c.P ρ (ρ.blk i) w B
  inj : ∀ i j, lw ρ h i → lv ρ h j → (ρ.blk i).n = (ρ.blk j).n → i = j
  sco : ∀ (i : Nat) (B : Blk), h[i]? = some (some B) → B.under h.length = true
  glob : ∀ p ∈ c.G, (ρ.blk p.2).n = p.1 ∧ (ρ.blk p.2).pre = [] ∧ p.2 < h.length
  big : c.L ≤ h.length
  base : ∀ i, i < c.L → h[i]? = c.H0[i]?
structure RelT (ρ : Ren) (n : Nat) (t : List V) (a : Act) : Prop where
  tmps : a.tmps = (concs ρ t).toArray
  sco : ∀ x ∈ t, x.slotOk n = true
structure Fr (lim n : Nat) (ρ : Ren) (h : Heap) (w : World) (ρ' : Ren) (h' : Heap) (w' : World) : Prop where
  os : w'.os = w.os
  tape : w'.tape = w.tape
  output : w'.output = w.output
  size : w.heap.size ≤ w'.heap.size
  blk : ∀ k, k < w.heap.size → (∀ i, lim ≤ i → lw ρ h i → (ρ.blk i).n ≠ k) → w'.heap[k]? = w.heap[k]?
  ren : ∀ i, i < n → ρ'.blk i = ρ.blk i
  len : n ≤ h'.length
  fresh : ∀ i, n ≤ i → lw ρ' h' i → w.heap.size ≤ (ρ'.blk i).n ∨ ∃ j, lim ≤ j ∧ lw ρ h j ∧ (ρ'.blk i).n = (ρ.blk j).n
  dead : ∀ i, i < n → lw ρ' h' i → lw ρ h i
theorem lt_len {h : Heap} {i : Nat} {x : Option Blk} (hi : h[i]? = some x) : i < h.length := by
  rcases Nat.lt_or_ge i h.length with k | k
  · exact k
  · rw [List.getElem?_eq_none k] at hi; cases hi
theorem lw.lt {ρ : Ren} {h : Heap} {i : Nat} (hi : lw ρ h i) : i < h.length := lt_len hi.choose_spec.1
theorem lv.lt {ρ : Ren} {h : Heap} {i : Nat} (hi : lv ρ h i) : i < h.length := lt_len hi.choose_spec.1
theorem lw.lv {ρ : Ren} {h : Heap} {i : Nat} (hi : lw ρ h i) : lv ρ h i := let ⟨B, h1, _, h3⟩ := hi; ⟨B, h1, h3⟩
theorem BlkOk.lt {P : Program} {ρ : Ren} {l : Loc} {w : World} {B : Blk} (h : BlkOk P ρ l w B) (hn : l.nil = false) : l.n < w.heap.size := by
  have key : ∀ {x : Obj}, w.heap[l.n]? = some x → l.n < w.heap.size := fun hx => (Array.getElem?_eq_some_iff.1 hx).1
  cases B with
  | cells cs ty own => obtain ⟨fr, h1, _⟩ := h.row hn; exact key h1
  | rcd r => obtain ⟨_, fn, u, D, h1⟩ := h; exact key h1
  | mp ks vs bs k => exact key h.2
theorem RelH.lt {c : Cfg} {ρ : Ren} {h : Heap} {w : World} (RH : RelH c ρ h w) {i : Nat} (hi : lv ρ h i) : (ρ.blk i).n < w.heap.size :=
  let ⟨B, h1, h2⟩ := hi; (RH.cell i B h1).lt h2
theorem BlkOk.move {P : Program} {ρ ρ' : Ren} {l : Loc} {w w' : World} {B : Blk} {n : Nat} (h : BlkOk P ρ l w B) (hu : B.under n = true) (hag : ∀ i, i < n → ρ'.blk i = ρ.blk i) (hw : l.nil = false → w'.heap[l.n]? = w.heap[l.n]?) : BlkOk P ρ' l w' B := by
  cases B with
  | cells cs ty own =>
    refine ⟨h.nil, fun hn => ?_, h.room⟩
    obtain ⟨fr, h1, h2⟩ := h.row hn
    exact ⟨fr, by rw [hw hn, h1, concs_agree hag _ hu], h2⟩
  | rcd r =>
    obtain ⟨h0, fn, u, D, h1⟩ := h
    refine ⟨h0, fn, u, D, ?_⟩
    rw [hw h0, h1]
    simp only [Rec.loop]
    rw [slots_agree hag u hu]
  | mp ks vs bs k => exact ⟨h.1, by rw [hw h.1, h.2, concs_agree hag _ hu]⟩
theorem Fr.refl (lim : Nat) {n : Nat} (ρ : Ren) (h : Heap) (w : World) (hl : lim ≤ n) (hn : n ≤ h.length) : Fr lim n ρ h w ρ h w :=
  ⟨rfl, rfl, rfl, Nat.le_refl _, fun _ _ _ => rfl, fun _ _ => rfl, hn, fun i h1 h2 => .inr ⟨i, by omega, h2, rfl⟩, fun _ _ h => h⟩
theorem Fr.trans {lim n : Nat} {ρ ρ1 ρ2 : Ren} {h h1 h2 : Heap} {w w1 w2 : World} (a : Fr lim n ρ h w ρ1 h1 w1) (b : Fr lim n ρ1 h1 w1 ρ2 h2 w2) : Fr lim n ρ h w ρ2 h2 w2 := by
  have back : ∀ i, lim ≤ i → lw ρ1 h1 i → w.heap.size ≤ (ρ1.blk i).n ∨ ∃ j, lim ≤ j ∧ lw ρ h j ∧ (ρ1.blk i).n = (ρ.blk j).n := fun i hl hi => by
    rcases Nat.lt_or_ge i n with hlt | hge
    · exact .inr ⟨i, hl, a.dead i hlt hi, by rw [a.ren i hlt]⟩
    · exact a.fresh i hge hi
  refine ⟨b.os.trans a.os, b.tape.trans a.tape, b.output.trans a.output, Nat.le_trans a.size b.size, fun k hk hn => ?_, fun i hi => (b.ren i hi).trans (a.ren i hi), b.len, fun i hi hi2 => ?_, fun i hi h2 => a.dead i hi (b.dead i hi h2)⟩
  · refine (b.blk k (Nat.lt_of_lt_of_le hk a.size) fun i hi hi2 => ?_).trans (a.blk k hk hn)
    rcases back i hi hi2 with h3 | ⟨j, h3, h4, h5⟩
    · omega
    · rw [h5]; exact hn j h3 h4
  · rcases b.fresh i hi hi2 with h3 | ⟨j, h3, h4, h5⟩
    · exact .inl (Nat.le_trans a.size h3)
    · rw [h5]; exact back j h3 h4
theorem Fr.mono {lim lim' n : Nat} {ρ ρ' : Ren} {h h' : Heap} {w w' : World} (a : Fr lim' n ρ h w ρ' h' w') (hl : lim ≤ lim') : Fr lim n ρ h w ρ' h' w' :=
  ⟨a.os, a.tape, a.output, a.size, fun k hk hn => a.blk k hk fun i hi hi2 => hn i (by omega) hi2, a.ren, a.len, fun i h1 h2 => (a.fresh i h1 h2).imp_right fun ⟨j, h3, h4⟩ => ⟨j, by omega, h4⟩, a.dead⟩
theorem Fr.fewer {lim n m : Nat} {ρ ρ' : Ren} {h h' : Heap} {w w' : World} (a : Fr lim n ρ h w ρ' h' w') (hm : m ≤ n) (hl : lim ≤ m) : Fr lim m ρ h w ρ' h' w' :=
  ⟨a.os, a.tape, a.output, a.size, a.blk, fun i hi => a.ren i (by omega), Nat.le_trans hm a.len, fun i h1 h2 => by
    rcases Nat.lt_or_ge i n with hlt | hge
    · exact .inr ⟨i, by omega, a.dead i hlt h2, by rw [a.ren i hlt]⟩
    · exact a.fresh i hge h2, fun i hi => a.dead i (by omega)⟩
theorem Fr.unk {lim n : Nat} {ρ ρ' : Ren} {h h' : Heap} {w w' : World} (a : Fr lim n ρ h w ρ' h' w') (u : Nat → Value) : Fr lim n ρ h w ⟨ρ'.blk, u⟩ h' w' :=
  ⟨a.os, a.tape, a.output, a.size, a.blk, a.ren, a.len, a.fresh, a.dead⟩
theorem Fr.unk0 {lim n : Nat} {ρ ρ' : Ren} {h h' : Heap} {w w' : World} {u : Nat → Value} (a : Fr lim n ⟨ρ.blk, u⟩ h w ρ' h' w') : Fr lim n ρ h w ρ' h' w' :=
  ⟨a.os, a.tape, a.output, a.size, a.blk, a.ren, a.len, a.fresh, a.dead⟩
theorem relH_unk {c : Cfg} {ρ : Ren} {h : Heap} {w : World} (RH : RelH c ρ h w) (u : Nat → Value) : RelH c ⟨ρ.blk, u⟩ h w :=
  ⟨fun i B hi => (RH.cell i B hi).move (RH.sco i B hi) (fun _ _ => rfl) (fun _ => rfl), RH.inj, RH.sco, RH.glob, RH.big, RH.base⟩
def Ren.push (ρ : Ren) (n : Nat) (l : Loc) : Ren := ⟨fun i => if i = n then l else ρ.blk i, ρ.unk⟩
theorem push_old {ρ : Ren} {n : Nat} {l : Loc} {i : Nat} (hi : i < n) : (ρ.push n l).blk i = ρ.blk i := by simp only [Ren.push]; rw [if_neg (by omega)]
theorem push_new {ρ : Ren} {n : Nat} {l : Loc} : (ρ.push n l).blk n = l := by simp [Ren.push]
theorem get_push {h : Heap} {X : Option Blk} {i : Nat} {B : Blk} (hi : (h ++ [X])[i]? = some (some B)) : (i < h.length ∧ h[i]? = some (some B)) ∨ (i = h.length ∧ X = some B) := by
  rcases Nat.lt_or_ge i h.length with hlt | hge
  · rw [List.getElem?_append_left hlt] at hi; exact .inl ⟨hlt, hi⟩
  · rw [List.getElem?_append_right hge] at hi
    have e : i = h.length := by
      rcases Nat.lt_or_ge (i - h.length) 1 with h1 | h1
      · omega
      · rw [List.getElem?_eq_none (by simpa using h1)] at hi; cases hi
    subst e
    simp only [Nat.sub_self, List.getElem?_cons_zero, Option.some.injEq] at hi
    exact .inr ⟨rfl, hi⟩
theorem relH_push {c : Cfg} {ρ : Ren} {h : Heap} {w w' : World} (RH : RelH c ρ h w) {B : Blk} {l : Loc} (hu : B.under (h.length + 1) = true) (hB : BlkOk c.P (ρ.push h.length l) l w' B) (hold : ∀ i, lv ρ h i → w'.heap[(ρ.blk i).n]? = w.heap[(ρ.blk i).n]?)
    (hap : l.nil = false → ∀ i, lv ρ h i → (ρ.blk i).n ≠ l.n) : RelH c (ρ.push h.length l) (h ++ [some B]) w' := by
  have hag : ∀ i, i < h.length → (ρ.push h.length l).blk i = ρ.blk i := fun i hi => push_old hi
  have hlen : (h ++ [some B]).length = h.length + 1 := by simp
  have old : ∀ {i : Nat} {C : Blk}, i < h.length → (h ++ [some B])[i]? = some (some C) → h[i]? = some (some C) := fun {i C} hi hx => by rwa [List.getElem?_append_left hi] at hx
  refine ⟨fun i C hi => ?_, fun i j hi hj he => ?_, fun i C hi => ?_, fun p hp => ?_, by rw [hlen]; have := RH.big; omega, fun i hi => by rw [List.getElem?_append_left (by have := RH.big; omega)]; exact RH.base i hi⟩
  · rcases get_push hi with ⟨hlt, h1⟩ | ⟨rfl, h1⟩
    · rw [hag i hlt]
      exact (RH.cell i C h1).move (RH.sco i C h1) hag fun hn => hold i ⟨C, h1, hn⟩
    · cases h1
      rw [push_new]
      exact hB
  · obtain ⟨C, h1, h2, h3⟩ := hi
    obtain ⟨D, k1, k3⟩ := hj
    rcases get_push h1 with ⟨hlt, h1⟩ | ⟨rfl, h1⟩ <;> rcases get_push k1 with ⟨klt, k1⟩ | ⟨rfl, k1⟩
    · rw [hag i hlt] at h3 he
      rw [hag j klt] at k3 he
      exact RH.inj i j ⟨C, h1, h2, h3⟩ ⟨D, k1, k3⟩ he
    · rw [hag i hlt] at h3 he
      rw [push_new] at k3 he
      exact absurd he (hap k3 i ⟨C, h1, h3⟩)
    · rw [hag j klt] at k3 he
      rw [push_new] at h3 he
      exact absurd he.symm (hap h3 j ⟨D, k1, k3⟩)
    · rfl
  · rw [hlen]
    rcases get_push hi with ⟨hlt, h1⟩ | ⟨rfl, h1⟩
    · exact Blk.under_mono (by omega) _ (RH.sco i C h1)
    · cases h1; exact hu
  · obtain ⟨h1, h2, h3⟩ := RH.glob p hp
    exact ⟨by rw [hag _ h3, h1], by rw [hag _ h3, h2], by rw [hlen]; omega⟩
theorem fr_push {lim : Nat} {ρ : Ren} {h : Heap} {w w' : World} {B : Option Blk} {l : Loc} (hl : lim ≤ h.length) (os : w'.os = w.os) (tp : w'.tape = w.tape) (ou : w'.output = w.output) (sz : w.heap.size ≤ w'.heap.size)
    (hb : ∀ k, k < w.heap.size → w'.heap[k]? = w.heap[k]?) (hn : l.nil = false → w.heap.size ≤ l.n) : Fr lim h.length ρ h w (ρ.push h.length l) (h ++ [B]) w' := by
  refine ⟨os, tp, ou, sz, fun k hk _ => hb k hk, fun i hi => push_old hi, by simp, fun i h1 h2 => ?_, fun i hi h2 => ?_⟩
  · obtain ⟨C, k1, k2, k3⟩ := h2
    rcases get_push k1 with ⟨hlt, _⟩ | ⟨rfl, _⟩
    · omega
    · rw [push_new] at k3 ⊢
      exact .inl (hn k3)
  · obtain ⟨C, k1, k2, k3⟩ := h2
    rw [push_old hi] at k3
    exact ⟨C, by rwa [List.getElem?_append_left hi] at k1, k2, k3⟩
theorem relH_alloc {c : Cfg} {ρ : Ren} {h : Heap} {w : World} (RH : RelH c ρ h w) {o : Obj} {B : Blk} {l : Loc} (hln : l.n = w.heap.size) (hu : B.under h.length = true) (hB : BlkOk c.P ρ l (w.alloc o) B) : RelH c (ρ.push h.length l) (h ++ [some B]) (w.alloc o) := by
  refine relH_push RH (Blk.under_mono (by omega) _ hu) ?_ (fun i hi => Below.heap_alloc _ _ _ (RH.lt hi)) (fun _ i hi e => ?_)
  · exact hB.move hu (fun i hi => push_old hi) (fun _ => rfl)
  · have := RH.lt hi; omega
theorem fr_alloc {lim : Nat} {ρ : Ren} {h : Heap} {w : World} {o : Obj} {B : Option Blk} {l : Loc} (hl : lim ≤ h.length) (hln : l.n = w.heap.size) : Fr lim h.length ρ h w (ρ.push h.length l) (h ++ [B]) (w.alloc o) :=
  fr_push hl rfl rfl rfl (by simp) (fun k hk => Below.heap_alloc _ _ _ hk) (fun _ => by omega)
theorem alloc_this (w : World) (o : Obj) : (w.alloc o).heap[w.heap.size]? = some o := Array.getElem?_push_size
theorem cellsOk_alloc {ρ : Ren} {w : World} {xs : List V} {ty : TypeId} : CellsOk ρ (Loc.at w.heap.size) (w.alloc (.cells (concs ρ xs).toArray ty)) xs ty .rw :=
  ⟨fun h => (by cases h), fun _ => ⟨(0, 0), (by rw [show (Loc.at w.heap.size).n = w.heap.size from rfl, alloc_this]; simp [Loc.row, Loc.at]), fun _ => rfl⟩, fun sz h => (by cases h)⟩
end Go.Proofs.Ytcibaankajfhlaa.E2
end
section
namespace Go.Proofs.Ytcibaankajfhlaa.E2
open Go Go.RowKit
noncomputable section
inductive Ans where
  | br (b : Bool)
  | auto (q : List (List (Nat × Nat))) (cs : List (FuncId × V))
  | go
  | ret (v : V)
  | reth (v : V) (h : Heap)
  | loop (e : Ex) (t : List V) (h : Heap)
  | olds (l : List (Nat × Nat))
  | val (b : Nat) (v : V)
  | cells (b : Nat) (l : List V)
  | rng (f i : Nat)
  | key (v : V)
  | mpb (ks : List Value) (vs : List V) (bs : List Nat) (k : Nat)
def takeR (f : FuncId) : List (FuncId × V) → Option (V × List (FuncId × V))
  | [] => none
  | (g, v) :: l => if g = f then some (v, l) else match takeR f l with
    | some (u, k) => some (u, (g, v) :: k)
    | none => none
def told (f : FuncId) (ans : List Ans) : Option (V × List Ans) := match ans with
  | .ret v :: a => some (v, a)
  | .auto q cs :: a => match takeR f cs with
    | some (v, k) => some (v, .auto q k :: a)
    | none => none
  | _ => none
def toldK (f : FuncId) (ans : List Ans) : Option (V × List Ans) := match ans with
  | .key v :: a => some (v, a)
  | .auto q cs :: a => match takeR f cs with
    | some (v, k) => some (v, .auto q k :: a)
    | none => none
  | _ => none
def pureRun (P : Program) {α : Type} : Sem α → Option α
  | .pure a => some a
  | .program k => pureRun P (k P)
  | .mark _ k => pureRun P k
  | _ => none
theorem pureRun_run {P : Program} {α : Type} {s : Sem α} {x : α} (h : pureRun P s = some x) (w : World) : s.run P w = .ok x w := by
  induction s with
  | pure a => simp only [pureRun, Option.some.injEq] at h; subst h; rfl
  | program k ih => exact ih P h
  | mark m k ih => exact ih h
  | _ => simp [pureRun] at h
def inR (k : IntKind) (n : Int) : Prop := k.wrap n = n
def getR (t : List V) (n : Nat) : Option V := @List.rec V (fun _ => Nat → Option V) (fun _ => none) (fun x _ ih n => @Nat.rec (fun _ => Option V) (some x) (fun m _ => ih m) n) t n
def setR (t : List V) (n : Nat) (v : V) : List V := @List.rec V (fun _ => Nat → List V) (fun _ => []) (fun x l ih n => @Nat.rec (fun _ => List V) (v :: l) (fun m _ => x :: ih m) n) t n
theorem getR_eq : ∀ (t : List V) (n : Nat), getR t n = t[n]?
  | [], n => rfl
  | x :: l, 0 => rfl
  | x :: l, n + 1 => getR_eq l n
theorem setR_eq : ∀ (t : List V) (n : Nat) (v : V), setR t n v = t.set n v
  | [], n, v => rfl
  | x :: l, 0, v => rfl
  | x :: l, n + 1, v => congrArg (x :: ·) (setR_eq l n v)
def opnd (c : Cfg) (t : List V) : Operand → Option V
  | .tmp s => match getR t s with
    | some (.any _) => none
    | some (.lit b) => some (.raw (.bool b))
    | r => r
  | .const v => some (.raw v)
  | .func f => some (.fn (.func f) [] [])
  | .global g => match c.G.find? (fun p => p.1 == g) with
    | some p => some (.ptr p.2 0)
    | none => none
def rawOf (c : Cfg) (t : List V) (x : Operand) : Value := match opnd c t x with
  | some (.raw v) => v
  | _ => undef
def isRaw (c : Cfg) (t : List V) (x : Operand) : Bool := match opnd c t x with
  | some (.raw _) => true
  | _ => false
def plainOpnds : Op → Option (List Operand)
  | .binOp _ _ x y _ => some [x, y]
  | .unOp _ _ x => some [x]
  | .convert _ _ x => some [x]
  | .field _ x _ => some [x]
  | .index _ x ix => some [x, ix]
  | .extract t _ => some [t]
  | .build _ parts => some (parts.toList.map (·.2))
  | .call ⟨.builtin _, args, _⟩ => some args.toList
  | .slice _ x lo hi mx => some (x :: (lo.toList ++ hi.toList ++ mx.toList))
  | .typeAssert x _ _ _ => some [x]
  | .makeInterface _ x => some [x]
  | _ => none
structure Out where
  v : V
  h : Heap
  ans : List Ans
  cons : List Prop
def askB (b : Bool) (ans : List Ans) : Option (Bool × List Ans × List Prop) := match ans with
  | .br q :: a => some (q, a, [b = q])
  | .auto z cs :: a => match b with
    | true => some (true, .auto z cs :: a, [])
    | false => some (false, .auto z cs :: a, [])
  | _ => none
theorem askB_ok {b q : Bool} {ans ans' : List Ans} {cons : List Prop} (h : askB b ans = some (q, ans', cons)) (hc : ∀ p ∈ cons, p) : b = q := by
  unfold askB at h
  split at h
  · simp only [Option.some.injEq, Prod.mk.injEq] at h
    obtain ⟨rfl, _, rfl⟩ := h
    exact hc _ (List.mem_singleton.2 rfl)
  · split at h <;>
    · simp only [Option.some.injEq, Prod.mk.injEq] at h
      exact h.1
  · cases h
def putAt (cs : List V) (off : Nat) (xs : List V) : List V := cs.take off ++ xs ++ cs.drop (off + xs.length)
def bareOp (o : Op) (c : Cfg) (t : List V) : Option (V × List Prop) :=
  if c.bare then
    match o with
    | .binOp b _ x y _ =>
      match opnd c t x, opnd c t y with
      | some (.raw (.int k a)), some (.raw (.int k' d)) =>
        if k = k' then
          match b with
          | .add => some (.raw (.int k (a + d)), [inR k (a + d)])
          | .sub => some (.raw (.int k (a - d)), [inR k (a - d)])
          | .mul => some (.raw (.int k (a * d)), [inR k (a * d)])
          | .quo => some (.raw (.int k (a.tdiv d)), [d ≠ 0, inR k (a.tdiv d)])
          | .rem => some (.raw (.int k (a.tmod d)), [d ≠ 0])
          | _ => none
        else none
      | _, _ => none
    | .unOp .neg _ x =>
      match opnd c t x with
      | some (.raw (.int k a)) => some (.raw (.int k (-a)), [inR k (-a)])
      | _ => none
    | .convert src dst x =>
      match opnd c t x with
      | some (.raw (.int k0 a)) =>
        match pureRun c.P (underlying src), pureRun c.P (underlying dst) with
        | some (.int _), some (.int k) => some (.raw (.int k a), [inR k a])
        | _, _ => none
      | _ => none
    | _ => none
  else none
def loadRow (c : Cfg) (t : TypeId) (cs : List V) (off : Nat) : Option V :=
  match pureRun c.P (isAgg t), pureRun c.P (Go.sizeOf t) with
  | some true, some n => if 0 < n ∧ off + n ≤ cs.length then some (mkAgg ((cs.drop off).take n)) else none
  | some false, _ => cs[off]?
  | _, _ => none
def loadV (c : Cfg) (h : Heap) (t : TypeId) (b off : Nat) : Option V :=
  match h[b]? with
  | some (some (.cells cs _ _)) => loadRow c t cs off
  | _ => none
def oneCells : List V → Bool
  | [] => true
  | .raw (.agg _) :: _ => false
  | .raw (.tuple _) :: _ => false
  | .any _ :: _ => false
  | .agg _ :: _ => false
  | .tup _ :: _ => false
  | _ :: l => oneCells l
def storeRow (c : Cfg) (names : Nat) (t : TypeId) (cs : List V) (off : Nat) (x : V) : Option (List V) :=
  match cellsV x, pureRun c.P (Go.sizeOf t) with
  | some xs, some n => if xs.length = n ∧ 0 < n ∧ off + xs.length ≤ cs.length ∧ oneCells xs = true ∧ unders names xs = true then some (putAt cs off xs) else none
  | _, _ => none
def storeV (c : Cfg) (lim : Nat) (h : Heap) (t : TypeId) (b off : Nat) (x : V) : Option Heap :=
  match h[b]? with
  | some (some (.cells _ _ .ro)) => none
  | some (some (.cells cs T own)) => if lim ≤ b then (storeRow c h.length t cs off x).map fun cs' => h.set b (some (.cells cs' T own)) else none
  | _ => none
def loadA (c : Cfg) (h : Heap) (ty : TypeId) (b off : Nat) (ans : List Ans) : Option (V × List Ans × List Prop) :=
  match ans with
  | .val b' v :: ans' => if b' = b then match h[b]? with
      | some (some (.cells cs _ _)) => some (v, ans', [loadRow c ty cs off = some v])
      | _ => none
    else (loadV c h ty b off).map fun v => (v, ans, [])
  | _ => (loadV c h ty b off).map fun v => (v, ans, [])
def storeA (c : Cfg) (lim : Nat) (h : Heap) (ty : TypeId) (b off : Nat) (x : V) (ans : List Ans) : Option (Heap × List Ans × List Prop) :=
  match ans with
  | .cells b' cs' :: ans' => if b' = b then match h[b]? with
      | some (some (.cells _ _ .ro)) => none
      | some (some (.cells cs T own)) => if lim ≤ b then some (h.set b (some (.cells cs' T own)), ans', [storeRow c h.length ty cs off x = some cs']) else none
      | _ => none
    else (storeV c lim h ty b off x).map fun h' => (h', ans, [])
  | _ => (storeV c lim h ty b off x).map fun h' => (h', ans, [])
def fieldOff (c : Cfg) (s : TypeId) (f : Nat) : Option Nat :=
  match pureRun c.P (underlying s) with
  | some (.struct fields) => match fields[f]? with
    | some fd => match pureRun c.P (Go.sizeOf fd.type) with
      | some n => if n = 0 then none else some fd.offset
      | none => none
    | none => none
  | _ => none
structure CF where
  call : FuncId → List V → Heap → Nat → List Ans → Option Out
  yld : Nat → List V → Heap → Nat → List Ans → Option Out
def opnds (c : Cfg) (t : List V) : List Operand → Option (List V)
  | [] => some []
  | x :: l => match opnd c t x, opnds c t l with
    | some v, some vs => some (v :: vs)
    | _, _ => none
def evGen (c : Cfg) (t : List V) (h : Heap) (ans : List Ans) (o : Oper) : Option Out :=
  match bareOp o.op c t with
  | some (v, cons) => some ⟨v, h, ans, cons⟩
  | none => match plainOpnds o.op with
    | some l => if l.all (isRaw c t) then
        match pureRun c.P (execOp (rawOf c t) o) with
        | some (.value v) => some ⟨.raw v, h, ans, []⟩
        | _ => none
      else none
    | none => none
def lenV (c : Cfg) (t : List V) (args : Array Operand) (ats : Array TypeId) : Option V :=
  match args.toList, ats[0]? with
  | [x], some T => match opnd c t x, pureRun c.P (underlying T) with
    | some (.slo _ l), some (.slice _) => some (.raw (goInt l))
    | some (.sub _ _ l _), some (.slice _) => some (.raw (goInt l))
    | _, _ => none
  | _, _ => none
def indexV (c : Cfg) (t : List V) (T : TypeId) (x ix : Operand) : Option (V × List Prop) :=
  match opnd c t x, opnd c t ix, pureRun c.P (underlying T) with
  | some (.slo b l), some (.raw (.int _ i)), some (.slice e) => match pureRun c.P (Go.sizeOf e) with
    | some n => some (.ptr b (i.toNat * n), owe c (0 ≤ i ∧ i < (l : Int)))
    | none => none
  | some (.sub b off l _), some (.raw (.int _ i)), some (.slice e) => match pureRun c.P (Go.sizeOf e) with
    | some n => some (.ptr b (off + i.toNat * n), owe c (0 ≤ i ∧ i < (l : Int)))
    | none => none
  | some (.ptr b off), some (.raw (.int _ i)), some (.array l e) => match pureRun c.P (Go.sizeOf e) with
    | some n => some (.ptr b (off + i.toNat * n), owe c (0 ≤ i ∧ i < (l : Int)))
    | none => none
  | _, _, _ => none
def litCells (c : Cfg) (T : TypeId) (len : Nat) (parts : List (Nat × Value)) : Option (TypeId × Nat × Array Value) :=
  match pureRun c.P (underlying T) with
  | some (.slice e) => match pureRun c.P (Go.sizeOf e), pureRun c.P (zeroValue e) with
    | some n, some z => if n = 0 ∨ len * n > 2 ^ 24 then none else
      match Instr.fill (fun i => some (i * n, n)) (Array.map (fun x => z.cells[x % z.cells.size]!) (Array.range (len * n))) parts with
      | some cells => some (e, n, cells)
      | none => none
    | _, _ => none
  | _ => none
def eqFlds (P : Program) (eq : TypeId → Value → Value → Option Bool) (xs ys : Array Value) : List Field → Option Bool
  | [] => some true
  | f :: l => if f.name = "_" then eqFlds P eq xs ys l else
    match pureRun P (part f.type xs f.offset), pureRun P (part f.type ys f.offset) with
    | some x, some y => match eq f.type x y, eqFlds P eq xs ys l with
      | some p, some q => some (p && q)
      | _, _ => none
    | _, _ => none
def eqElems (P : Program) (eq : TypeId → Value → Value → Option Bool) (e : TypeId) (n : Nat) (xs ys : Array Value) : List Nat → Option Bool
  | [] => some true
  | i :: l => match pureRun P (part e xs (i * n)), pureRun P (part e ys (i * n)) with
    | some x, some y => match eq e x y, eqElems P eq e n xs ys l with
      | some p, some q => some (p && q)
      | _, _ => none
    | _, _ => none
def eqIn (P : Program) : Nat → TypeId → Value → Value → Option Bool
  | 0, _, _, _ => none
  | d + 1, t, x, y => match pureRun P (underlying t), x, y with
    | some .bool, .bool a, .bool b => some (a == b)
    | some .string, .string a, .string b => some (a == b)
    | some (.int _), .int k a, .int k' b => if k = k' then some (a == b) else none
    | some (.struct fields), .agg xs, .agg ys => if P.stoodInHeld t then none else eqFlds P (eqIn P d) xs ys fields.toList
    | some (.array len e), .agg xs, .agg ys => match pureRun P (Go.sizeOf e) with
      | some n => eqElems P (eqIn P d) e n xs ys (List.range' 0 len)
      | none => none
    | _, _, _ => none
def eqV (c : Cfg) (t : List V) (b : BinOp) (T : TypeId) (x y : Operand) : Option V :=
  match b, opnd c t x, opnd c t y with
  | .eql, some (.raw (.agg xs)), some (.raw (.agg ys)) => if c.P.eqGuardType c.P.depth T then none else (eqIn c.P 12 T (.agg xs) (.agg ys)).map fun r => .raw (.bool r)
  | .neq, some (.raw (.agg xs)), some (.raw (.agg ys)) => if c.P.eqGuardType c.P.depth T then none else (eqIn c.P 12 T (.agg xs) (.agg ys)).map fun r => .raw (.bool (!r))
  | _, _, _ => none
def nilTest (c : Cfg) (T : TypeId) (v : V) (n : Value) : Bool := match v, n, pureRun c.P (underlying T) with
  | .slo _ (_ + 1), .slice none _ _, some (.slice _) => true
  | .sub _ _ (_ + 1) _, .slice none _ _, some (.slice _) => true
  | .ptr _ _, .pointer none, some (.pointer _) => true
  | .mp _, .map none, some (.map _ _) => true
  | .fn _ _ _, .nilFunc, some (.func _ _ _) => true
  | _, _, _ => false
def nilV (c : Cfg) (t : List V) (b : BinOp) (T : TypeId) (x y : Operand) : Option V := match (match opnd c t x, opnd c t y with
    | some v, some (.raw n) => nilTest c T v n
    | some (.raw n), some v => nilTest c T v n
    | _, _ => false) with
  | true => match b with
    | .eql => some (.raw (.bool false))
    | .neq => some (.raw (.bool true))
    | _ => none
  | false => none
def mk0 (z : Array Value) (n : Nat) : List V := (List.range n).map fun i => .raw (z[i % z.size]!)
def newsV (c : Cfg) (h : Heap) (sz : Nat) : V → Option (Nat × List V × List Prop)
  | .raw (.slice none 0 0) => some (0, [], [])
  | .slo b m => match h[b]? with
    | some (some (.cells cs _ _)) => some (m, cs.take (m * sz), owe c (m * sz ≤ cs.length) ++ owe c (oneCells (cs.take (m * sz)) = true))
    | _ => none
  | .sub b off m _ => match h[b]? with
    | some (some (.cells cs _ _)) => some (m, (cs.drop off).take (m * sz), owe c (off + m * sz ≤ cs.length) ++ owe c (oneCells ((cs.drop off).take (m * sz)) = true))
    | _ => none
  | _ => none
def appendV (c : Cfg) (lim : Nat) (h : Heap) (s x : V) (ats : Array TypeId) : Option (V × Heap × List Prop) :=
  match ats.toList with
  | [T, T'] => if T = T' then match c.P.underlying T with
    | some (.slice e) => match c.P.info? e with
      | some i => match i.zero with
        | some z => if 0 < i.size ∧ z.cells.size = i.size then match newsV c h i.size x with
          | some (m, news, cons) => match s with
            | .raw (.slice none 0 0) => some (.slo h.length m, h ++ [some (.cells news e (.row i.size))], cons ++ owe c (m ≤ maxLen ∧ m * i.bytes ≤ 140737488355328))
            | .sub b off 0 0 => match m with
              | 0 => if b < h.length then some (.sub b off 0 0, h, cons) else none
              | m + 1 => some (.slo h.length (m + 1), h ++ [some (.cells news e (.row i.size))], cons ++ owe c (m + 1 ≤ maxLen ∧ (m + 1) * i.bytes ≤ 140737488355328))
            | .slo b n => match h[b]? with
              | some (some (.cells cs e' (.row sz))) => if lim ≤ b ∧ e' = e ∧ sz = i.size then
                  some (.slo h.length (n + m), h.set b none ++ [some (.cells (cs ++ news) e (.row i.size))], cons ++ (owe c (cs.length = n * i.size) ++ owe c (n + m ≤ maxLen ∧ (n + m) * i.bytes ≤ 140737488355328)))
                else none
              | _ => none
            | _ => none
          | none => none
          else none
        | none => none
      | none => none
    | _ => none
    else none
  | _ => none
def sliceV (c : Cfg) (h : Heap) (t : List V) (T : TypeId) (x : Operand) (lo hi mx : Option Operand) : Option (V × List Prop) :=
  match lo, hi, mx with
  | none, some y, none => match opnd c t x, opnd c t y, pureRun c.P (underlying T) with
    | some (.slo b l), some (.raw (.int _ k)), some (.slice e) => match h[b]?, pureRun c.P (Go.sizeOf e) with
      | some (some (.cells cs _ (.row sz))), some _ => some (.slo b k.toNat, owe c (0 ≤ k ∧ k ≤ (l : Int) ∧ 0 < sz ∧ l * sz ≤ cs.length))
      | _, _ => none
    | _, _, _ => none
  | _, _, _ => none
def bndV (c : Cfg) (t : List V) (d : Nat) : Option Operand → Option Nat
  | none => some d
  | some x => match opnd c t x with
    | some (.raw (.int _ (.ofNat k))) => some k
    | _ => none
def roomB (h : Heap) (b l m n : Nat) : Bool := match h[b]? with
  | some (some (.cells cs _ own)) => decide (0 < n) && decide (l * n ≤ cs.length) && (m == 0 || (decide (m ≤ l) && (match own with
    | .row sz => sz == n
    | _ => false)))
  | _ => false
def subV (c : Cfg) (h : Heap) (t : List V) (T : TypeId) (x : Operand) (lo hi mx : Option Operand) : Option V :=
  match opnd c t x, pureRun c.P (underlying T) with
  | some (.slo b l), some (.slice e) => match hi, mx with
    | some hi, some mx => match bndV c t 0 lo, bndV c t 0 (some hi), bndV c t 0 (some mx), pureRun c.P (Go.sizeOf e) with
      | some 0, some p, some m, some n => if p ≤ m ∧ roomB h b l m n = true then some (.sub b 0 p m) else none
      | _, _, _, _ => none
    | _, _ => none
  | some (.sub b off l k), some (.slice e) => match bndV c t 0 lo, bndV c t l hi, bndV c t k mx, pureRun c.P (Go.sizeOf e) with
    | some q, some p, some m, some n => if q ≤ p ∧ p ≤ m ∧ m ≤ k ∧ (q < m ∨ (l = 0 ∧ k = 0)) ∧ (mx.isSome = true → hi.isSome = true) then some (.sub b (off + q * n) (p - q) (m - q)) else none
    | _, _, _, _ => none
  | some (.ptr b off), some (.array N e) => match bndV c t 0 lo, bndV c t N hi, bndV c t N mx, pureRun c.P (Go.sizeOf e) with
    | some q, some p, some m, some n => if q ≤ p ∧ p ≤ m ∧ m ≤ N ∧ q < m ∧ (mx.isSome = true → hi.isSome = true) then some (.sub b (off + q * n) (p - q) (m - q)) else none
    | _, _, _, _ => none
  | _, _ => none
def extractV (c : Cfg) (t : List V) (x : Operand) (i : Nat) : Option V := match opnd c t x with
  | some (.tup l) => l[i]?
  | _ => none
def fieldV (c : Cfg) (t : List V) (T : TypeId) (x : Operand) (f : Nat) : Option V := match opnd c t x with
  | some (.agg l) => match pureRun c.P (underlying T) with
    | some (.struct fields) => match fields[f]? with
      | some fd => loadRow c fd.type l fd.offset
      | none => none
    | _ => none
  | _ => none
def opndsP (c : Cfg) (t : List V) : List (Nat × Operand) → Option (List (Nat × V))
  | [] => some []
  | (i, x) :: l => match opnd c t x, opndsP c t l with
    | some v, some vs => some ((i, v) :: vs)
    | _, _ => none
def fillV (place : Nat → Option (Nat × Nat)) (cells : List V) : List (Nat × V) → Option (List V)
  | [] => some cells
  | (i, v) :: rest => match place i, cellsV v with
    | some (off, size), some xs => if xs.length = size ∧ off + xs.length ≤ cells.length then fillV place (putAt cells off xs) rest else none
    | _, _ => none
def buildV (c : Cfg) (t : List V) (T : TypeId) (parts : Array (Nat × Operand)) : Option V :=
  match pureRun c.P (zeroValue T), pureRun c.P (underlying T), opndsP c t parts.toList with
  | some z, some (.struct fields), some ps => match pureRun c.P (fields.mapM fun f => do pure (f.offset, ← Go.sizeOf f.type)) with
    | some places => (fillV (places[·]?) (z.cells.toList.map .raw) ps).map mkAgg
    | none => none
  | some z, some (.array _ elem), some ps => match pureRun c.P (Go.sizeOf elem) with
    | some size => (fillV (fun i => some (i * size, size)) (z.cells.toList.map .raw) ps).map mkAgg
    | none => none
  | _, _, _ => none
def keyAt (kd : TypeDesc) (k : Value) : List Value → Nat → Option (Option Nat)
  | [], _ => some none
  | e :: es, i => match Instr.sameNow kd k e with
    | some true => some (some i)
    | some false => keyAt kd k es (i + 1)
    | none => none
def askAt (P : Program) (kt : TypeId) (k : Value) : List Value → Nat → Option (Option Nat)
  | [], _ => some none
  | e :: es, i => match eqIn P 12 kt k e with
    | some true => some (some i)
    | some false => askAt P kt k es (i + 1)
    | none => none
def findV (c : Cfg) (kt : TypeId) (ks : List Value) (kv : Value) : Option (Option Nat) :=
  match pureRun c.P (underlying kt), pureRun c.P (Instr.checkKey true 10000 kt kv), pureRun c.P (Instr.checkKey false 10000 kt kv) with
  | some kd, some _, some _ => match keyAt kd kv ks 0 with
    | some r => some r
    | none => askAt c.P kt kv ks 0
  | _, _, _ => none
def mapAt (h : Heap) (b : Nat) : Option (List Value × List V × List Nat × Nat) := match h[b]? with
  | some (some (.mp ks vs bs k)) => if ks.length = vs.length ∧ ks.length = bs.length then some (ks, vs, bs, k) else none
  | _ => none
def mapS (h : Heap) (b : Nat) : Option (List Value × List V × List Nat × Nat) := match h[b]? with
  | some (some (.mp ks vs bs k)) => some (ks, vs, bs, k)
  | _ => none
def keyF : Nat := 4294967296
def lookF : Nat := 4294967297
def lenF : Nat := 4294967298
def getM (c : Cfg) (kt : TypeId) (ks : List Value) (vs : List V) (kv : Value) : Option (Option V) := match findV c kt ks kv with
  | some (some i) => match vs[i]? with
    | some v => some (some v)
    | none => none
  | some none => some none
  | none => none
def putM (c : Cfg) (kt : TypeId) (ks : List Value) (vs : List V) (bs : List Nat) (k : Nat) (kv : Value) (v : V) : Option (List Value × List V × List Nat × Nat) := match findV c kt ks kv with
  | some (some i) => match ks[i]? with
    | some k0 => if Instr.sameBits 10000 k0 kv = true then some (ks.set i kv, vs.set i v, bs, k) else none
    | none => none
  | some none => some (ks ++ [kv], vs ++ [v], bs ++ [k], k + 1)
  | none => none
def delM (c : Cfg) (kt : TypeId) (ks : List Value) (vs : List V) (bs : List Nat) (k : Nat) (kv : Value) : Option (List Value × List V × List Nat × Nat) := match findV c kt ks kv with
  | some (some i) => some (ks.eraseIdx i, vs.eraseIdx i, bs.eraseIdx i, k)
  | some none => some (ks, vs, bs, k)
  | none => none
def lookupV (c : Cfg) (t : List V) (h : Heap) (T : TypeId) (x y : Operand) (two : Bool) : Option V :=
  match opnd c t x, opnd c t y, pureRun c.P (underlying T) with
  | some (.mp b), some (.raw kv), some (.map kt el) => match mapAt h b with
    | some (ks, vs, _, _) => match findV c kt ks kv with
      | some (some i) => match vs[i]? with
        | some v => some (if two then mkTup [v, .raw (.bool true)] else v)
        | none => none
      | some none => match pureRun c.P (zeroValue el) with
        | some z => some (if two then .raw (.tuple #[z, .bool false]) else .raw z)
        | none => none
      | none => none
    | none => none
  | _, _, _ => none
def updateV (c : Cfg) (lim : Nat) (t : List V) (h : Heap) (T : TypeId) (m y x : Operand) : Option Heap :=
  match opnd c t m, opnd c t y, opnd c t x, pureRun c.P (underlying T) with
  | some (.mp b), some (.raw kv), some v, some (.map kt _) => if lim ≤ b then match mapAt h b with
    | some (ks, vs, bs, k) => match findV c kt ks kv with
      | some (some i) => match ks[i]? with
        | some k0 => if Instr.sameBits 10000 k0 kv = true then some (h.set b (some (.mp (ks.set i kv) (vs.set i v) bs k))) else none
        | none => none
      | some none => some (h.set b (some (.mp (ks ++ [kv]) (vs ++ [v]) (bs ++ [k]) (k + 1))))
      | none => none
    | none => none
    else none
  | _, _, _, _ => none
def clearV (c : Cfg) (lim : Nat) (t : List V) (h : Heap) (args : List Operand) (ats : Array TypeId) : Option Heap :=
  match args, ats[0]? with
  | [x], some T => match opnd c t x, pureRun c.P (underlying T) with
    | some (.mp b), some (.map _ _) => if lim ≤ b then match mapAt h b with
      | some (_, _, _, k) => some (h.set b (some (.mp [] [] [] k)))
      | none => none
      else none
    | _, _ => none
  | _, _ => none
def clearB (c : Cfg) (lim : Nat) (h : Heap) (e : TypeId) (b off n : Nat) : Option Heap :=
  if n = 0 then some h else match pureRun c.P (zeroValue e), h[b]? with
  | some z, some (some (.cells cs T own)) => match own with
    | .ro => none
    | _ => if lim ≤ b ∧ off + n * z.cells.size ≤ cs.length ∧ 0 < z.cells.size ∧ oneCells (mk0 z.cells (n * z.cells.size)) = true then some (h.set b (some (.cells (putAt cs off (mk0 z.cells (n * z.cells.size))) T own))) else none
  | _, _ => none
def clearS (c : Cfg) (lim : Nat) (t : List V) (h : Heap) (args : List Operand) (ats : Array TypeId) : Option Heap :=
  match args, ats[0]? with
  | [x], some T => match opnd c t x, pureRun c.P (underlying T) with
    | some (.raw (.slice none _ _)), some _ => some h
    | some (.slo b n), some (.slice e) => clearB c lim h e b 0 n
    | some (.sub b off n _), some (.slice e) => clearB c lim h e b off n
    | _, _ => none
  | _, _ => none
def deleteV (c : Cfg) (lim : Nat) (t : List V) (h : Heap) (args : List Operand) (ats : Array TypeId) : Option Heap :=
  match args, ats[0]? with
  | [x, y], some T => match opnd c t x, opnd c t y, pureRun c.P (underlying T) with
    | some (.mp b), some (.raw kv), some (.map kt _) => if lim ≤ b then match mapAt h b with
      | some (ks, vs, bs, k) => match findV c kt ks kv with
        | some (some i) => some (h.set b (some (.mp (ks.eraseIdx i) (vs.eraseIdx i) (bs.eraseIdx i) k)))
        | some none => some (h.set b (some (.mp ks vs bs k)))
        | none => none
      | none => none
      else none
    | _, _, _ => none
  | _, _ => none
def entryV (c : Cfg) (lim : Nat) (t : List V) (h : Heap) (T : TypeId) (m y : Operand) : Option (V × Heap) :=
  match opnd c t m, opnd c t y, pureRun c.P (underlying T) with
  | some (.mp b), some (.raw kv), some (.map kt el) => if lim ≤ b then match mapAt h b with
    | some (ks, vs, bs, k) => match findV c kt ks kv with
      | some (some i) => match ks[i]?, vs[i]?, bs[i]? with
        | some k0, some v, some bn => if Instr.sameBits 10000 k0 kv = true then some (mkTup [v, .raw (goInt bn)], h.set b (some (.mp (ks.set i kv) vs bs k))) else none
        | _, _, _ => none
      | some none => match pureRun c.P (zeroValue el) with
        | some z => some (mkTup [.raw z, .raw (goInt k)], h.set b (some (.mp (ks ++ [kv]) (vs ++ [.raw z]) (bs ++ [k]) (k + 1))))
        | none => none
      | none => none
    | none => none
    else none
  | _, _, _ => none
def bornAt (n : Int) : List Nat → Nat → Option Nat
  | [], _ => none
  | b :: bs, i => match (b : Int) == n with
    | true => some i
    | false => bornAt n bs (i + 1)
def entryStoreV (c : Cfg) (lim : Nat) (t : List V) (h : Heap) (m s x : Operand) : Option Heap :=
  match opnd c t m, opnd c t s, opnd c t x with
  | some (.mp b), some (.raw (.int _ n)), some v => if lim ≤ b then match mapAt h b with
    | some (ks, vs, bs, k) => match bornAt n bs 0 with
      | some i => some (h.set b (some (.mp ks (vs.set i v) bs k)))
      | none => none
    | none => none
    else none
  | _, _, _ => none
def bytesOf (s : ByteArray) : List V := s.data.toList.map fun b => .raw (.int .u8 b.toNat)
def bytesV (c : Cfg) (t : List V) (src des : TypeId) (x : Operand) : Option (TypeId × ByteArray) :=
  match opnd c t x, c.P.underlying src, c.P.underlying des with
  | some (.raw (.string s)), some _, some (.slice e) => match c.P.underlying e with
    | some (.int .u8) => some (e, s)
    | _ => none
  | _, _, _ => none
def u8s : List V → Option (List Int)
  | [] => some []
  | x :: l => match x with
    | .raw (.int .u8 n) => (u8s l).map fun m => n :: m
    | _ => none
def strV (c : Cfg) (h : Heap) (t : List V) (src des : TypeId) (x : Operand) : Option ByteArray :=
  match opnd c t x, c.P.underlying src, c.P.underlying des with
  | some (.slo b l), some (.slice e), some .string => match c.P.underlying e, h[b]? with
    | some (.int .u8), some (some (.cells cs _ _)) => if l ≤ cs.length then (u8s (cs.take l)).map fun ns => ns.foldl (fun r n => r.push (UInt8.ofNat n.toNat)) ByteArray.empty else none
    | _, _ => none
  | some (.sub b off l _), some (.slice e), some .string => match c.P.underlying e, h[b]? with
    | some (.int .u8), some (some (.cells cs _ _)) => if off + l ≤ cs.length then (u8s ((cs.drop off).take l)).map fun ns => ns.foldl (fun r n => r.push (UInt8.ofNat n.toNat)) ByteArray.empty else none
    | _, _ => none
  | _, _, _ => none
def lenM (c : Cfg) (t : List V) (h : Heap) (args : List Operand) (ats : Array TypeId) : Option V :=
  match args, ats[0]? with
  | [x], some T => match opnd c t x, pureRun c.P (underlying T) with
    | some (.mp b), some (.map _ _) => match mapAt h b with
      | some (ks, _, _, _) => some (.raw (goInt ks.length))
      | none => none
    | _, _ => none
  | _, _ => none
def tell (n : Nat) (h : Heap) (ans : List Ans) : Option (Heap × List Ans × List Prop) := match ans with
  | .cells b cs' :: ans' => if b = n then match h[n]? with
      | some (some (.cells cs ty own)) => some (h.set n (some (.cells cs' ty own)), ans', [cs = cs'])
      | _ => none
    else some (h, ans, [])
  | _ => some (h, ans, [])
def updateT (c : Cfg) (lim : Nat) (t : List V) (h : Heap) (T : TypeId) (m y x : Operand) (r : V) : Option (Heap × List Prop) :=
  match opnd c t m, opnd c t y, opnd c t x, pureRun c.P (underlying T) with
  | some (.mp b), some (.raw kv), some v, some (.map kt _) => if lim ≤ b then match mapS h b with
    | some (ks, vs, bs, k) => match r with
      | .ptr i _ => some (h.set b (some (.mp (ks.set i kv) (vs.set i v) bs k)), [ks.length = vs.length ∧ ks.length = bs.length, findV c kt ks kv = some (some i), ∃ k0, ks[i]? = some k0 ∧ Instr.sameBits 10000 k0 kv = true])
      | _ => some (h.set b (some (.mp (ks ++ [kv]) (vs ++ [v]) (bs ++ [k]) (k + 1))), [ks.length = vs.length ∧ ks.length = bs.length, findV c kt ks kv = some none])
    | none => none
    else none
  | _, _, _, _ => none
def lookupT (c : Cfg) (t : List V) (h : Heap) (T : TypeId) (x y : Operand) (two : Bool) (r : V) : Option (V × List Prop) :=
  match opnd c t x, opnd c t y, pureRun c.P (underlying T) with
  | some (.mp b), some (.raw kv), some (.map kt el) => match mapS h b with
    | some (ks, vs, bs, _) => match r with
      | .tup [.ptr i _, v] => some (if two then mkTup [v, .raw (.bool true)] else v, [ks.length = vs.length ∧ ks.length = bs.length, findV c kt ks kv = some (some i), vs[i]? = some v])
      | .tup [.lit _, v] => some (if two then mkTup [v, .raw (.bool true)] else v, [ks.length = vs.length ∧ ks.length = bs.length, getM c kt ks vs kv = some (some v)])
      | .lit _ => match pureRun c.P (zeroValue el) with
        | some z => some (if two then .raw (.tuple #[z, .bool false]) else .raw z, [ks.length = vs.length ∧ ks.length = bs.length, getM c kt ks vs kv = some none])
        | none => none
      | _ => match pureRun c.P (zeroValue el) with
        | some z => some (if two then .raw (.tuple #[z, .bool false]) else .raw z, [ks.length = vs.length ∧ ks.length = bs.length, findV c kt ks kv = some none])
        | none => none
    | none => none
  | _, _, _ => none
def updateN (c : Cfg) (lim : Nat) (t : List V) (h : Heap) (T : TypeId) (m y x : Operand) (ks' : List Value) (vs' : List V) (bs' : List Nat) (k' : Nat) : Option (Heap × List Prop) :=
  match opnd c t m, opnd c t y, opnd c t x, pureRun c.P (underlying T) with
  | some (.mp b), some (.raw kv), some v, some (.map kt _) => if lim ≤ b then match mapS h b with
    | some (ks, vs, bs, k) => some (h.set b (some (.mp ks' vs' bs' k')), [ks.length = vs.length ∧ ks.length = bs.length, putM c kt ks vs bs k kv v = some (ks', vs', bs', k')])
    | none => none
    else none
  | _, _, _, _ => none
def deleteN (c : Cfg) (lim : Nat) (t : List V) (h : Heap) (args : List Operand) (ats : Array TypeId) (ks' : List Value) (vs' : List V) (bs' : List Nat) (k' : Nat) : Option (Heap × List Prop) :=
  match args, ats[0]? with
  | [x, y], some T => match opnd c t x, opnd c t y, pureRun c.P (underlying T) with
    | some (.mp b), some (.raw kv), some (.map kt _) => if lim ≤ b then match mapS h b with
      | some (ks, vs, bs, k) => some (h.set b (some (.mp ks' vs' bs' k')), [ks.length = vs.length ∧ ks.length = bs.length, delM c kt ks vs bs k kv = some (ks', vs', bs', k')])
      | none => none
      else none
    | _, _, _ => none
  | _, _ => none
def lenN (c : Cfg) (t : List V) (h : Heap) (args : List Operand) (ats : Array TypeId) (w : Value) : Option (V × List Prop) :=
  match args, ats[0]? with
  | [x], some T => match opnd c t x, pureRun c.P (underlying T) with
    | some (.mp b), some (.map _ _) => match mapS h b with
      | some (ks, vs, bs, _) => some (.raw w, [ks.length = vs.length ∧ ks.length = bs.length, goInt ks.length = w])
      | none => none
    | _, _ => none
  | _, _ => none
def lenT (c : Cfg) (t : List V) (h : Heap) (args : List Operand) (ats : Array TypeId) : Option (V × List Prop) :=
  match args, ats[0]? with
  | [x], some T => match opnd c t x, pureRun c.P (underlying T) with
    | some (.mp b), some (.map _ _) => match mapS h b with
      | some (ks, vs, bs, _) => some (.raw (goInt ks.length), [ks.length = vs.length ∧ ks.length = bs.length])
      | none => none
    | _, _ => none
  | _, _ => none
def oMove (c : Cfg) (cf : CF) (lim : Nat) (t : List V) (h : Heap) (ans : List Ans) (o : Oper) (x : Operand) : Option Out := match opnd c t x with
    | some v => some ⟨v, h, ans, []⟩
    | none => none
def moveF : Nat := 4294967299
def tellM (d : Option Nat) (ans : List Ans) : Option (Value × List Ans) := match ans with
  | .auto q cs :: a => match cs with
    | (f, w) :: cs' => match Nat.beq f moveF with
      | true => match w, d with
        | .tup [.ptr s _, .raw v], some s' => match Nat.beq s s' with
          | true => some (v, .auto q cs' :: a)
          | false => none
        | _, _ => none
      | false => none
    | [] => none
  | _ => none
def oAssign (c : Cfg) (cf : CF) (lim : Nat) (t : List V) (h : Heap) (ans : List Ans) (o : Oper) (x : Operand) : Option Out := match opnd c t x with
    | some v => match tellM o.dst ans with
      | some (v', ans') => match v with
        | .raw a => some ⟨.raw v', h, ans', [a = v']⟩
        | _ => none
      | none => some ⟨v, h, ans, []⟩
    | none => none
def oPick (c : Cfg) (cf : CF) (lim : Nat) (t : List V) (h : Heap) (ans : List Ans) (o : Oper) (x y z : Operand) : Option Out := match opnd c t x with
    | some (.raw (.bool b)) => match askB b ans with
      | some (q, ans', cons) => match opnd c t (if q then y else z) with
        | some v => some ⟨v, h, ans', cons⟩
        | none => none
      | none => none
    | _ => none
def oAlloc (c : Cfg) (cf : CF) (lim : Nat) (t : List V) (h : Heap) (ans : List Ans) (o : Oper) (ty : TypeId) : Option Out := match pureRun c.P (zeroValue ty) with
    | some z => some ⟨.ptr h.length 0, h ++ [some (.cells (z.cells.toList.map .raw) ty .rw)], ans, []⟩
    | none => none
def oBox (c : Cfg) (cf : CF) (lim : Nat) (t : List V) (h : Heap) (ans : List Ans) (o : Oper) (ty : TypeId) (x : Operand) : Option Out := match (opnd c t x).bind cellsV with
    | some xs => some ⟨.ptr h.length 0, h ++ [some (.cells xs ty .rw)], ans, []⟩
    | none => none
def oLoad (c : Cfg) (cf : CF) (lim : Nat) (t : List V) (h : Heap) (ans : List Ans) (o : Oper) (ty : TypeId) (x : Operand) : Option Out := match opnd c t x with
    | some (.ptr b off) => match loadA c h ty b off ans with
      | some (v, ans', cons) => some ⟨v, h, ans', cons⟩
      | none => none
    | _ => none
def oStore (c : Cfg) (cf : CF) (lim : Nat) (t : List V) (h : Heap) (ans : List Ans) (o : Oper) (ty : TypeId) (x y : Operand) : Option Out := match opnd c t x, opnd c t y with
    | some (.ptr b off), some v => match storeA c lim h ty b off v ans with
      | some (h', ans', cons) => some ⟨.raw undef, h', ans', cons⟩
      | none => none
    | _, _ => none
def oFieldAddr (c : Cfg) (cf : CF) (lim : Nat) (t : List V) (h : Heap) (ans : List Ans) (o : Oper) (s : TypeId) (x : Operand) (f : Nat) : Option Out := match opnd c t x, fieldOff c s f with
    | some (.ptr b off), some d => some ⟨.ptr b (off + d), h, ans, []⟩
    | _, _ => none
def oNilCheck (c : Cfg) (cf : CF) (lim : Nat) (t : List V) (h : Heap) (ans : List Ans) (o : Oper) (x : Operand) : Option Out := match opnd c t x with
    | some (.ptr b off) => some ⟨.ptr b off, h, ans, []⟩
    | some (.fn (.func f) x y) => some ⟨.fn (.func f) x y, h, ans, []⟩
    | some (.yld b) => some ⟨.yld b, h, ans, []⟩
    | _ => none
def oMakeFunc (c : Cfg) (cf : CF) (lim : Nat) (t : List V) (h : Heap) (ans : List Ans) (o : Oper) (f : Fn) (x y : Array Operand) : Option Out := match opnds c t x.toList, opnds c t y.toList with
    | some xs, some ys => some ⟨.fn f xs ys, h, ans, []⟩
    | _, _ => none
def oCall (c : Cfg) (cf : CF) (lim : Nat) (t : List V) (h : Heap) (ans : List Ans) (o : Oper) (f : Operand) (args : Array Operand) : Option Out := match opnd c t f, opnds c t args.toList with
    | some (.fn (.func f) first cap), some xs => if c.fns f then cf.call f (first ++ xs ++ cap) h lim ans else none
    | some (.yld b), some xs => cf.yld b xs h lim ans
    | _, _ => none
def oLen (c : Cfg) (cf : CF) (lim : Nat) (t : List V) (h : Heap) (ans : List Ans) (o : Oper) (args : Array Operand) (ats : Array TypeId) : Option Out := match lenV c t args ats with
    | some v => some ⟨v, h, ans, []⟩
    | none => match toldK lenF ans with
      | some (.raw w, ans') => match lenN c t h args.toList ats w with
        | some (v, cons) => some ⟨v, h, ans', cons⟩
        | none => none
      | some (_, ans') => match lenT c t h args.toList ats with
        | some (v, cons) => some ⟨v, h, ans', cons⟩
        | none => none
      | none => match lenM c t h args.toList ats with
        | some v => some ⟨v, h, ans, []⟩
        | none => evGen c t h ans o
def oClear (c : Cfg) (cf : CF) (lim : Nat) (t : List V) (h : Heap) (ans : List Ans) (o : Oper) (args : Array Operand) (ats : Array TypeId) : Option Out := match clearV c lim t h args.toList ats with
    | some h' => some ⟨.raw (.tuple #[]), h', ans, []⟩
    | none => match clearS c lim t h args.toList ats with
      | some h' => some ⟨.raw (.tuple #[]), h', ans, []⟩
      | none => none
def oMakeMap (c : Cfg) (cf : CF) (lim : Nat) (t : List V) (h : Heap) (ans : List Ans) (o : Oper) (T : TypeId) (r : Option Operand) : Option Out := match (match r with
      | none => true
      | some x => match opnd c t x, pureRun c.P (underlying T) with
        | some (.raw (.int _ _)), some (.map _ _) => true
        | _, _ => false) with
    | true => some ⟨.mp h.length, h ++ [some (.mp [] [] [] 0)], ans, []⟩
    | false => none
def oLookup (c : Cfg) (cf : CF) (lim : Nat) (t : List V) (h : Heap) (ans : List Ans) (o : Oper) (T : TypeId) (x y : Operand) (two : Bool) : Option Out := match toldK lookF ans with
    | some (r, ans') => match lookupT c t h T x y two r with
      | some (v, cons) => some ⟨v, h, ans', cons⟩
      | none => none
    | none => match lookupV c t h T x y two with
      | some v => some ⟨v, h, ans, []⟩
      | none => none
def oUpdate (c : Cfg) (cf : CF) (lim : Nat) (t : List V) (h : Heap) (ans : List Ans) (o : Oper) (T : TypeId) (m y x : Operand) : Option Out := match ans with
  | .mpb ks vs bs k :: ans' => match updateN c lim t h T m y x ks vs bs k with
    | some (h', cons) => some ⟨.raw undef, h', ans', cons⟩
    | none => none
  | _ => match toldK keyF ans with
    | some (r, ans') => match updateT c lim t h T m y x r with
      | some (h', cons) => some ⟨.raw undef, h', ans', cons⟩
      | none => none
    | none => match updateV c lim t h T m y x with
      | some h' => some ⟨.raw undef, h', ans, []⟩
      | none => none
def oAppend (c : Cfg) (cf : CF) (lim : Nat) (t : List V) (h : Heap) (ans : List Ans) (o : Oper) (args : Array Operand) (ats : Array TypeId) : Option Out := match opnds c t args.toList with
    | some [s, x] => match appendV c lim h s x ats with
      | some (v, h', cons) => match tell h.length h' ans with
        | some (h2, ans', cs) => some ⟨v, h2, ans', cons ++ cs⟩
        | none => none
      | none => none
    | _ => none
def oConvert (c : Cfg) (cf : CF) (lim : Nat) (t : List V) (h : Heap) (ans : List Ans) (o : Oper) (src des : TypeId) (x : Operand) : Option Out := match bytesV c t src des x with
    | some (e, s) => some ⟨.slo h.length s.size, h ++ [some (.cells (bytesOf s) e .ro)], ans, []⟩
    | none => match strV c h t src des x with
      | some s => some ⟨.raw (.string s), h, ans, []⟩
      | none => evGen c t h ans o
def oSlice (c : Cfg) (cf : CF) (lim : Nat) (t : List V) (h : Heap) (ans : List Ans) (o : Oper) (T : TypeId) (x : Operand) (lo hi mx : Option Operand) : Option Out := match sliceV c h t T x lo hi mx with
    | some (v, cons) => some ⟨v, h, ans, cons⟩
    | none => match subV c h t T x lo hi mx with
      | some v => some ⟨v, h, ans, []⟩
      | none => evGen c t h ans o
def oIndexAddr (c : Cfg) (cf : CF) (lim : Nat) (t : List V) (h : Heap) (ans : List Ans) (o : Oper) (T : TypeId) (x ix : Operand) : Option Out := match indexV c t T x ix with
    | some (v, cons) => some ⟨v, h, ans, cons⟩
    | none => none
def litV (c : Cfg) (t : List V) (T : TypeId) (len : Nat) (parts : Array (Nat × Operand)) : Option (TypeId × Nat × List V) :=
  match pureRun c.P (underlying T) with
  | some (.slice e) => match pureRun c.P (Go.sizeOf e), pureRun c.P (zeroValue e), opndsP c t parts.toList with
    | some n, some z, some ps => if n = 0 ∨ len = 0 ∨ len * n > 2 ^ 24 then none else match fillV (fun i => some (i * n, n)) (mk0 z.cells (len * n)) ps with
      | some cells => if cells.length = len * n then some (e, n, cells) else none
      | none => none
    | _, _, _ => none
  | _ => none
def oBuildSlice (c : Cfg) (cf : CF) (lim : Nat) (t : List V) (h : Heap) (ans : List Ans) (o : Oper) (T : TypeId) (len : Nat) (parts : Array (Nat × Operand)) : Option Out := if parts.toList.all (fun p => isRaw c t p.2) then
      match litCells c T len (parts.toList.map fun p => (p.1, rawOf c t p.2)) with
      | some (e, n, cells) => some ⟨.slo h.length len, h ++ [some (.cells (cells.toList.map .raw) e (.row n))], ans, owe c (len ≤ maxLen)⟩
      | none => none
    else match litV c t T len parts with
      | some (e, n, cells) => some ⟨.slo h.length len, h ++ [some (.cells cells e (.row n))], ans, owe c (len ≤ maxLen)⟩
      | none => none
def oMakeSlice (c : Cfg) (cf : CF) (lim : Nat) (t : List V) (h : Heap) (ans : List Ans) (o : Oper) (T : TypeId) (l cp : Operand) : Option Out := match opnd c t l, opnd c t cp, c.P.underlying T with
    | some (.raw (.int _ n)), some (.raw (.int _ m)), some (.slice e) => match c.P.info? e with
      | some i => match i.zero with
        | some z => if 0 < i.size then match tell h.length (h ++ [some (.cells (mk0 z.cells (n.toNat * i.size)) e (.row i.size))]) ans with
          | some (h2, ans', cs) => some ⟨.slo h.length n.toNat, h2, ans', owe c (0 ≤ n ∧ n ≤ m ∧ (i.bytes : Int) * m ≤ 281474976710656 ∧ m ≤ 9223372036854775807) ++ cs⟩
          | none => none
          else none
        | none => none
      | none => none
    | _, _, _ => none
def oBinOp (c : Cfg) (cf : CF) (lim : Nat) (t : List V) (h : Heap) (ans : List Ans) (o : Oper) (b : BinOp) (T : TypeId) (x y : Operand) : Option Out := match eqV c t b T x y with
    | some v => some ⟨v, h, ans, []⟩
    | none => match evGen c t h ans o with
      | some r => some r
      | none => match nilV c t b T x y with
        | some v => some ⟨v, h, ans, []⟩
        | none => none
def oExtract (c : Cfg) (cf : CF) (lim : Nat) (t : List V) (h : Heap) (ans : List Ans) (o : Oper) (x : Operand) (i : Nat) : Option Out := match extractV c t x i with
    | some v => some ⟨v, h, ans, []⟩
    | none => evGen c t h ans o
def oField (c : Cfg) (cf : CF) (lim : Nat) (t : List V) (h : Heap) (ans : List Ans) (o : Oper) (T : TypeId) (x : Operand) (f : Nat) : Option Out := match fieldV c t T x f with
    | some v => some ⟨v, h, ans, []⟩
    | none => evGen c t h ans o
def oBuild (c : Cfg) (cf : CF) (lim : Nat) (t : List V) (h : Heap) (ans : List Ans) (o : Oper) (T : TypeId) (parts : Array (Nat × Operand)) : Option Out := match evGen c t h ans o with
    | some r => some r
    | none => match buildV c t T parts with
      | some v => some ⟨v, h, ans, []⟩
      | none => none
def oDelete (c : Cfg) (cf : CF) (lim : Nat) (t : List V) (h : Heap) (ans : List Ans) (o : Oper) (args : Array Operand) (ats : Array TypeId) : Option Out := match ans with
  | .mpb ks vs bs k :: ans' => match deleteN c lim t h args.toList ats ks vs bs k with
    | some (h', cons) => some ⟨.raw (.tuple #[]), h', ans', cons⟩
    | none => none
  | _ => match deleteV c lim t h args.toList ats with
    | some h' => some ⟨.raw (.tuple #[]), h', ans, []⟩
    | none => none
def oEntry (c : Cfg) (cf : CF) (lim : Nat) (t : List V) (h : Heap) (ans : List Ans) (o : Oper) (T : TypeId) (m y : Operand) : Option Out := match entryV c lim t h T m y with
    | some r => some ⟨r.1, r.2, ans, []⟩
    | none => none
def oEntryStore (c : Cfg) (cf : CF) (lim : Nat) (t : List V) (h : Heap) (ans : List Ans) (o : Oper) (m s x : Operand) : Option Out := match entryStoreV c lim t h m s x with
    | some h' => some ⟨.raw undef, h', ans, []⟩
    | none => none
def evOp (c : Cfg) (cf : CF) (lim : Nat) (t : List V) (h : Heap) (ans : List Ans) (o : Oper) : Option Out :=
  match o.op with
  | .move x => oMove c cf lim t h ans o x
  | .assign x => oAssign c cf lim t h ans o x
  | .pick x y z => oPick c cf lim t h ans o x y z
  | .alloc ty => oAlloc c cf lim t h ans o ty
  | .box ty x => oBox c cf lim t h ans o ty x
  | .load ty x => oLoad c cf lim t h ans o ty x
  | .store ty x y => oStore c cf lim t h ans o ty x y
  | .fieldAddr s x f => oFieldAddr c cf lim t h ans o s x f
  | .nilCheck x => oNilCheck c cf lim t h ans o x
  | .makeFunc f x y => oMakeFunc c cf lim t h ans o f x y
  | .call ⟨.value f, args, _⟩ => oCall c cf lim t h ans o f args
  | .call ⟨.builtin .len, args, ats⟩ => oLen c cf lim t h ans o args ats
  | .call ⟨.builtin .clear, args, ats⟩ => oClear c cf lim t h ans o args ats
  | .call ⟨.builtin .delete, args, ats⟩ => oDelete c cf lim t h ans o args ats
  | .mapEntry T m y => oEntry c cf lim t h ans o T m y
  | .entryStore _ m s x => oEntryStore c cf lim t h ans o m s x
  | .makeMap T r => oMakeMap c cf lim t h ans o T r
  | .lookup T x y two => oLookup c cf lim t h ans o T x y two
  | .mapUpdate T m y x => oUpdate c cf lim t h ans o T m y x
  | .insert T m y x => oUpdate c cf lim t h ans o T m y x
  | .call ⟨.builtin .append, args, ats⟩ => oAppend c cf lim t h ans o args ats
  | .convert src des x => oConvert c cf lim t h ans o src des x
  | .slice T x lo hi mx => oSlice c cf lim t h ans o T x lo hi mx
  | .indexAddr T x ix => oIndexAddr c cf lim t h ans o T x ix
  | .buildSlice T len parts => oBuildSlice c cf lim t h ans o T len parts
  | .makeSlice T l cp => oMakeSlice c cf lim t h ans o T l cp
  | .binOp b T x y _ => oBinOp c cf lim t h ans o b T x y
  | .extract x i => oExtract c cf lim t h ans o x i
  | .field T x f => oField c cf lim t h ans o T x f
  | .build T parts => oBuild c cf lim t h ans o T parts
  | _ => evGen c t h ans o
def putT (t : List V) (d : Option Nat) (v : V) : List V := match d with
  | some d => setR t d v
  | none => t
end
end Go.Proofs.Ytcibaankajfhlaa.E2
end
section
namespace Go.Proofs.Ytcibaankajfhlaa.E2
open Go Go.RowKit
theorem eqFlds_sound {P : Program} {eq : TypeId → Value → Value → Option Bool} {go : TypeId → Value → Value → Sem Bool} (hs : ∀ t x y b w, eq t x y = some b → (go t x y).run P w = .ok b w) (xs ys : Array Value) (w : World) :
    ∀ (l : List Field) (b : Bool), eqFlds P eq xs ys l = some b →
      (forIn l ((none, ()) : Option Bool × Unit) fun (f : Field) r => do
        if f.name ≠ "_" then
          if (!(← go f.type (← part f.type xs f.offset) (← part f.type ys f.offset))) = true then pure (ForInStep.done (some false, ())) else pure (ForInStep.yield (none, ()))
        else pure (ForInStep.yield (none, ()))).run P w = .ok (if b then none else some false, ()) w
  | [], b, h => by
    simp only [eqFlds, Option.some.injEq] at h
    subst h
    simp [go_sem]
  | f :: l, b, h => by
    simp only [eqFlds] at h
    split at h
    · rename_i hf
      have := eqFlds_sound hs xs ys w l b h
      rw [List.forIn_cons]
      simp only [hf, ne_eq, not_true_eq_false, if_false, Sem.run_bind, Sem.run_pure, Result.andThen_ok]
      exact this
    · rename_i hf
      split at h
      · rename_i x y hx hy
        split at h
        · rename_i p q hp hq
          simp only [Option.some.injEq] at h
          subst h
          have := eqFlds_sound hs xs ys w l q hq
          rw [List.forIn_cons]
          simp only [ne_eq, hf, not_false_eq_true, if_true, Sem.run_bind, pureRun_run hx, pureRun_run hy, hs _ _ _ _ w hp, Result.andThen_ok]
          cases p with
          | true =>
            simp only [Bool.not_true, Bool.false_eq_true, if_false, Sem.run_pure, Result.andThen_ok, Bool.true_and]
            exact this
          | false => simp only [Bool.not_false, if_true, Sem.run_pure, Result.andThen_ok, Bool.false_and, Bool.false_eq_true, if_false]
        · cases h
      · cases h
theorem eqElems_sound {P : Program} {eq : TypeId → Value → Value → Option Bool} {go : TypeId → Value → Value → Sem Bool} (hs : ∀ t x y b w, eq t x y = some b → (go t x y).run P w = .ok b w) (e : TypeId) (n : Nat) (xs ys : Array Value) (w : World) :
    ∀ (l : List Nat) (b : Bool), eqElems P eq e n xs ys l = some b →
      (forIn l ((none, ()) : Option Bool × Unit) fun (i : Nat) r => do
          if (!(← go e (← part e xs (i * n)) (← part e ys (i * n)))) = true then pure (ForInStep.done (some false, ())) else pure (ForInStep.yield (none, ()))).run P w = .ok (if b then none else some false, ()) w
  | [], b, h => by
    simp only [eqElems, Option.some.injEq] at h
    subst h
    simp [go_sem]
  | f :: l, b, h => by
    simp only [eqElems] at h
    split at h
    · rename_i x y hx hy
      split at h
      · rename_i p q hp hq
        simp only [Option.some.injEq] at h
        subst h
        have := eqElems_sound hs e n xs ys w l q hq
        rw [List.forIn_cons]
        simp only [Sem.run_bind, pureRun_run hx, pureRun_run hy, hs _ _ _ _ w hp, Result.andThen_ok]
        cases p with
        | true =>
          simp only [Bool.not_true, Bool.false_eq_true, if_false, Sem.run_pure, Result.andThen_ok, Bool.true_and]
          exact this
        | false => simp only [Bool.not_false, if_true, Sem.run_pure, Result.andThen_ok, Bool.false_and, Bool.false_eq_true, if_false]
      · cases h
    · cases h
theorem eqIn_sound (P : Program) : ∀ (d m : Nat) (t : TypeId) (x y : Value) (b : Bool) (w : World), eqIn P d t x y = some b → (Op.equalIn (d + m) t x y).run P w = .ok b w
  | 0, m, t, x, y, b, w, h => by simp [eqIn] at h
  | d + 1, m, t, x, y, b, w, h => by
    rw [show d + 1 + m = (d + m) + 1 by omega]
    simp only [eqIn] at h
    split at h
    · rename_i a b' hu
      simp only [Option.some.injEq] at h; subst h
      simp [Op.equalIn, go_sem, pureRun_run hu]
    · rename_i a b' hu
      simp only [Option.some.injEq] at h; subst h
      simp [Op.equalIn, go_sem, pureRun_run hu]
    · rename_i k0 k a k' b' hu
      split at h
      · rename_i hk
        simp only [Option.some.injEq] at h; subst h
        simp [Op.equalIn, go_sem, pureRun_run hu, hk]
      · cases h
    · rename_i fields xs ys hu
      split at h
      · cases h
      · rename_i hst
        have := eqFlds_sound (go := Op.equalIn (d + m)) (fun t x y b w => eqIn_sound P d m t x y b w) xs ys w _ b h
        simp only [Op.equalIn, Sem.run_bind, pureRun_run hu, Result.andThen_ok]
        rw [show (Sem.run P (program : Sem Program) w) = .ok P w from rfl]
        simp only [Result.andThen_ok]
        rw [if_neg (by simpa using hst)]
        rw [← Array.forIn_toList, Sem.run_bind]
        rw [this]
        cases b <;> rfl
    · rename_i len e xs ys hu
      split at h
      · rename_i n hn
        have := eqElems_sound (go := Op.equalIn (d + m)) (fun t x y b w => eqIn_sound P d m t x y b w) e n xs ys w _ b h
        simp only [Op.equalIn, Sem.run_bind, pureRun_run hu, Result.andThen_ok, pureRun_run hn]
        rw [Std.Legacy.Range.forIn_eq_forIn_range']
        simp only [Std.Legacy.Range.size, Nat.sub_zero, Nat.add_sub_cancel, Nat.div_one]
        rw [this]
        cases b <;> rfl
      · cases h
    · cases h
section
variable {c : Cfg} {ρ : Ren} {h : Heap} {w : World} {t : List V} {a : Act} {lim : Nat}
theorem opnd_under (RH : RelH c ρ h w) (RT : RelT ρ h.length t a) {x : Operand} {v : V} (hx : opnd c t x = some v) : v.under h.length = true := by
  cases x with
  | tmp s =>
    simp only [opnd, getR_eq] at hx
    split at hx
    · cases hx
    · simp only [Option.some.injEq] at hx; subst hx; rfl
    · rename_i hna hnl
      have hm := List.mem_of_getElem? hx
      have := RT.sco v hm
      cases v <;> first | exact this | (exfalso; exact hna _ hx)
  | const v => simp only [opnd, Option.some.injEq] at hx; subst hx; rfl
  | func f => simp only [opnd, Option.some.injEq] at hx; subst hx; rfl
  | global g =>
    simp only [opnd, getR_eq] at hx
    split at hx
    · rename_i p hp
      simp only [Option.some.injEq] at hx
      subst hx
      simp only [V.under, decide_eq_true_eq]
      exact (RH.glob p (List.mem_of_find?_eq_some hp)).2.2
    · cases hx
theorem opnd_eval (RH : RelH c ρ h w) (RT : RelT ρ h.length t a) {x : Operand} {v : V} (hx : opnd c t x = some v) : a.eval x = v.conc ρ := by
  cases x with
  | tmp s =>
    simp only [opnd, getR_eq] at hx
    split at hx
    · cases hx
    · rename_i b hb
      simp only [Option.some.injEq] at hx; subst hx
      simp only [Act.eval, RT.tmps]
      simp [concs_get, hb, V.conc]
    · simp only [Act.eval, RT.tmps]
      simp [concs_get, hx]
  | const v => simp only [opnd, Option.some.injEq] at hx; subst hx; rfl
  | func f => simp only [opnd, Option.some.injEq] at hx; subst hx; rfl
  | global g =>
    simp only [opnd, getR_eq] at hx
    split at hx
    · rename_i p hp
      simp only [Option.some.injEq] at hx
      subst hx
      have h1 := List.find?_some hp
      simp only [beq_iff_eq] at h1
      obtain ⟨g1, g2, _⟩ := RH.glob p (List.mem_of_find?_eq_some hp)
      simp only [Act.eval, V.conc, g1, g2, h1, List.length_nil, Nat.zero_add]
    · cases hx
theorem opnds_ok (RH : RelH c ρ h w) (RT : RelT ρ h.length t a) : ∀ (l : List Operand) (vs : List V), opnds c t l = some vs → l.map a.eval = concs ρ vs ∧ unders h.length vs = true
  | [], vs, hx => by simp only [opnds, Option.some.injEq] at hx; subst hx; exact ⟨rfl, rfl⟩
  | x :: l, vs, hx => by
    simp only [opnds] at hx
    split at hx
    · rename_i v us hv hu
      simp only [Option.some.injEq] at hx
      subst hx
      obtain ⟨h1, h2⟩ := opnds_ok RH RT l us hu
      simp [concs, unders, h1, h2, opnd_eval RH RT hv, opnd_under RH RT hv]
    · cases hx
theorem rawOf_eval (RH : RelH c ρ h w) (RT : RelT ρ h.length t a) {x : Operand} (hx : isRaw c t x = true) : rawOf c t x = a.eval x := by
  unfold isRaw at hx
  split at hx
  · rename_i v hv
    unfold rawOf
    rw [opnd_eval RH RT hv, hv]
    rfl
  · cases hx
theorem addr_add (b off n : Nat) : (⟨b, off, none⟩ : Addr).add n = ⟨b, off + n, none⟩ := by
  unfold Addr.add
  split
  · rename_i h0; subst h0; rfl
  · rfl
theorem row_get (l : Loc) (xs : List Value) {i : Nat} (hi : i < xs.length) : (l.row xs)[l.pre.length + i]? = xs[i]? := by
  unfold Loc.row
  rw [List.append_assoc, List.getElem?_append_right (by omega), Nat.add_sub_cancel_left, List.getElem?_append_left hi]
theorem row_put (l : Loc) (A xs : List Value) {off : Nat} (h : off + xs.length ≤ A.length) : (l.row A).take (l.pre.length + off) ++ xs ++ (l.row A).drop (l.pre.length + off + xs.length) = l.row (A.take off ++ xs ++ A.drop (off + xs.length)) := by
  unfold Loc.row
  have h1 : (l.pre ++ A ++ l.sp).take (l.pre.length + off) = l.pre ++ A.take off := by
    rw [List.append_assoc, List.take_length_add_append, List.take_append_of_le_length (by omega)]
  have h2 : (l.pre ++ A ++ l.sp).drop (l.pre.length + off + xs.length) = A.drop (off + xs.length) ++ l.sp := by
    rw [List.append_assoc, Nat.add_assoc, List.drop_length_add_append, List.drop_append_of_le_length (by omega)]
  rw [h1, h2]
  simp [List.append_assoc]
theorem load_conc (RH : RelH c ρ h w) {ty : TypeId} {b off : Nat} {v : V} (hv : loadV c h ty b off = some v) :
    (loadVar ty ⟨(ρ.blk b).n, (ρ.blk b).pre.length + off, none⟩).run c.P w = .ok (v.conc ρ) w ∧ v.under h.length = true := by
  unfold loadV at hv
  split at hv
  · rename_i cs T own hb
    have hcell := RH.cell b _ hb
    have hsco := RH.sco b _ hb
    unfold loadRow at hv
    split at hv
    · rename_i n hag hsz
      split at hv
      · rename_i hle
        simp only [Option.some.injEq] at hv
        subst hv
        have hnil : (ρ.blk b).nil = false := by
          cases hn : (ρ.blk b).nil with
          | false => rfl
          | true => rw [hcell.nil hn] at hle; simp at hle; omega
        obtain ⟨fr, h1, _⟩ := hcell.row hnil
        have hlen : ((cs.drop off).take n).length = n := by simp; omega
        have h2 := run_loadCells_list (P := c.P) w ⟨(ρ.blk b).n, (ρ.blk b).pre.length + off, none⟩ (concs ρ ((cs.drop off).take n)) (fun j u hu => by
          have hj : j < n := by
            rcases Nat.lt_or_ge j n with h | h
            · exact h
            · rw [List.getElem?_eq_none (by rw [concs_length, hlen]; exact h)] at hu; cases hu
          rw [addr_add]
          simp only [World.cell?, h1]
          rw [concs_map, List.map_take, List.map_drop, List.getElem?_take, if_pos hj, List.getElem?_drop] at hu
          rw [List.getElem?_toArray, Nat.add_assoc, row_get _ _ (by rw [concs_length]; omega), concs_map]
          exact hu)
        rw [concs_length, hlen] at h2
        refine ⟨?_, mkAgg_under (unders_sub hsco fun x hx => List.mem_of_mem_drop (List.mem_of_mem_take hx))⟩
        rw [mkAgg_conc]
        simp only [loadCells] at h2
        simp [loadVar, go_sem, pureRun_run hag, pureRun_run hsz, h2]
      · cases hv
    · rename_i hag
      have hlt : off < cs.length := by
        rcases Nat.lt_or_ge off cs.length with k | k
        · exact k
        · rw [List.getElem?_eq_none k] at hv; cases hv
      have hnil : (ρ.blk b).nil = false := by
        cases hn : (ρ.blk b).nil with
        | false => rfl
        | true => rw [hcell.nil hn] at hlt; simp at hlt
      obtain ⟨fr, h1, _⟩ := hcell.row hnil
      refine ⟨?_, (unders_iff _ _).1 hsco v (List.mem_of_getElem? hv)⟩
      have hc : w.cell? ⟨(ρ.blk b).n, (ρ.blk b).pre.length + off, none⟩ = some (v.conc ρ) := by
        simp only [World.cell?, h1]
        rw [List.getElem?_toArray, row_get _ _ (by rw [concs_length]; exact hlt), concs_get, hv]
        rfl
      simp [loadVar, go_sem, pureRun_run hag, hc]
    · cases hv
  · cases hv
theorem oneCells_ok (ρ : Ren) : ∀ l : List V, oneCells l = true → ∀ v ∈ concs ρ l, v.oneCell' = true
  | [], _, v, hv => by cases hv
  | x :: l, h, v, hv => by
    simp only [concs, List.mem_cons] at hv
    cases x with
    | raw u =>
      cases u <;> simp only [oneCells, Bool.false_eq_true] at h <;> (rcases hv with rfl | hv; rfl; exact oneCells_ok ρ l h v hv)
    | any k => simp [oneCells] at h
    | agg m => simp [oneCells] at h
    | tup m => simp [oneCells] at h
    | slo b o =>
      simp only [oneCells] at h
      rcases hv with rfl | hv
      · simp only [V.conc, slcOf]; split <;> rfl
      · exact oneCells_ok ρ l h v hv
    | sub b o n k =>
      simp only [oneCells] at h
      rcases hv with rfl | hv
      · simp only [V.conc, subOf]; split <;> rfl
      · exact oneCells_ok ρ l h v hv
    | ptr b o => simp only [oneCells] at h; rcases hv with rfl | hv; rfl; exact oneCells_ok ρ l h v hv
    | yld b => simp only [oneCells] at h; rcases hv with rfl | hv; rfl; exact oneCells_ok ρ l h v hv
    | mp b => simp only [oneCells] at h; rcases hv with rfl | hv; rfl; exact oneCells_ok ρ l h v hv
    | fn f y z => simp only [oneCells] at h; rcases hv with rfl | hv; rfl; exact oneCells_ok ρ l h v hv
    | lit b => simp only [oneCells] at h; rcases hv with rfl | hv; rfl; exact oneCells_ok ρ l h v hv
theorem setRow_heap (w : World) (g : Nat) (cs : Array Value) (k : Nat) (hk : k ≠ g) : (w.setRow g cs).heap[k]? = w.heap[k]? := by
  simp only [World.setRow, Array.getElem?_modify]
  rw [if_neg (by omega)]
theorem setRow_this (w : World) (g : Nat) (cs cur : Array Value) (ty : TypeId) (h : w.heap[g]? = some (.cells cur ty (0, 0))) : (w.setRow g cs).heap[g]? = some (.cells cs ty (0, 0)) := by
  simp [World.setRow, Array.getElem?_modify, h]
theorem get_set {h : Heap} {b i : Nat} {X : Option Blk} {C : Blk} (hi : (h.set b X)[i]? = some (some C)) : (i = b ∧ X = some C) ∨ (i ≠ b ∧ h[i]? = some (some C)) := by
  rcases Nat.decEq i b with hne | rfl
  · rw [List.getElem?_set_ne (Ne.symm hne)] at hi; exact .inr ⟨hne, hi⟩
  · have hl := lt_len hi
    rw [List.length_set] at hl
    rw [List.getElem?_set_self hl] at hi
    exact .inl ⟨rfl, Option.some.inj hi⟩
theorem relH_set (RH : RelH c ρ h w) {w' : World} {b : Nat} {B : Blk} {X : Option Blk} (hb : h[b]? = some (some B)) (hwr : B.wr = true) (hnil : (ρ.blk b).nil = false) (hL : c.L ≤ b) (hX : ∀ B', X = some B' → B'.under h.length = true ∧ BlkOk c.P ρ (ρ.blk b) w' B')
    (hoth : ∀ k, k ≠ (ρ.blk b).n → w'.heap[k]? = w.heap[k]?) : RelH c ρ (h.set b X) w' := by
  have hlwb : lw ρ h b := ⟨B, hb, hwr, hnil⟩
  have hne : ∀ i, lv ρ h i → i ≠ b → (ρ.blk i).n ≠ (ρ.blk b).n := fun i hi hib he => hib (RH.inj b i hlwb hi he.symm).symm
  refine ⟨fun i C hi => ?_, fun i j hi hj he => ?_, fun i C hi => ?_, fun p hp => ?_, by rw [List.length_set]; exact RH.big, fun i hi => by rw [List.getElem?_set_ne (by omega)]; exact RH.base i hi⟩
  · rcases get_set hi with ⟨rfl, h1⟩ | ⟨h0, h1⟩
    · exact (hX C h1).2
    · exact (RH.cell i C h1).move (RH.sco i C h1) (fun _ _ => rfl) fun hn => hoth _ (hne i ⟨C, h1, hn⟩ h0)
  · obtain ⟨C, h1, h2, h3⟩ := hi
    obtain ⟨D, k1, k3⟩ := hj
    have hi' : lw ρ h i := by
      rcases get_set h1 with ⟨rfl, _⟩ | ⟨_, h1⟩
      · exact hlwb
      · exact ⟨C, h1, h2, h3⟩
    have hj' : lv ρ h j := by
      rcases get_set k1 with ⟨rfl, _⟩ | ⟨_, k1⟩
      · exact hlwb.lv
      · exact ⟨D, k1, k3⟩
    exact RH.inj i j hi' hj' he
  · rw [List.length_set]
    rcases get_set hi with ⟨rfl, h1⟩ | ⟨h0, h1⟩
    · exact (hX C h1).1
    · exact RH.sco i C h1
  · rw [List.length_set]; exact RH.glob p hp
theorem fr_set {w' : World} {b : Nat} {B : Blk} {X : Option Blk} (hb : h[b]? = some (some B)) (hwr : B.wr = true) (hnil : (ρ.blk b).nil = false) (hl : lim ≤ b) (os : w'.os = w.os) (tp : w'.tape = w.tape) (ou : w'.output = w.output) (sz : w.heap.size ≤ w'.heap.size)
    (hoth : ∀ k, k < w.heap.size → k ≠ (ρ.blk b).n → w'.heap[k]? = w.heap[k]?) : Fr lim h.length ρ h w ρ (h.set b X) w' := by
  have hlwb : lw ρ h b := ⟨B, hb, hwr, hnil⟩
  refine ⟨os, tp, ou, sz, fun k hk hn => hoth k hk fun e => hn b hl hlwb e.symm, fun _ _ => rfl, by simp, fun i h1 h2 => ?_, fun i hi h2 => ?_⟩
  · have := h2.lt
    rw [List.length_set] at this
    omega
  · obtain ⟨C, k1, k2, k3⟩ := h2
    rcases get_set k1 with ⟨rfl, _⟩ | ⟨_, k1⟩
    · exact hlwb
    · exact ⟨C, k1, k2, k3⟩
theorem relH_kill (RH : RelH c ρ h w) {b : Nat} (hL : c.L ≤ b) : RelH c ρ (h.set b none) w := by
  have back : ∀ {i : Nat} {C : Blk}, (h.set b none)[i]? = some (some C) → h[i]? = some (some C) := fun {i C} hi => by
    rcases get_set hi with ⟨_, h1⟩ | ⟨_, h1⟩
    · cases h1
    · exact h1
  refine ⟨fun i C hi => RH.cell i C (back hi), fun i j hi hj he => ?_, fun i C hi => by rw [List.length_set]; exact RH.sco i C (back hi), fun p hp => by rw [List.length_set]; exact RH.glob p hp, by rw [List.length_set]; exact RH.big, fun i hi => by rw [List.getElem?_set_ne (by omega)]; exact RH.base i hi⟩
  obtain ⟨C, h1, h2, h3⟩ := hi
  obtain ⟨D, k1, k3⟩ := hj
  exact RH.inj i j ⟨C, back h1, h2, h3⟩ ⟨D, back k1, k3⟩ he
theorem putAt_len {cs xs : List V} {off : Nat} (h : off + xs.length ≤ cs.length) : (putAt cs off xs).length = cs.length := by
  simp [putAt]; omega
theorem concs_putAt (ρ : Ren) (cs xs : List V) (off : Nat) : concs ρ (putAt cs off xs) = (concs ρ cs).take off ++ concs ρ xs ++ (concs ρ cs).drop (off + (concs ρ xs).length) := by
  simp [putAt, concs_map, List.map_take, List.map_drop]
theorem store_conc (RH : RelH c ρ h w) (hL : c.L ≤ lim) {ty : TypeId} {b off : Nat} {x : V} {h' : Heap} (hs : storeV c lim h ty b off x = some h') :
    ∃ w', (storeVar ty ⟨(ρ.blk b).n, (ρ.blk b).pre.length + off, none⟩ (x.conc ρ)).run c.P w = .ok () w' ∧ RelH c ρ h' w' ∧ Fr lim h.length ρ h w ρ h' w' := by
  unfold storeV at hs
  split at hs
  · cases hs
  · rename_i cs T own hro hb
    split at hs
    · rename_i hlim
      rw [Option.map_eq_some_iff] at hs
      obtain ⟨cs', hs, rfl⟩ := hs
      unfold storeRow at hs
      split at hs
      · rename_i xs n hx hsz
        split at hs
        · rename_i hh
          obtain ⟨hn, hn0, hle, hone, hun⟩ := hh
          simp only [Option.some.injEq] at hs
          subst hs
          have hcell := RH.cell b _ hb
          have hsco := RH.sco b _ hb
          have hownro : own ≠ .ro := fun e => by subst e; exact hro rfl
          have hwr : (Blk.cells cs T own).wr = true := by cases own <;> first | rfl | exact absurd rfl hownro
          have hnil : (ρ.blk b).nil = false := by
            cases hn' : (ρ.blk b).nil with
            | false => rfl
            | true => rw [hcell.nil hn'] at hle; simp only [List.length_nil] at hle; omega
          obtain ⟨fr, h1, hfr⟩ := hcell.row hnil
          rw [hfr hownro] at h1
          have hcs := cellsV_conc ρ hx
          have h3 := run_storeCells_at c.P (ρ.blk b).n ((ρ.blk b).pre.length + off) T (concs ρ xs) 0 _ w h1 (by simp [concs_length, Loc.row]; omega) (oneCells_ok ρ xs hone)
          have hsize : (x.conc ρ).cells.size = n := by rw [← Array.length_toList, hcs, concs_length, hn]
          have hput : (List.take ((ρ.blk b).pre.length + off + 0) ((ρ.blk b).row (concs ρ cs)).toArray.toList ++ concs ρ xs ++ List.drop ((ρ.blk b).pre.length + off + 0 + (concs ρ xs).length) ((ρ.blk b).row (concs ρ cs)).toArray.toList) = (ρ.blk b).row (concs ρ (putAt cs off xs)) := by
            simp only [Nat.add_zero]
            rw [row_put _ _ _ (by rw [concs_length, concs_length]; exact hle), concs_putAt]
          rw [hput] at h3
          refine ⟨w.setRow (ρ.blk b).n ((ρ.blk b).row (concs ρ (putAt cs off xs))).toArray, ?_, ?_, ?_⟩
          · unfold storeVar
            generalize (x.conc ρ).cells = cl at hcs hsize ⊢
            simp [go_sem, pureRun_run hsz, hsize, hcs, h3]
          · refine relH_set RH hb hwr hnil (by omega) (fun B' e => ?_) (fun k hk => setRow_heap _ _ _ _ hk)
            cases e
            refine ⟨?_, fun hn' => (by rw [hn'] at hnil; cases hnil), fun _ => ⟨(0, 0), setRow_this _ _ _ _ _ h1, fun _ => rfl⟩, fun sz hsz' => ?_⟩
            · refine unders_append (unders_append ?_ hun) ?_
              · exact unders_sub hsco fun x hx => List.mem_of_mem_take hx
              · exact unders_sub hsco fun x hx => List.mem_of_mem_drop hx
            · obtain ⟨r1, r2⟩ := hcell.room sz hsz'
              exact ⟨r1, fun hn' => by rw [putAt_len hle]; exact r2 hn'⟩
          · exact fr_set hb hwr hnil hlim rfl rfl rfl (by simp [World.setRow]) (fun k _ hk => setRow_heap _ _ _ _ hk)
        · cases hs
      · cases hs
    · cases hs
  · cases hs
theorem loadA_ok {ty : TypeId} {b off : Nat} {ans ans' : List Ans} {v : V} {cons : List Prop} (hl : loadA c h ty b off ans = some (v, ans', cons)) (hc : ∀ p ∈ cons, p) : loadV c h ty b off = some v := by
  have base : ((loadV c h ty b off).map fun v => (v, ans, ([] : List Prop))) = some (v, ans', cons) → loadV c h ty b off = some v := fun k => by
    rw [Option.map_eq_some_iff] at k
    obtain ⟨w, hw, k2⟩ := k
    simp only [Prod.mk.injEq] at k2
    obtain ⟨rfl, _, _⟩ := k2
    exact hw
  unfold loadA at hl
  split at hl
  · split at hl
    · split at hl
      · rename_i cs T own hB
        simp only [Option.some.injEq, Prod.mk.injEq] at hl
        obtain ⟨rfl, _, rfl⟩ := hl
        unfold loadV
        rw [hB]
        exact hc _ (List.mem_singleton.2 rfl)
      · cases hl
    · exact base hl
  · exact base hl
theorem storeA_ok {h' : Heap} {ty : TypeId} {b off : Nat} {x : V} {ans ans' : List Ans} {cons : List Prop} (hl : storeA c lim h ty b off x ans = some (h', ans', cons)) (hc : ∀ p ∈ cons, p) : storeV c lim h ty b off x = some h' := by
  have base : ((storeV c lim h ty b off x).map fun h' => (h', ans, ([] : List Prop))) = some (h', ans', cons) → storeV c lim h ty b off x = some h' := fun k => by
    rw [Option.map_eq_some_iff] at k
    obtain ⟨w, hw, k2⟩ := k
    simp only [Prod.mk.injEq] at k2
    obtain ⟨rfl, _, _⟩ := k2
    exact hw
  unfold storeA at hl
  split at hl
  · split at hl
    · split at hl
      · cases hl
      · rename_i cs T own hro hB
        split at hl
        · rename_i hlim
          simp only [Option.some.injEq, Prod.mk.injEq] at hl
          obtain ⟨rfl, _, rfl⟩ := hl
          have h1 := hc _ (List.mem_singleton.2 rfl)
          unfold storeV
          rw [hB]
          cases own with
          | ro => exact absurd rfl hro
          | rw => simp only [hlim, if_true, h1, Option.map_some]
          | row sz => simp only [hlim, if_true, h1, Option.map_some]
        · cases hl
      · cases hl
    · exact base hl
  · exact base hl
theorem field_conc {s : TypeId} {f d b off : Nat} (hd : fieldOff c s f = some d) (w : World) :
    (Instr.fieldAt s (.pointer (some ⟨b, off, none⟩)) f).run c.P w = .ok (.pointer (some ⟨b, off + d, none⟩)) w := by
  unfold fieldOff at hd
  split at hd
  · rename_i fields hs
    split at hd
    · rename_i fd hf
      split at hd
      · rename_i n hn
        split at hd
        · cases hd
        · rename_i hn0
          simp only [Option.some.injEq] at hd
          subst hd
          have e : (⟨b, off, none⟩ : Addr).add fd.offset = ⟨b, off + fd.offset, none⟩ := by
            unfold Addr.add
            split
            · rename_i h0; rw [h0]; rfl
            · rfl
          simp [Instr.fieldAt, go_sem, pureRun_run hs, hf, Instr.sureAddr, fieldPlace, pureRun_run hn, hn0, e]
      · cases hd
    · cases hd
  · cases hd
end
theorem execOp_congr {f g : Operand → Value} {o : Oper} {l : List Operand} (hl : plainOpnds o.op = some l) (hfg : ∀ x ∈ l, f x = g x) : execOp f o = execOp g o := by
  obtain ⟨dst, op, ty, pos, after, guard⟩ := o
  cases op with
  | binOp b xt x y yt =>
    simp only [plainOpnds, Option.some.injEq] at hl; subst hl
    simp only [execOp, hfg x (by simp), hfg y (by simp)]
  | unOp b xt x =>
    simp only [plainOpnds, Option.some.injEq] at hl; subst hl
    simp only [execOp, hfg x (by simp)]
  | convert b xt x =>
    simp only [plainOpnds, Option.some.injEq] at hl; subst hl
    simp only [execOp, hfg x (by simp)]
  | field b x n =>
    simp only [plainOpnds, Option.some.injEq] at hl; subst hl
    simp only [execOp, hfg x (by simp)]
  | index b x y =>
    simp only [plainOpnds, Option.some.injEq] at hl; subst hl
    simp only [execOp, hfg x (by simp), hfg y (by simp)]
  | extract x n =>
    simp only [plainOpnds, Option.some.injEq] at hl; subst hl
    simp only [execOp, hfg x (by simp)]
  | build b parts =>
    simp only [plainOpnds, Option.some.injEq] at hl; subst hl
    have e : (parts.map fun (i, x) => (i, f x)) = parts.map fun (i, x) => (i, g x) := by
      apply Array.map_congr_left
      rintro ⟨i, x⟩ hx
      simp only [Prod.mk.injEq, true_and]
      exact hfg x (List.mem_map.2 ⟨(i, x), Array.mem_toList_iff.2 hx, rfl⟩)
    simp only [execOp, e]
  | call k =>
    obtain ⟨callee, args, ats⟩ := k
    cases callee with
    | builtin b =>
      simp only [plainOpnds, Option.some.injEq] at hl; subst hl
      have e : args.map f = args.map g := Array.map_congr_left fun x hx => hfg x (Array.mem_toList_iff.2 hx)
      simp only [execOp, resolve, e]
    | value x => simp [plainOpnds] at hl
    | invoke x n => simp [plainOpnds] at hl
  | slice b x lo hi mx =>
    simp only [plainOpnds, Option.some.injEq] at hl; subst hl
    have e1 : lo.map f = lo.map g := by
      cases lo with
      | none => rfl
      | some y => simp only [Option.map_some, hfg y (by simp)]
    have e2 : hi.map f = hi.map g := by
      cases hi with
      | none => rfl
      | some y => simp only [Option.map_some, hfg y (by simp)]
    have e3 : mx.map f = mx.map g := by
      cases mx with
      | none => rfl
      | some y => simp only [Option.map_some, hfg y (by simp)]
    simp only [execOp, hfg x (by simp), e1, e2, e3]
  | typeAssert x b n ok =>
    simp only [plainOpnds, Option.some.injEq] at hl; subst hl
    simp only [execOp, hfg x (by simp)]
  | makeInterface b x =>
    simp only [plainOpnds, Option.some.injEq] at hl; subst hl
    simp only [execOp, hfg x (by simp)]
  | _ => simp [plainOpnds] at hl
section
variable {c : Cfg} {ρ : Ren} {h : Heap} {w : World} {t : List V} {a : Act} {lim : Nat}
theorem bare_run (RH : RelH c ρ h w) (RT : RelT ρ h.length t a) {o : Oper} {v : V} {cons : List Prop} (hb : bareOp o.op c t = some (v, cons)) (hc : ∀ p ∈ cons, p) :
    (execOp a.eval o).run c.P w = .ok (.value (v.conc ρ)) w ∧ v.under h.length = true := by
  obtain ⟨dst, op, ty, pos, after, guard⟩ := o
  unfold bareOp at hb
  split at hb
  · dsimp only at hb
    split at hb
    · rename_i b xt x y yt
      split at hb
      · rename_i k p k' q hx hy
        have ex := opnd_eval RH RT hx
        have ey := opnd_eval RH RT hy
        simp only [V.conc] at ex ey
        generalize a.eval = g at ex ey ⊢
        split at hb
        · rename_i hk
          subst hk
          split at hb <;> simp only [Option.some.injEq, Prod.mk.injEq, reduceCtorEq] at hb
          all_goals
            obtain ⟨rfl, rfl⟩ := hb
            refine ⟨?_, rfl⟩
          · have h1 : k.wrap (p + q) = p + q := hc _ (List.mem_singleton.2 rfl)
            simp [execOp, go_sem, ex, ey, eqGuard, binOp, Op.intArith, V.conc, h1]
          · have h1 : k.wrap (p - q) = p - q := hc _ (List.mem_singleton.2 rfl)
            simp [execOp, go_sem, ex, ey, eqGuard, binOp, Op.intArith, V.conc, h1]
          · have h1 : k.wrap (p * q) = p * q := hc _ (List.mem_singleton.2 rfl)
            simp [execOp, go_sem, ex, ey, eqGuard, binOp, Op.intArith, V.conc, h1]
          · have h0 : q ≠ 0 := hc _ (List.mem_cons_self)
            have h1 : k.wrap (p.tdiv q) = p.tdiv q := hc _ (List.mem_cons_of_mem _ List.mem_cons_self)
            simp [execOp, go_sem, ex, ey, eqGuard, binOp, Op.intDiv, V.conc, h1, h0]
          · have h0 : q ≠ 0 := hc _ (List.mem_cons_self)
            simp [execOp, go_sem, ex, ey, eqGuard, binOp, Op.intDiv, V.conc, h0]
        · cases hb
      · cases hb
    · rename_i xt x
      split at hb
      · rename_i k p hx
        have ex := opnd_eval RH RT hx
        simp only [V.conc] at ex
        generalize a.eval = g at ex ⊢
        simp only [Option.some.injEq, Prod.mk.injEq] at hb
        obtain ⟨rfl, rfl⟩ := hb
        have h1 : k.wrap (-p) = -p := hc _ (List.mem_singleton.2 rfl)
        refine ⟨?_, rfl⟩
        have h2 : k.wrap (0 - p) = -p := by rw [Int.zero_sub, h1]
        simp [execOp, go_sem, ex, Op.unary, Op.intArith, V.conc, h1]
      · cases hb
    · rename_i src dst x
      split at hb
      · rename_i k0 p hx
        have ex := opnd_eval RH RT hx
        simp only [V.conc] at ex
        generalize a.eval = g at ex ⊢
        split at hb
        · rename_i k1 k hs hd
          simp only [Option.some.injEq, Prod.mk.injEq] at hb
          obtain ⟨rfl, rfl⟩ := hb
          have h1 : k.wrap p = p := hc _ (List.mem_singleton.2 rfl)
          refine ⟨?_, rfl⟩
          simp [execOp, go_sem, ex, convert, pureRun_run hs, pureRun_run hd, Conv.intToInt, V.conc, h1]
        · cases hb
      · cases hb
    · cases hb
  · cases hb
end
section
variable {c : Cfg} {ρ : Ren}
theorem part_conc {ty : TypeId} {off n0 : Nat} {l : List V} {v : V} (hu : unders n0 l = true) (hv : loadRow c ty l off = some v) (w : World) : (part ty (concs ρ l).toArray off).run c.P w = .ok (v.conc ρ) w ∧ v.under n0 = true := by
  unfold loadRow at hv
  split at hv
  · rename_i n hag hsz
    split at hv
    · rename_i hle
      simp only [Option.some.injEq] at hv
      subst hv
      have h1 := pureRun_run hag w
      have h2 := pureRun_run hsz w
      refine ⟨?_, mkAgg_under (unders_sub hu fun x hx => List.mem_of_mem_drop (List.mem_of_mem_take hx))⟩
      rw [mkAgg_conc]
      have e : (concs ρ l).toArray.extract off (off + n) = (concs ρ ((l.drop off).take n)).toArray := by
        apply Array.toList_inj.1
        rw [Array.toList_extract, concs_map, concs_map, List.map_take, List.map_drop]
        simp [List.extract]
      rw [← e]
      unfold part
      generalize isAgg ty = s1 at h1 ⊢
      generalize Go.sizeOf ty = s2 at h2 ⊢
      simp [go_sem, h1, h2]
    · cases hv
  · rename_i x hag
    have h1 := pureRun_run hag w
    refine ⟨?_, (unders_iff _ _).1 hu v (List.mem_of_getElem? hv)⟩
    unfold part
    have e : (concs ρ l).toArray[off]? = some (v.conc ρ) := by
      rw [List.getElem?_toArray, concs_get, hv]; rfl
    generalize isAgg ty = s1 at h1 ⊢
    simp [go_sem, h1, e]
  · cases hv
theorem fold_put (off : Nat) : ∀ (xs : List Value) (k : Nat) (cells : Array Value), off + k + xs.length ≤ cells.size → ((xs.zipIdx k).foldl (fun cs p => cs.setIfInBounds (off + p.2) p.1) cells).toList = cells.toList.take (off + k) ++ xs ++ cells.toList.drop (off + k + xs.length)
  | [], k, cells, h => by simp
  | x :: xs, k, cells, h => by
    simp only [List.length_cons] at h
    have ih := fold_put off xs (k + 1) (cells.setIfInBounds (off + k) x) (by simp; omega)
    rw [List.zipIdx_cons, List.foldl_cons, ih]
    have hl : off + k < cells.toList.length := by simp; omega
    rw [Array.toList_setIfInBounds, List.set_eq_take_append_cons_drop, if_pos hl]
    have ht : (cells.toList.take (off + k)).length = off + k := by simp; omega
    rw [List.take_append, List.drop_append, ht]
    have e1 : List.take (off + (k + 1)) (cells.toList.take (off + k)) = cells.toList.take (off + k) := by
      rw [List.take_take, Nat.min_eq_right (by omega)]
    have e2 : off + (k + 1) - (off + k) = 1 := by omega
    have e3 : List.drop (off + (k + 1) + xs.length) (cells.toList.take (off + k)) = [] := List.drop_eq_nil_of_le (by rw [ht]; omega)
    have e4 : off + (k + 1) + xs.length - (off + k) = xs.length + 1 := by omega
    rw [e1, e2, e3, e4]
    simp only [List.take_succ_cons, List.take_zero, List.drop_succ_cons, List.drop_drop, List.nil_append, List.append_assoc, List.cons_append, List.length_cons]
    congr 3
    congr 1
    omega
theorem fill_conc {place : Nat → Option (Nat × Nat)} {n0 : Nat} : ∀ (ps : List (Nat × V)) (cells out : List V), (∀ p ∈ ps, p.2.under n0 = true) → unders n0 cells = true → fillV place cells ps = some out →
    Instr.fill place (concs ρ cells).toArray (ps.map fun p => (p.1, p.2.conc ρ)) = some (concs ρ out).toArray ∧ unders n0 out = true
  | [], cells, out, _, hu, h => by
    simp only [fillV, Option.some.injEq] at h
    subst h
    exact ⟨rfl, hu⟩
  | (i, v) :: rest, cells, out, hp, hu, h => by
    simp only [fillV] at h
    split at h
    · rename_i off size xs hpl hx
      split at h
      · rename_i hle
        obtain ⟨g1, g2⟩ := hle
        have ex := cellsV_conc ρ hx
        have ux := cellsV_under hx (hp _ List.mem_cons_self)
        have hu2 : unders n0 (putAt cells off xs) = true := by
          unfold putAt
          exact unders_append (unders_append (unders_sub hu fun x hx => List.mem_of_mem_take hx) ux) (unders_sub hu fun x hx => List.mem_of_mem_drop hx)
        obtain ⟨ih1, ih2⟩ := fill_conc rest _ out (fun p hp' => hp p (List.mem_cons_of_mem _ hp')) hu2 h
        refine ⟨?_, ih2⟩
        rw [← ih1]
        simp only [List.map_cons, Instr.fill, hpl]
        have hsz : (v.conc ρ).cells.size = xs.length := by
          rw [← Array.length_toList, ex, concs_length]
        rw [if_neg (by rw [hsz]; simp [concs_length]; omega)]
        congr 1
        apply Array.toList_inj.1
        rw [← Array.foldl_toList, Array.toList_zipIdx, ex]
        have := fold_put off (concs ρ xs) 0 (concs ρ cells).toArray (by simp [concs_length]; omega)
        rw [this]
        unfold putAt
        simp [concs_map, List.map_take, List.map_drop]
      · cases h
    · cases h
theorem opndsP_ok {t : List V} {a : Act} {h : Heap} {w : World} (RH : RelH c ρ h w) (RT : RelT ρ h.length t a) : ∀ (l : List (Nat × Operand)) (vs : List (Nat × V)), opndsP c t l = some vs → l.map (fun p => (p.1, a.eval p.2)) = vs.map (fun p => (p.1, p.2.conc ρ)) ∧ ∀ p ∈ vs, p.2.under h.length = true
  | [], vs, hx => by simp only [opndsP, Option.some.injEq] at hx; subst hx; exact ⟨rfl, fun p hp => by cases hp⟩
  | (i, x) :: l, vs, hx => by
    simp only [opndsP] at hx
    split at hx
    · rename_i v us hv hu
      simp only [Option.some.injEq] at hx
      subst hx
      obtain ⟨e1, e2⟩ := opndsP_ok RH RT l us hu
      refine ⟨?_, fun p hp => ?_⟩
      · simp only [List.map_cons, e1, opnd_eval RH RT hv]
      · rcases List.mem_cons.1 hp with rfl | hp
        · exact opnd_under RH RT hv
        · exact e2 p hp
    · cases hx
theorem build_run {t : List V} {a : Act} {h : Heap} {w : World} (RH : RelH c ρ h w) (RT : RelT ρ h.length t a) {T : TypeId} {parts : Array (Nat × Operand)} {v : V} (hv : buildV c t T parts = some v) :
    (Instr.build T (parts.map fun (i, x) => (i, a.eval x))).run c.P w = .ok (v.conc ρ) w ∧ v.under h.length = true := by
  have key : ∀ {place : Nat → Option (Nat × Nat)} {z : Value} {ps : List (Nat × V)}, opndsP c t parts.toList = some ps → (fillV place (z.cells.toList.map .raw) ps).map mkAgg = some v →
      ∃ out, Instr.fill place z.cells (parts.map fun (i, x) => (i, a.eval x)).toList = some out ∧ v.conc ρ = .agg out ∧ v.under h.length = true := fun {place z ps} hp hf => by
    rw [Option.map_eq_some_iff] at hf
    obtain ⟨out, h1, rfl⟩ := hf
    obtain ⟨e1, e2⟩ := opndsP_ok RH RT _ _ hp
    obtain ⟨k1, k2⟩ := fill_conc (ρ := ρ) ps _ out e2 (unders_raw _ _) h1
    rw [concs_raw] at k1
    refine ⟨_, ?_, mkAgg_conc ρ out, mkAgg_under k2⟩
    rw [← k1, ← e1, Array.toList_map]
  unfold buildV at hv
  split at hv
  · rename_i z fields ps hz hu hp
    split at hv
    · rename_i places hpl
      obtain ⟨out, k1, k2, k3⟩ := key hp hv
      refine ⟨?_, k3⟩
      rw [k2]
      have r1 := pureRun_run hz w
      have r2 := pureRun_run hu w
      have r3 := pureRun_run hpl w
      unfold Instr.build
      generalize (parts.map fun (i, x) => (i, a.eval x)) = qs at k1 ⊢
      generalize zeroValue T = s1 at r1 ⊢
      generalize underlying T = s2 at r2 ⊢
      unfold Value.cells at k1
      simp only [bind_pure_comp] at r3
      simp [go_sem, r1, r2, r3, k1]
    · cases hv
  · rename_i z n elem ps hz hu hp
    split at hv
    · rename_i size hs
      obtain ⟨out, k1, k2, k3⟩ := key hp hv
      refine ⟨?_, k3⟩
      rw [k2]
      have r1 := pureRun_run hz w
      have r2 := pureRun_run hu w
      have r3 := pureRun_run hs w
      unfold Instr.build
      generalize (parts.map fun (i, x) => (i, a.eval x)) = qs at k1 ⊢
      generalize zeroValue T = s1 at r1 ⊢
      generalize underlying T = s2 at r2 ⊢
      unfold Value.cells at k1
      simp [go_sem, r1, r2, r3, k1]
    · cases hv
  · cases hv
end
end Go.Proofs.Ytcibaankajfhlaa.E2
end
section
namespace Go.Proofs.Ytcibaankajfhlaa.E2
open Go Go.RowKit
theorem keyAt_find {kd : TypeDesc} {k : Value} : ∀ (ks vs : List Value) (bs : List Nat) (i : Nat) (r : Option Nat), ks.length = vs.length → ks.length = bs.length → keyAt kd k ks i = some r →
    Instr.findNow kd k (mapEnts ks vs bs) i = some (r.map fun j => (j, vs.getD (j - i) undef)) ∧ ∀ j, r = some j → i ≤ j ∧ j - i < ks.length
  | [], vs, bs, i, r, h1, h2, h => by
    simp only [keyAt, Option.some.injEq] at h
    subst h
    exact ⟨rfl, fun j hj => by cases hj⟩
  | e :: ks, [], bs, i, r, h1, h2, h => by simp at h1
  | e :: ks, v :: vs, [], i, r, h1, h2, h => by simp at h2
  | e :: ks, v :: vs, b :: bs, i, r, h1, h2, h => by
    have ee : mapEnts (e :: ks) (v :: vs) (b :: bs) = ⟨e, v, b⟩ :: mapEnts ks vs bs := rfl
    simp only [keyAt] at h
    rw [ee]
    simp only [Instr.findNow]
    split at h
    · rename_i hs
      simp only [Option.some.injEq] at h
      subst h
      rw [hs]
      exact ⟨by simp, fun j hj => by cases hj; simp⟩
    · rename_i hs
      rw [hs]
      obtain ⟨k1, k2⟩ := keyAt_find ks vs bs (i + 1) r (by simpa using h1) (by simpa using h2) h
      refine ⟨?_, fun j hj => ?_⟩
      · dsimp only
        rw [k1]
        cases r with
        | none => rfl
        | some j =>
          obtain ⟨q1, q2⟩ := k2 j rfl
          simp only [Option.map_some, Option.some.injEq, Prod.mk.injEq, true_and]
          rw [show j - i = (j - (i + 1)) + 1 by omega]
          rfl
      · obtain ⟨q1, q2⟩ := k2 j hj
        simp only [List.length_cons]
        omega
    · cases h
theorem keyAt_none {kd : TypeDesc} {k : Value} : ∀ (ks vs : List Value) (bs : List Nat) (i : Nat), ks.length = vs.length → ks.length = bs.length → keyAt kd k ks i = none → Instr.findNow kd k (mapEnts ks vs bs) i = none
  | [], vs, bs, i, h1, h2, h => by simp [keyAt] at h
  | e :: ks, [], bs, i, h1, h2, h => by simp at h1
  | e :: ks, v :: vs, [], i, h1, h2, h => by simp at h2
  | e :: ks, v :: vs, b :: bs, i, h1, h2, h => by
    have ee : mapEnts (e :: ks) (v :: vs) (b :: bs) = ⟨e, v, b⟩ :: mapEnts ks vs bs := rfl
    simp only [keyAt] at h
    rw [ee]
    simp only [Instr.findNow]
    split at h
    · cases h
    · rename_i hs
      rw [hs]
      exact keyAt_none ks vs bs (i + 1) (by simpa using h1) (by simpa using h2) h
    · rename_i hs
      rw [hs]
theorem askAt_find {P : Program} {kt : TypeId} {k : Value} (w : World) : ∀ (ks vs : List Value) (bs : List Nat) (i : Nat) (r : Option Nat), ks.length = vs.length → ks.length = bs.length → askAt P kt k ks i = some r →
    (Instr.findAsking kt k (mapEnts ks vs bs) i).run P w = .ok (r.map fun j => (j, vs.getD (j - i) undef)) w ∧ ∀ j, r = some j → i ≤ j ∧ j - i < ks.length
  | [], vs, bs, i, r, h1, h2, h => by
    simp only [askAt, Option.some.injEq] at h
    subst h
    exact ⟨rfl, fun j hj => by cases hj⟩
  | e :: ks, [], bs, i, r, h1, h2, h => by simp at h1
  | e :: ks, v :: vs, [], i, r, h1, h2, h => by simp at h2
  | e :: ks, v :: vs, b :: bs, i, r, h1, h2, h => by
    have ee : mapEnts (e :: ks) (v :: vs) (b :: bs) = ⟨e, v, b⟩ :: mapEnts ks vs bs := rfl
    simp only [askAt] at h
    rw [ee]
    simp only [Instr.findAsking]
    split at h
    · rename_i hs
      simp only [Option.some.injEq] at h
      subst h
      have hq : (Op.equal kt k e).run P w = .ok true w := eqIn_sound P 12 9988 _ _ _ true w hs
      rw [Sem.run_bind, hq]
      exact ⟨by simp [go_sem], fun j hj => by cases hj; simp⟩
    · rename_i hs
      have hq : (Op.equal kt k e).run P w = .ok false w := eqIn_sound P 12 9988 _ _ _ false w hs
      rw [Sem.run_bind, hq]
      obtain ⟨k1, k2⟩ := askAt_find w ks vs bs (i + 1) r (by simpa using h1) (by simpa using h2) h
      refine ⟨?_, fun j hj => ?_⟩
      · simp only [Result.andThen_ok, Bool.false_eq_true, if_false]
        rw [k1]
        cases r with
        | none => rfl
        | some j =>
          obtain ⟨q1, q2⟩ := k2 j rfl
          simp only [Option.map_some, Result.ok.injEq, Option.some.injEq, Prod.mk.injEq, true_and, and_true]
          rw [show j - i = (j - (i + 1)) + 1 by omega]
          rfl
      · obtain ⟨q1, q2⟩ := k2 j hj
        simp only [List.length_cons]
        omega
    · cases h
theorem findV_run {c : Cfg} {kt : TypeId} {ks vs : List Value} {bs : List Nat} {kv : Value} {r : Option Nat} (h1 : ks.length = vs.length) (h2 : ks.length = bs.length) (h : findV c kt ks kv = some r) (w : World) :
    (Instr.findKey kt kv (mapEnts ks vs bs)).run c.P w = .ok (r.map fun j => (j, vs.getD j undef)) w ∧ (∀ e, (Instr.checkKey e 10000 kt kv).run c.P w = .ok () w) ∧ ∀ j, r = some j → j < ks.length := by
  unfold findV at h
  split at h
  · rename_i kd u1 u2 hk e1 e2
    have hchk : ∀ e, (Instr.checkKey e 10000 kt kv).run c.P w = .ok () w := fun e => by
      cases e with
      | true => exact pureRun_run e1 w
      | false => exact pureRun_run e2 w
    split at h
    · rename_i r' hr'
      simp only [Option.some.injEq] at h
      subst h
      obtain ⟨k1, k2⟩ := keyAt_find ks vs bs 0 r' h1 h2 hr'
      refine ⟨?_, hchk, fun j hj => by have := k2 j hj; omega⟩
      have r1 := pureRun_run hk w
      unfold Instr.findKey
      generalize underlying kt = s at r1 ⊢
      simp [go_sem, r1, k1]
    · rename_i hn
      have k0 := keyAt_none ks vs bs 0 h1 h2 hn
      obtain ⟨k1, k2⟩ := askAt_find w ks vs bs 0 r h1 h2 h
      refine ⟨?_, hchk, fun j hj => by have := k2 j hj; omega⟩
      have r1 := pureRun_run hk w
      unfold Instr.findKey
      generalize underlying kt = s at r1 ⊢
      rw [Sem.run_bind, r1]
      simp only [Result.andThen_ok, k0]
      exact k1
  · cases h
theorem mapAt_ok {h : Heap} {b : Nat} {ks : List Value} {vs : List V} {bs : List Nat} {k : Nat} (hm : mapAt h b = some (ks, vs, bs, k)) : h[b]? = some (some (.mp ks vs bs k)) ∧ ks.length = vs.length ∧ ks.length = bs.length := by
  unfold mapAt at hm
  split at hm
  · rename_i a b c d hB
    split at hm
    · rename_i hl
      simp only [Option.some.injEq, Prod.mk.injEq] at hm
      obtain ⟨rfl, rfl, rfl, rfl⟩ := hm
      exact ⟨hB, hl⟩
    · cases hm
  · cases hm
theorem ents_modify {kv v : Value} : ∀ (ks vs : List Value) (bs : List Nat) (i : Nat), (mapEnts ks vs bs).modify i (fun e => { e with key := kv, val := v }) = mapEnts (ks.set i kv) (vs.set i v) bs
  | [], vs, bs, i => by cases i <;> rfl
  | e :: ks, [], bs, i => by cases i <;> simp [mapEnts]
  | e :: ks, u :: vs, [], i => by cases i <;> simp [mapEnts]
  | e :: ks, u :: vs, b :: bs, 0 => rfl
  | e :: ks, u :: vs, b :: bs, i + 1 => by
    have ih := ents_modify (kv := kv) (v := v) ks vs bs i
    show _ :: _ = _ :: _
    exact congrArg _ ih
theorem ents_push {kv v : Value} {k : Nat} {ks vs : List Value} {bs : List Nat} (h1 : ks.length = vs.length) (h2 : ks.length = bs.length) : mapEnts ks vs bs ++ [⟨kv, v, k⟩] = mapEnts (ks ++ [kv]) (vs ++ [v]) (bs ++ [k]) := by
  unfold mapEnts
  rw [List.zip_append (show vs.length = bs.length by omega), List.zip_append (show ks.length = (vs.zip bs).length by simp; omega)]
  simp
theorem ents_key : ∀ (ks vs : List Value) (bs : List Nat) (i : Nat), ks.length = vs.length → ks.length = bs.length → ((mapEnts ks vs bs)[i]?).map (·.key) = ks[i]?
  | [], vs, bs, i, _, _ => rfl
  | e :: ks, [], bs, i, h1, h2 => by simp at h1
  | e :: ks, v :: vs, [], i, h1, h2 => by simp at h2
  | e :: ks, v :: vs, b :: bs, 0, h1, h2 => rfl
  | e :: ks, v :: vs, b :: bs, i + 1, h1, h2 => by
    have ee : mapEnts (e :: ks) (v :: vs) (b :: bs) = ⟨e, v, b⟩ :: mapEnts ks vs bs := rfl
    rw [ee, List.getElem?_cons_succ, List.getElem?_cons_succ]
    exact ents_key ks vs bs i (by simpa using h1) (by simpa using h2)
section
variable {c : Cfg} {ρ : Ren} {h : Heap} {w : World} {t : List V} {a : Act} {lim : Nat}
section
variable {dst : Option Tmp} {ty : TypeId} {pos : String} {after : Array Edge} {guard : Option (Nat × Bool)}
theorem lookup_run (RH : RelH c ρ h w) (RT : RelT ρ h.length t a) {T : TypeId} {x y : Operand} {two : Bool} {v : V} (hv : lookupV c t h T x y two = some v) :
    (execOp a.eval ⟨dst, .lookup T x y two, ty, pos, after, guard⟩).run c.P w = .ok (.value (v.conc ρ)) w ∧ v.under h.length = true := by
  unfold lookupV at hv
  split at hv
  · rename_i b kv kt el hx hy hT
    split at hv
    · rename_i ks vs bs k hm
      obtain ⟨hB, l1, l2⟩ := mapAt_ok hm
      obtain ⟨hn, hw⟩ := RH.cell b _ hB
      have hu : unders h.length vs = true := RH.sco b _ hB
      have ex := opnd_eval RH RT hx
      have ey := opnd_eval RH RT hy
      simp only [V.conc] at ex ey
      have r0 := pureRun_run hT w
      have look : ∀ r, findV c kt ks kv = some r → ∀ u ok, (match r with
            | some i => (concs ρ vs).getD i undef = u ∧ ok = true
            | none => (zeroValue el).run c.P w = .ok u w ∧ ok = false) →
          (execOp a.eval ⟨dst, .lookup T x y two, ty, pos, after, guard⟩).run c.P w = .ok (.value (if two then .tuple #[u, .bool ok] else u)) w := fun r hf u ok hz => by
        obtain ⟨f1, f2, f3⟩ := findV_run (vs := concs ρ vs) (bs := bs) (by rw [concs_length]; exact l1) l2 hf w
        have hg : (getObj (ρ.blk b).n).run c.P w = .ok (.map (mapEnts ks (concs ρ vs) bs).toArray k) w := by simp [getObj, Sem.run, hw]
        generalize a.eval = g at ex ey ⊢
        simp only [execOp, ex, ey, Instr.lookup]
        generalize underlying T = s at r0 ⊢
        generalize hA : mapEnts ks (concs ρ vs) bs = A at *
        cases r with
        | none =>
          obtain ⟨z1, rfl⟩ := hz
          simp only [Option.map_none] at f1
          cases two <;> simp [go_sem, r0, hg, f2, f1, z1]
        | some i =>
          obtain ⟨rfl, rfl⟩ := hz
          simp only [Option.map_some] at f1
          cases two <;> simp [go_sem, r0, hg, f2, f1]
      split at hv
      · rename_i i hf
        split at hv
        · rename_i v0 hv0
          simp only [Option.some.injEq] at hv
          subst hv
          have hlt := List.mem_of_getElem? hv0
          have hu0 : v0.under h.length = true := (unders_iff _ _).1 hu v0 hlt
          have e0 : (concs ρ vs).getD i undef = v0.conc ρ := by rw [List.getD_eq_getElem?_getD, concs_get, hv0]; rfl
          have := look _ hf (v0.conc ρ) true ⟨e0, rfl⟩
          cases two with
          | true =>
            refine ⟨?_, mkTup_under (by simp [unders, hu0, V.under])⟩
            rw [this]
            simp only [if_true, mkTup_conc, concs, V.conc]
          | false => exact ⟨this, hu0⟩
        · cases hv
      · rename_i hf
        split at hv
        · rename_i z hz
          simp only [Option.some.injEq] at hv
          subst hv
          have := look _ hf z false ⟨pureRun_run hz w, rfl⟩
          cases two with
          | true => exact ⟨this, rfl⟩
          | false => exact ⟨this, rfl⟩
        · cases hv
      · cases hv
    · cases hv
  · cases hv
theorem mapPut_rel (RH : RelH c ρ h w) {b : Nat} {ks ks' : List Value} {vs vs' : List V} {bs bs' : List Nat} {k k' : Nat} (hb : h[b]? = some (some (.mp ks vs bs k))) (hL : c.L ≤ b) (hl : lim ≤ b) (hu : unders h.length vs' = true) :
    RelH c ρ (h.set b (some (.mp ks' vs' bs' k'))) (w.putObj (ρ.blk b).n (.map (mapEnts ks' (concs ρ vs') bs').toArray k')) ∧ Fr lim h.length ρ h w ρ (h.set b (some (.mp ks' vs' bs' k'))) (w.putObj (ρ.blk b).n (.map (mapEnts ks' (concs ρ vs') bs').toArray k')) := by
  obtain ⟨hn, h1⟩ := RH.cell b _ hb
  have hlt : (ρ.blk b).n < w.heap.size := (Array.getElem?_eq_some_iff.1 h1).1
  refine ⟨relH_set RH hb rfl hn hL (fun B' e => ?_) (fun k hk => World.putObj_heap_other hk), fr_set hb rfl hn hl rfl rfl rfl (by simp) (fun k _ hk => World.putObj_heap_other hk)⟩
  cases e
  exact ⟨hu, hn, World.putObj_heap_same hlt⟩
theorem update_run (RH : RelH c ρ h w) (RT : RelT ρ h.length t a) (hL : c.L ≤ lim) {T : TypeId} {m y x : Operand} {h' : Heap} (hv : updateV c lim t h T m y x = some h') {op : Op} (hop : op = .mapUpdate T m y x ∨ op = .insert T m y x) :
    ∃ w', (execOp a.eval ⟨dst, op, ty, pos, after, guard⟩).run c.P w = .ok .skip w' ∧ RelH c ρ h' w' ∧ Fr lim h.length ρ h w ρ h' w' := by
  unfold updateV at hv
  split at hv
  · rename_i b kv v kt el hx hy hz hT
    split at hv
    · rename_i hlim
      split at hv
      · rename_i ks vs bs k hm
        obtain ⟨hB, l1, l2⟩ := mapAt_ok hm
        obtain ⟨hn, hw⟩ := RH.cell b _ hB
        have hu : unders h.length vs = true := RH.sco b _ hB
        have ex := opnd_eval RH RT hx
        have ey := opnd_eval RH RT hy
        have ez := opnd_eval RH RT hz
        have uz := opnd_under RH RT hz
        simp only [V.conc] at ex ey
        have r0 := pureRun_run hT w
        have lc : ks.length = (concs ρ vs).length := by rw [concs_length]; exact l1
        have hg : (getObj (ρ.blk b).n).run c.P w = .ok (.map (mapEnts ks (concs ρ vs) bs).toArray k) w := by simp [getObj, Sem.run, hw]
        have hs : ∀ o, (setObj (ρ.blk b).n o).run c.P w = .ok () (w.putObj (ρ.blk b).n o) := fun o => by simp [setObj, Sem.run, hw, World.putObj]
        have step : ∀ r, findV c kt ks kv = some r → ∀ A' k', (match r with
              | some i => (∃ k0, ks[i]? = some k0 ∧ Instr.sameBits 10000 k0 kv = true) ∧ A' = (mapEnts ks (concs ρ vs) bs).modify i (fun e => { e with key := kv, val := v.conc ρ }) ∧ k' = k
              | none => A' = mapEnts ks (concs ρ vs) bs ++ [⟨kv, v.conc ρ, k⟩] ∧ k' = k + 1) →
            (execOp a.eval ⟨dst, op, ty, pos, after, guard⟩).run c.P w = .ok .skip (w.putObj (ρ.blk b).n (.map A'.toArray k')) := fun r hf A' k' hr => by
          obtain ⟨f1, f2, f3⟩ := findV_run (vs := concs ρ vs) (bs := bs) lc l2 hf w
          have hk := fun i => ents_key ks (concs ρ vs) bs i lc l2
          generalize a.eval = g at ex ey ez ⊢
          have e0 : execOp g ⟨dst, op, ty, pos, after, guard⟩ = (do Instr.mapUpdate T (.map (some (ρ.blk b).n)) kv (v.conc ρ); pure Next.skip) := by
            rcases hop with rfl | rfl <;> simp only [execOp, ex, ey, ez]
          rw [e0]
          simp only [Instr.mapUpdate]
          generalize underlying T = s at r0 ⊢
          generalize hA : mapEnts ks (concs ρ vs) bs = A at *
          cases r with
          | none =>
            obtain ⟨rfl, rfl⟩ := hr
            simp only [Option.map_none] at f1
            simp [go_sem, r0, hg, f2, f1, hs]
          | some i =>
            obtain ⟨⟨k0, q1, q2⟩, rfl, rfl⟩ := hr
            simp only [Option.map_some] at f1
            have hki := hk i
            rw [q1] at hki
            simp [go_sem, r0, hg, f2, f1, hs, Instr.keyThatStays, hki, q2]
        split at hv
        · rename_i i hf
          split at hv
          · rename_i k0 hk0
            split at hv
            · rename_i hsb
              simp only [Option.some.injEq] at hv
              subst hv
              refine ⟨_, step _ hf _ _ ⟨⟨k0, hk0, hsb⟩, rfl, rfl⟩, ?_⟩
              rw [ents_modify, ← concs_set]
              exact mapPut_rel RH hB (by omega) hlim (by
                rw [unders_iff] at hu ⊢
                intro z hz
                rcases List.mem_or_eq_of_mem_set hz with h1 | rfl
                · exact hu z h1
                · exact uz)
            · cases hv
          · cases hv
        · rename_i hf
          simp only [Option.some.injEq] at hv
          subst hv
          refine ⟨_, step _ hf _ _ ⟨rfl, rfl⟩, ?_⟩
          rw [ents_push lc l2, show concs ρ vs ++ [v.conc ρ] = concs ρ (vs ++ [v]) by rw [concs_append]; rfl]
          exact mapPut_rel RH hB (by omega) hlim (unders_append hu (by simp [unders, uz]))
        · cases hv
      · cases hv
    · cases hv
  · cases hv
theorem mapS_at {h : Heap} {b : Nat} {ks : List Value} {vs : List V} {bs : List Nat} {k : Nat} (hm : mapS h b = some (ks, vs, bs, k)) (hl : ks.length = vs.length ∧ ks.length = bs.length) : mapAt h b = some (ks, vs, bs, k) := by
  unfold mapS at hm
  unfold mapAt
  split at hm
  · rename_i a b c d hB
    simp only [Option.some.injEq, Prod.mk.injEq] at hm
    obtain ⟨rfl, rfl, rfl, rfl⟩ := hm
    try rw [hB]
    simp only [if_pos hl]
  · cases hm
theorem getM_some {kt : TypeId} {ks : List Value} {vs : List V} {kv : Value} {v : V} (hg : getM c kt ks vs kv = some (some v)) : ∃ i, findV c kt ks kv = some (some i) ∧ vs[i]? = some v := by
  unfold getM at hg
  split at hg
  · rename_i i hf
    split at hg
    · rename_i v0 hv
      simp only [Option.some.injEq] at hg
      subst hg
      exact ⟨i, hf, hv⟩
    · cases hg
  · simp at hg
  · cases hg
theorem getM_none {kt : TypeId} {ks : List Value} {vs : List V} {kv : Value} (hg : getM c kt ks vs kv = some none) : findV c kt ks kv = some none := by
  unfold getM at hg
  split at hg
  · split at hg
    · simp at hg
    · cases hg
  · assumption
  · cases hg
theorem updateT_ok {T : TypeId} {m y x : Operand} {r : V} {h' : Heap} {cons : List Prop} (hv : updateT c lim t h T m y x r = some (h', cons)) (hc : ∀ p ∈ cons, p) : updateV c lim t h T m y x = some h' := by
  unfold updateT at hv
  unfold updateV
  split at hv
  · rename_i b kv v kt el hx hy hz hT
    try simp only [hx, hy, hz, hT]
    split at hv
    · rename_i hlim
      rw [if_pos hlim]
      split at hv
      · rename_i ks vs bs k hm
        split at hv
        · rename_i i u
          simp only [Option.some.injEq, Prod.mk.injEq] at hv
          obtain ⟨rfl, rfl⟩ := hv
          have h0 := hc _ List.mem_cons_self
          have h1 := hc _ (List.mem_cons_of_mem _ List.mem_cons_self)
          obtain ⟨k0, h2, h3⟩ := hc _ (List.mem_cons_of_mem _ (List.mem_cons_of_mem _ List.mem_cons_self))
          simp only [mapS_at hm h0, h1, h2, h3, if_true]
        · simp only [Option.some.injEq, Prod.mk.injEq] at hv
          obtain ⟨rfl, rfl⟩ := hv
          have h0 := hc _ List.mem_cons_self
          have h1 := hc _ (List.mem_cons_of_mem _ List.mem_cons_self)
          simp only [mapS_at hm h0, h1]
      · cases hv
    · cases hv
  · cases hv
theorem lookupT_ok {T : TypeId} {x y : Operand} {two : Bool} {r v : V} {cons : List Prop} (hv : lookupT c t h T x y two r = some (v, cons)) (hc : ∀ p ∈ cons, p) : lookupV c t h T x y two = some v := by
  unfold lookupT at hv
  unfold lookupV
  split at hv
  · rename_i b kv kt el hx hy hT
    try simp only [hx, hy, hT]
    split at hv
    · rename_i ks vs bs k hm
      split at hv
      · rename_i i u v0
        simp only [Option.some.injEq, Prod.mk.injEq] at hv
        obtain ⟨rfl, rfl⟩ := hv
        have h0 := hc _ List.mem_cons_self
        have h1 := hc _ (List.mem_cons_of_mem _ List.mem_cons_self)
        have h2 := hc _ (List.mem_cons_of_mem _ (List.mem_cons_of_mem _ List.mem_cons_self))
        simp only [mapS_at hm h0, h1, h2]
      · rename_i q v0
        simp only [Option.some.injEq, Prod.mk.injEq] at hv
        obtain ⟨rfl, rfl⟩ := hv
        have h0 := hc _ List.mem_cons_self
        obtain ⟨i, h1, h2⟩ := getM_some (hc _ (List.mem_cons_of_mem _ List.mem_cons_self))
        simp only [mapS_at hm h0, h1, h2]
      · split at hv
        · rename_i z hz
          simp only [Option.some.injEq, Prod.mk.injEq] at hv
          obtain ⟨rfl, rfl⟩ := hv
          have h0 := hc _ List.mem_cons_self
          have h1 := getM_none (hc _ (List.mem_cons_of_mem _ List.mem_cons_self))
          simp only [mapS_at hm h0, h1, hz]
        · cases hv
      · split at hv
        · rename_i z hz
          simp only [Option.some.injEq, Prod.mk.injEq] at hv
          obtain ⟨rfl, rfl⟩ := hv
          have h0 := hc _ List.mem_cons_self
          have h1 := hc _ (List.mem_cons_of_mem _ List.mem_cons_self)
          simp only [mapS_at hm h0, h1, hz]
        · cases hv
    · cases hv
  · cases hv
theorem updateN_ok {T : TypeId} {m y x : Operand} {ks' : List Value} {vs' : List V} {bs' : List Nat} {k' : Nat} {h' : Heap} {cons : List Prop} (hv : updateN c lim t h T m y x ks' vs' bs' k' = some (h', cons)) (hc : ∀ p ∈ cons, p) : updateV c lim t h T m y x = some h' := by
  unfold updateN at hv
  unfold updateV
  split at hv
  · rename_i b kv v kt el hx hy hz hT
    try simp only [hx, hy, hz, hT]
    split at hv
    · rename_i hlim
      rw [if_pos hlim]
      split at hv
      · rename_i ks vs bs k hm
        simp only [Option.some.injEq, Prod.mk.injEq] at hv
        obtain ⟨rfl, rfl⟩ := hv
        have h0 := hc _ List.mem_cons_self
        have h1 := hc _ (List.mem_cons_of_mem _ List.mem_cons_self)
        unfold putM at h1
        simp only [mapS_at hm h0]
        split at h1
        · rename_i i hf
          split at h1
          · rename_i k0 hk
            split at h1
            · rename_i hs
              simp only [Option.some.injEq, Prod.mk.injEq] at h1
              obtain ⟨rfl, rfl, rfl, rfl⟩ := h1
              simp only [hf, hk, hs, if_true]
            · cases h1
          · cases h1
        · rename_i hf
          simp only [Option.some.injEq, Prod.mk.injEq] at h1
          obtain ⟨rfl, rfl, rfl, rfl⟩ := h1
          simp only [hf]
        · cases h1
      · cases hv
    · cases hv
  · cases hv
theorem deleteN_ok {args : List Operand} {ats : Array TypeId} {ks' : List Value} {vs' : List V} {bs' : List Nat} {k' : Nat} {h' : Heap} {cons : List Prop} (hv : deleteN c lim t h args ats ks' vs' bs' k' = some (h', cons)) (hc : ∀ p ∈ cons, p) : deleteV c lim t h args ats = some h' := by
  unfold deleteN at hv
  unfold deleteV
  split at hv
  · rename_i x y T hT
    split at hv
    · rename_i b kv kt el hx hy hu
      try simp only [hT, hx, hy, hu]
      split at hv
      · rename_i hlim
        rw [if_pos hlim]
        split at hv
        · rename_i ks vs bs k hm
          simp only [Option.some.injEq, Prod.mk.injEq] at hv
          obtain ⟨rfl, rfl⟩ := hv
          have h0 := hc _ List.mem_cons_self
          have h1 := hc _ (List.mem_cons_of_mem _ List.mem_cons_self)
          unfold delM at h1
          simp only [mapS_at hm h0]
          split at h1
          · rename_i i hf
            simp only [Option.some.injEq, Prod.mk.injEq] at h1
            obtain ⟨rfl, rfl, rfl, rfl⟩ := h1
            simp only [hf]
          · rename_i hf
            simp only [Option.some.injEq, Prod.mk.injEq] at h1
            obtain ⟨rfl, rfl, rfl, rfl⟩ := h1
            simp only [hf]
          · cases h1
        · cases hv
      · cases hv
    · cases hv
  · cases hv
theorem lenN_ok {args : List Operand} {ats : Array TypeId} {v : V} {w : Value} {cons : List Prop} (hv : lenN c t h args ats w = some (v, cons)) (hc : ∀ p ∈ cons, p) : lenM c t h args ats = some v := by
  unfold lenN at hv
  unfold lenM
  split at hv
  · rename_i x T hT
    split at hv
    · rename_i b k e hx hu
      try simp only [hT, hx, hu]
      split at hv
      · rename_i ks vs bs k hm
        simp only [Option.some.injEq, Prod.mk.injEq] at hv
        obtain ⟨rfl, rfl⟩ := hv
        have h1 := hc _ (List.mem_cons_of_mem _ List.mem_cons_self)
        simp only [mapS_at hm (hc _ List.mem_cons_self), h1]
      · cases hv
    · cases hv
  · cases hv
theorem lenT_ok {args : List Operand} {ats : Array TypeId} {v : V} {cons : List Prop} (hv : lenT c t h args ats = some (v, cons)) (hc : ∀ p ∈ cons, p) : lenM c t h args ats = some v := by
  unfold lenT at hv
  unfold lenM
  split at hv
  · rename_i x T hT
    split at hv
    · rename_i b k e hx hu
      try simp only [hT, hx, hu]
      split at hv
      · rename_i ks vs bs k hm
        simp only [Option.some.injEq, Prod.mk.injEq] at hv
        obtain ⟨rfl, rfl⟩ := hv
        simp only [mapS_at hm (hc _ List.mem_cons_self)]
      · cases hv
    · cases hv
  · cases hv
theorem clear_run (RH : RelH c ρ h w) (RT : RelT ρ h.length t a) (hL : c.L ≤ lim) {args : Array Operand} {ats : Array TypeId} {h' : Heap} (hv : clearV c lim t h args.toList ats = some h') :
    ∃ w', (execOp a.eval ⟨dst, .call ⟨.builtin .clear, args, ats⟩, ty, pos, after, guard⟩).run c.P w = .ok (.value (.tuple #[])) w' ∧ RelH c ρ h' w' ∧ Fr lim h.length ρ h w ρ h' w' := by
  unfold clearV at hv
  split at hv
  · rename_i x T hargs hT
    split at hv
    · rename_i b kt el hx hu
      split at hv
      · rename_i hlim
        split at hv
        · rename_i ks vs bs k hm
          simp only [Option.some.injEq] at hv
          subst hv
          obtain ⟨hB, l1, l2⟩ := mapAt_ok hm
          obtain ⟨hn, hw⟩ := RH.cell b _ hB
          have ex := opnd_eval RH RT hx
          simp only [V.conc] at ex
          have r0 := pureRun_run hu w
          have hg : (getObj (ρ.blk b).n).run c.P w = .ok (.map (mapEnts ks (concs ρ vs) bs).toArray k) w := by simp [getObj, Sem.run, hw]
          have hs : ∀ o, (setObj (ρ.blk b).n o).run c.P w = .ok () (w.putObj (ρ.blk b).n o) := fun o => by simp [setObj, Sem.run, hw, World.putObj]
          have ha : args = #[x] := by apply Array.toList_inj.1; simpa using hargs
          subst ha
          refine ⟨w.putObj (ρ.blk b).n (.map (mapEnts [] (concs ρ []) []).toArray k), ?_, mapPut_rel RH hB (by omega) hlim rfl⟩
          generalize a.eval = g at ex ⊢
          have hT' : ats[0]? = some T := hT
          simp [execOp, resolve, go_sem, invoke, builtin, Builtin.clear_, hT', ex, r0, hg, hs, mapEnts]
        · cases hv
      · cases hv
    · cases hv
  · cases hv
theorem clearB_run (RH : RelH c ρ h w) (hL : c.L ≤ lim) (hlh : lim ≤ h.length) {e : TypeId} {b off n cap : Nat} {h' : Heap} {v : Value} {T : TypeId} {ats : Array TypeId} {ty : TypeId} (hT : ats[0]? = some T) (hu : pureRun c.P (underlying T) = some (.slice e)) (hb : clearB c lim h e b off n = some h') (hv : (n = 0 ∧ ∃ p k, v = .slice p 0 k) ∨ v = .slice (some ⟨(ρ.blk b).n, (ρ.blk b).pre.length + off, none⟩) n cap) :
    ∃ w', (Builtin.clear_ ats ty #[v]).run c.P w = .ok (.tuple #[]) w' ∧ RelH c ρ h' w' ∧ Fr lim h.length ρ h w ρ h' w' := by
  unfold clearB at hb
  have r0 := pureRun_run hu w
  split at hb
  · rename_i h0
    simp only [Option.some.injEq] at hb
    subst hb
    have : ∃ p k, v = .slice p 0 k := by
      rcases hv with ⟨_, h1⟩ | h1
      · exact h1
      · exact ⟨_, _, by rw [h1, h0]⟩
    obtain ⟨p, k, rfl⟩ := this
    refine ⟨w, ?_, RH, Fr.refl _ _ _ _ hlh (Nat.le_refl _)⟩
    cases p <;> simp [Builtin.clear_, go_sem, hT, r0]
  · rename_i h0
    rcases hv with ⟨h1, _⟩ | hv
    · exact absurd h1 h0
    split at hb
    · rename_i z cs S own hz hB
      split at hb
      · cases hb
      · rename_i hro
        split at hb
        · rename_i hh
          obtain ⟨hlim, hle, hz0, hone⟩ := hh
          simp only [Option.some.injEq] at hb
          subst hb
          have hcell := RH.cell b _ hB
          have hsco := RH.sco b _ hB
          have hownro : own ≠ .ro := fun e => by subst e; exact hro rfl
          have hwr : (Blk.cells cs S own).wr = true := by cases own <;> first | rfl | exact absurd rfl hownro
          have hlen : (mk0 z.cells (n * z.cells.size)).length = n * z.cells.size := by simp [mk0]
          have hpos : 0 < n * z.cells.size := Nat.mul_pos (Nat.pos_of_ne_zero h0) hz0
          have hnil : (ρ.blk b).nil = false := by
            cases hn' : (ρ.blk b).nil with
            | false => rfl
            | true => rw [hcell.nil hn'] at hle; simp only [List.length_nil] at hle; omega
          obtain ⟨fr, h1, hfr⟩ := hcell.row hnil
          rw [hfr hownro] at h1
          have hle' : off + (mk0 z.cells (n * z.cells.size)).length ≤ cs.length := by rw [hlen]; exact hle
          have h3 := run_storeCells_at c.P (ρ.blk b).n ((ρ.blk b).pre.length + off) S (concs ρ (mk0 z.cells (n * z.cells.size))) 0 _ w h1 (by simp [concs_length, Loc.row]; omega) (oneCells_ok ρ _ hone)
          have hput : (List.take ((ρ.blk b).pre.length + off + 0) ((ρ.blk b).row (concs ρ cs)).toArray.toList ++ concs ρ (mk0 z.cells (n * z.cells.size)) ++ List.drop ((ρ.blk b).pre.length + off + 0 + (concs ρ (mk0 z.cells (n * z.cells.size))).length) ((ρ.blk b).row (concs ρ cs)).toArray.toList) = (ρ.blk b).row (concs ρ (putAt cs off (mk0 z.cells (n * z.cells.size)))) := by
            simp only [Nat.add_zero]
            rw [row_put _ _ _ (by rw [concs_length, concs_length]; exact hle'), concs_putAt]
          rw [hput] at h3
          have hzc : (Builtin.zeroCells z.cells n).toList = concs ρ (mk0 z.cells (n * z.cells.size)) := by simp [Builtin.zeroCells, mk0, concs_map, V.conc]
          refine ⟨w.setRow (ρ.blk b).n ((ρ.blk b).row (concs ρ (putAt cs off (mk0 z.cells (n * z.cells.size))))).toArray, ?_, ?_, ?_⟩
          · subst hv
            obtain ⟨m, rfl⟩ : ∃ m, n = m + 1 := ⟨n - 1, by omega⟩
            have r1 := pureRun_run hz w
            generalize w.setRow (ρ.blk b).n ((ρ.blk b).row (concs ρ (putAt cs off (mk0 z.cells ((m + 1) * z.cells.size))))).toArray = w2 at h3 ⊢
            generalize concs ρ (mk0 z.cells ((m + 1) * z.cells.size)) = zs at hzc h3
            simp only [Value.cells] at hzc
            simp [Builtin.clear_, go_sem, hT, r0, r1, hzc, h3]
          · refine relH_set RH hB hwr hnil (by omega) (fun B' e => ?_) (fun k hk => setRow_heap _ _ _ _ hk)
            cases e
            refine ⟨?_, fun hn' => (by rw [hn'] at hnil; cases hnil), fun _ => ⟨(0, 0), setRow_this _ _ _ _ _ h1, fun _ => rfl⟩, fun sz hsz' => ?_⟩
            · refine unders_append (unders_append ?_ ?_) ?_
              · exact unders_sub hsco fun x hx => List.mem_of_mem_take hx
              · refine (unders_iff _ _).2 fun x hx => ?_
                simp only [mk0, List.mem_map] at hx
                obtain ⟨i, _, rfl⟩ := hx
                rfl
              · exact unders_sub hsco fun x hx => List.mem_of_mem_drop hx
            · obtain ⟨r1, r2⟩ := hcell.room sz hsz'
              exact ⟨r1, fun hn' => by rw [putAt_len hle']; exact r2 hn'⟩
          · exact fr_set hB hwr hnil hlim rfl rfl rfl (by simp [World.setRow]) (fun k _ hk => setRow_heap _ _ _ _ hk)
        · cases hb
    · cases hb
theorem clearS_run (RH : RelH c ρ h w) (RT : RelT ρ h.length t a) (hL : c.L ≤ lim) (hlh : lim ≤ h.length) {args : Array Operand} {ats : Array TypeId} {h' : Heap} (hv : clearS c lim t h args.toList ats = some h') :
    ∃ w', (execOp a.eval ⟨dst, .call ⟨.builtin .clear, args, ats⟩, ty, pos, after, guard⟩).run c.P w = .ok (.value (.tuple #[])) w' ∧ RelH c ρ h' w' ∧ Fr lim h.length ρ h w ρ h' w' := by
  unfold clearS at hv
  split at hv
  · rename_i x T hargs hT
    have ha : args = #[x] := by apply Array.toList_inj.1; simpa using hargs
    subst ha
    have up : ∀ {v : Value}, a.eval x = v → (∃ w', (Builtin.clear_ ats ty #[v]).run c.P w = .ok (.tuple #[]) w' ∧ RelH c ρ h' w' ∧ Fr lim h.length ρ h w ρ h' w') → ∃ w', (execOp a.eval ⟨dst, .call ⟨.builtin .clear, #[x], ats⟩, ty, pos, after, guard⟩).run c.P w = .ok (.value (.tuple #[])) w' ∧ RelH c ρ h' w' ∧ Fr lim h.length ρ h w ρ h' w' := fun {v} ex ⟨w', h1, h2, h3⟩ => by
      refine ⟨w', ?_, h2, h3⟩
      generalize a.eval = g at ex ⊢
      simp [execOp, resolve, go_sem, invoke, builtin, ex, h1]
    split at hv
    · rename_i p q u hx hu
      simp only [Option.some.injEq] at hv
      subst hv
      have ex := opnd_eval RH RT hx
      simp only [V.conc] at ex
      refine up ex ⟨w, ?_, RH, Fr.refl _ _ _ _ hlh (Nat.le_refl _)⟩
      have r0 := pureRun_run hu w
      have hT' : ats[0]? = some T := hT
      cases q <;> simp [Builtin.clear_, go_sem, hT', r0]
    · rename_i b n e hx hu
      have ex := opnd_eval RH RT hx
      simp only [V.conc, slcOf] at ex
      refine up ex (clearB_run (cap := (ρ.blk b).cap) RH hL hlh hT hu hv ?_)
      split
      · rename_i hn
        exact .inl ⟨hn.1, _, _, rfl⟩
      · exact .inr (by simp)
    · rename_i b off n k e hx hu
      have ex := opnd_eval RH RT hx
      simp only [V.conc, subOf] at ex
      refine up ex (clearB_run (cap := k) RH hL hlh hT hu hv ?_)
      split
      · rename_i hn
        exact .inl ⟨hn.1.1, _, _, rfl⟩
      · exact .inr rfl
    · cases hv
  · cases hv
theorem ents_erase : ∀ (ks vs : List Value) (bs : List Nat) (i : Nat), ks.length = vs.length → ks.length = bs.length → (mapEnts ks vs bs).eraseIdx i = mapEnts (ks.eraseIdx i) (vs.eraseIdx i) (bs.eraseIdx i)
  | [], vs, bs, i, _, _ => rfl
  | e :: ks, [], bs, i, h1, h2 => by simp at h1
  | e :: ks, v :: vs, [], i, h1, h2 => by simp at h2
  | e :: ks, v :: vs, b :: bs, 0, h1, h2 => rfl
  | e :: ks, v :: vs, b :: bs, i + 1, h1, h2 => by
    have ih := ents_erase ks vs bs i (by simpa using h1) (by simpa using h2)
    show _ :: _ = _ :: _
    exact congrArg _ ih
theorem ents_keyed {kv : Value} : ∀ (ks vs : List Value) (bs : List Nat) (i : Nat), (mapEnts ks vs bs).modify i (fun e => { e with key := kv }) = mapEnts (ks.set i kv) vs bs
  | [], vs, bs, i => by cases i <;> rfl
  | e :: ks, [], bs, i => by cases i <;> simp [mapEnts]
  | e :: ks, u :: vs, [], i => by cases i <;> simp [mapEnts]
  | e :: ks, u :: vs, b :: bs, 0 => rfl
  | e :: ks, u :: vs, b :: bs, i + 1 => by
    have ih := ents_keyed (kv := kv) ks vs bs i
    show _ :: _ = _ :: _
    exact congrArg _ ih
theorem ents_valued {v : Value} : ∀ (ks vs : List Value) (bs : List Nat) (i : Nat), (mapEnts ks vs bs).modify i (fun e => { e with val := v }) = mapEnts ks (vs.set i v) bs
  | [], vs, bs, i => by cases i <;> rfl
  | e :: ks, [], bs, i => by cases i <;> simp [mapEnts]
  | e :: ks, u :: vs, [], i => by cases i <;> simp [mapEnts]
  | e :: ks, u :: vs, b :: bs, 0 => rfl
  | e :: ks, u :: vs, b :: bs, i + 1 => by
    have ih := ents_valued (v := v) ks vs bs i
    show _ :: _ = _ :: _
    exact congrArg _ ih
theorem ents_born : ∀ (ks vs : List Value) (bs : List Nat) (i : Nat), ks.length = vs.length → ks.length = bs.length → ((mapEnts ks vs bs)[i]?).map (·.born) = bs[i]?
  | [], vs, bs, i, _, h2 => by
    have : bs = [] := List.eq_nil_of_length_eq_zero (by simpa using h2.symm)
    subst this; rfl
  | e :: ks, [], bs, i, h1, h2 => by simp at h1
  | e :: ks, v :: vs, [], i, h1, h2 => by simp at h2
  | e :: ks, v :: vs, b :: bs, 0, h1, h2 => rfl
  | e :: ks, v :: vs, b :: bs, i + 1, h1, h2 => by
    have ee : mapEnts (e :: ks) (v :: vs) (b :: bs) = ⟨e, v, b⟩ :: mapEnts ks vs bs := rfl
    rw [ee, List.getElem?_cons_succ, List.getElem?_cons_succ]
    exact ents_born ks vs bs i (by simpa using h1) (by simpa using h2)
theorem bornAt_find {n : Int} : ∀ (ks vs : List Value) (bs : List Nat) (i r : Nat), ks.length = vs.length → ks.length = bs.length → bornAt n bs i = some r → i ≤ r ∧ (mapEnts ks vs bs).findIdx? (fun e => (e.born : Int) == n) = some (r - i)
  | [], vs, bs, i, r, _, h2, h => by
    have : bs = [] := List.eq_nil_of_length_eq_zero (by simpa using h2.symm)
    subst this; cases h
  | e :: ks, [], bs, i, r, h1, h2, h => by simp at h1
  | e :: ks, v :: vs, [], i, r, h1, h2, h => by simp at h2
  | e :: ks, v :: vs, b :: bs, i, r, h1, h2, h => by
    have ee : mapEnts (e :: ks) (v :: vs) (b :: bs) = ⟨e, v, b⟩ :: mapEnts ks vs bs := rfl
    simp only [bornAt] at h
    rw [ee, List.findIdx?_cons]
    split at h
    · rename_i hb
      simp only [Option.some.injEq] at h
      subst h
      simp [hb]
    · rename_i hb
      obtain ⟨k1, k2⟩ := bornAt_find ks vs bs (i + 1) r (by simpa using h1) (by simpa using h2) h
      refine ⟨by omega, ?_⟩
      simp only [hb, Bool.false_eq_true, if_false, k2, Option.map_some]
      congr 1
      omega
theorem unders_erase {n : Nat} {l : List V} {i : Nat} (h : unders n l = true) : unders n (l.eraseIdx i) = true := by
  rw [unders_iff] at h ⊢
  exact fun x hx => h x (List.mem_of_mem_eraseIdx hx)
theorem concs_erase (ρ : Ren) : ∀ (l : List V) (i : Nat), concs ρ (l.eraseIdx i) = (concs ρ l).eraseIdx i
  | [], i => by simp [concs]
  | x :: l, 0 => rfl
  | x :: l, i + 1 => by
    show x.conc ρ :: concs ρ (l.eraseIdx i) = x.conc ρ :: (concs ρ l).eraseIdx i
    rw [concs_erase ρ l i]
theorem delete_run (RH : RelH c ρ h w) (RT : RelT ρ h.length t a) (hL : c.L ≤ lim) {args : Array Operand} {ats : Array TypeId} {h' : Heap} (hv : deleteV c lim t h args.toList ats = some h') :
    ∃ w', (execOp a.eval ⟨dst, .call ⟨.builtin .delete, args, ats⟩, ty, pos, after, guard⟩).run c.P w = .ok (.value (.tuple #[])) w' ∧ RelH c ρ h' w' ∧ Fr lim h.length ρ h w ρ h' w' := by
  unfold deleteV at hv
  split at hv
  · rename_i x y T hargs hT
    split at hv
    · rename_i b kv kt el hx hy hu
      split at hv
      · rename_i hlim
        split at hv
        · rename_i ks vs bs k hm
          obtain ⟨hB, l1, l2⟩ := mapAt_ok hm
          obtain ⟨hn, hw⟩ := RH.cell b _ hB
          have hun : unders h.length vs = true := RH.sco b _ hB
          have ex := opnd_eval RH RT hx
          have ey := opnd_eval RH RT hy
          simp only [V.conc] at ex ey
          have r0 := pureRun_run hu w
          have lc : ks.length = (concs ρ vs).length := by rw [concs_length]; exact l1
          have hg : (getObj (ρ.blk b).n).run c.P w = .ok (.map (mapEnts ks (concs ρ vs) bs).toArray k) w := by simp [getObj, Sem.run, hw]
          have hs : ∀ o, (setObj (ρ.blk b).n o).run c.P w = .ok () (w.putObj (ρ.blk b).n o) := fun o => by simp [setObj, Sem.run, hw, World.putObj]
          have ha : args = #[x, y] := by apply Array.toList_inj.1; simpa using hargs
          subst ha
          have hT' : ats[0]? = some T := hT
          split at hv
          · rename_i i hf
            simp only [Option.some.injEq] at hv
            subst hv
            obtain ⟨f1, f2, f3⟩ := findV_run (vs := concs ρ vs) (bs := bs) lc l2 hf w
            have hee := ents_erase ks (concs ρ vs) bs i lc l2
            refine ⟨w.putObj (ρ.blk b).n (.map (mapEnts (ks.eraseIdx i) (concs ρ (vs.eraseIdx i)) (bs.eraseIdx i)).toArray k), ?_, mapPut_rel RH hB (by omega) hlim (unders_erase hun)⟩
            rw [concs_erase, ← hee]
            generalize a.eval = g at ex ey ⊢
            generalize hA : mapEnts ks (concs ρ vs) bs = A at *
            simp only [Option.map_some] at f1
            simp [execOp, resolve, go_sem, invoke, builtin, Builtin.delete_, hT', ex, ey, r0, hg, hs, f1, f2]
          · rename_i hf
            simp only [Option.some.injEq] at hv
            subst hv
            obtain ⟨f1, f2, f3⟩ := findV_run (vs := concs ρ vs) (bs := bs) lc l2 hf w
            refine ⟨w.putObj (ρ.blk b).n (.map (mapEnts ks (concs ρ vs) bs).toArray k), ?_, mapPut_rel RH hB (by omega) hlim hun⟩
            generalize a.eval = g at ex ey ⊢
            generalize hA : mapEnts ks (concs ρ vs) bs = A at *
            simp only [Option.map_none] at f1
            simp [execOp, resolve, go_sem, invoke, builtin, Builtin.delete_, hT', ex, ey, r0, hg, hs, f1, f2]
          · cases hv
        · cases hv
      · cases hv
    · cases hv
  · cases hv
theorem entry_run (RH : RelH c ρ h w) (RT : RelT ρ h.length t a) (hL : c.L ≤ lim) {T : TypeId} {m y : Operand} {v : V} {h' : Heap} (hv : entryV c lim t h T m y = some (v, h')) :
    ∃ w', (execOp a.eval ⟨dst, .mapEntry T m y, ty, pos, after, guard⟩).run c.P w = .ok (.value (v.conc ρ)) w' ∧ RelH c ρ h' w' ∧ Fr lim h.length ρ h w ρ h' w' ∧ v.under h'.length = true := by
  unfold entryV at hv
  split at hv
  · rename_i b kv kt el hx hy hu
    split at hv
    · rename_i hlim
      split at hv
      · rename_i ks vs bs k hm
        obtain ⟨hB, l1, l2⟩ := mapAt_ok hm
        obtain ⟨hn, hw⟩ := RH.cell b _ hB
        have hun : unders h.length vs = true := RH.sco b _ hB
        have ex := opnd_eval RH RT hx
        have ey := opnd_eval RH RT hy
        simp only [V.conc] at ex ey
        have r0 := pureRun_run hu w
        have lc : ks.length = (concs ρ vs).length := by rw [concs_length]; exact l1
        have hg : (getObj (ρ.blk b).n).run c.P w = .ok (.map (mapEnts ks (concs ρ vs) bs).toArray k) w := by simp [getObj, Sem.run, hw]
        have hs : ∀ o, (setObj (ρ.blk b).n o).run c.P w = .ok () (w.putObj (ρ.blk b).n o) := fun o => by simp [setObj, Sem.run, hw, World.putObj]
        split at hv
        · rename_i i hf
          split at hv
          · rename_i k0 v0 bn hk0 hv0 hb0
            split at hv
            · rename_i hsb
              simp only [Option.some.injEq, Prod.mk.injEq] at hv
              obtain ⟨rfl, rfl⟩ := hv
              obtain ⟨f1, f2, f3⟩ := findV_run (vs := concs ρ vs) (bs := bs) lc l2 hf w
              have hki := ents_key ks (concs ρ vs) bs i lc l2
              have hbi := ents_born ks (concs ρ vs) bs i lc l2
              rw [hk0] at hki
              rw [hb0] at hbi
              have hbi' : ((mapEnts ks (concs ρ vs) bs)[i]?).map (fun x => (x.born : Int)) = some (bn : Int) := by
                have := congrArg (Option.map fun n : Nat => (n : Int)) hbi
                rw [Option.map_map] at this
                exact this
              have hkd := ents_keyed (kv := kv) ks (concs ρ vs) bs i
              have e0 : (concs ρ vs).getD i undef = v0.conc ρ := by rw [List.getD_eq_getElem?_getD, concs_get, hv0]; rfl
              simp only [Option.map_some, e0] at f1
              have hu0 : v0.under h.length = true := (unders_iff _ _).1 hun v0 (List.mem_of_getElem? hv0)
              refine ⟨w.putObj (ρ.blk b).n (.map (mapEnts (ks.set i kv) (concs ρ vs) bs).toArray k), ?_, (mapPut_rel RH hB (by omega) hlim hun).1, (mapPut_rel RH hB (by omega) hlim hun).2, by rw [List.length_set]; exact mkTup_under (by simp [unders, hu0, V.under])⟩
              rw [← hkd, mkTup_conc]
              generalize a.eval = g at ex ey ⊢
              generalize hA : mapEnts ks (concs ρ vs) bs = A at *
              simp [execOp, Instr.mapEntry, go_sem, ex, ey, r0, hg, hs, f1, f2, Instr.keyThatStays, hki, hbi', hsb, concs, V.conc]
            · cases hv
          · cases hv
        · rename_i hf
          split at hv
          · rename_i z hz
            simp only [Option.some.injEq, Prod.mk.injEq] at hv
            obtain ⟨rfl, rfl⟩ := hv
            obtain ⟨f1, f2, f3⟩ := findV_run (vs := concs ρ vs) (bs := bs) lc l2 hf w
            have rz := pureRun_run hz
            have hp := ents_push (kv := kv) (v := z) (k := k) lc l2
            have hun' : unders h.length (vs ++ [.raw z]) = true := unders_append hun rfl
            refine ⟨w.putObj (ρ.blk b).n (.map (mapEnts (ks ++ [kv]) (concs ρ (vs ++ [.raw z])) (bs ++ [k])).toArray (k + 1)), ?_, (mapPut_rel RH hB (by omega) hlim hun').1, (mapPut_rel RH hB (by omega) hlim hun').2, mkTup_under (by simp [unders, V.under])⟩
            rw [concs_append, show concs ρ [V.raw z] = [z] from rfl, ← hp, mkTup_conc]
            generalize a.eval = g at ex ey ⊢
            generalize hA : mapEnts ks (concs ρ vs) bs = A at *
            simp only [Option.map_none] at f1
            simp [execOp, Instr.mapEntry, go_sem, ex, ey, r0, hg, hs, f1, f2, rz, concs, V.conc]
          · cases hv
        · cases hv
      · cases hv
    · cases hv
  · cases hv
theorem entryStore_run (RH : RelH c ρ h w) (RT : RelT ρ h.length t a) (hL : c.L ≤ lim) {T : TypeId} {m s x : Operand} {h' : Heap} (hv : entryStoreV c lim t h m s x = some h') :
    ∃ w', (execOp a.eval ⟨dst, .entryStore T m s x, ty, pos, after, guard⟩).run c.P w = .ok .skip w' ∧ RelH c ρ h' w' ∧ Fr lim h.length ρ h w ρ h' w' := by
  unfold entryStoreV at hv
  split at hv
  · rename_i b kd n v hx hy hz
    split at hv
    · rename_i hlim
      split at hv
      · rename_i ks vs bs k hm
        obtain ⟨hB, l1, l2⟩ := mapAt_ok hm
        obtain ⟨hn, hw⟩ := RH.cell b _ hB
        have hun : unders h.length vs = true := RH.sco b _ hB
        have ex := opnd_eval RH RT hx
        have ey := opnd_eval RH RT hy
        have ez := opnd_eval RH RT hz
        have uz := opnd_under RH RT hz
        simp only [V.conc] at ex ey
        have lc : ks.length = (concs ρ vs).length := by rw [concs_length]; exact l1
        have hg : (getObj (ρ.blk b).n).run c.P w = .ok (.map (mapEnts ks (concs ρ vs) bs).toArray k) w := by simp [getObj, Sem.run, hw]
        have hs : ∀ o, (setObj (ρ.blk b).n o).run c.P w = .ok () (w.putObj (ρ.blk b).n o) := fun o => by simp [setObj, Sem.run, hw, World.putObj]
        split at hv
        · rename_i i hf
          simp only [Option.some.injEq] at hv
          subst hv
          obtain ⟨_, f1⟩ := bornAt_find ks (concs ρ vs) bs 0 i lc l2 hf
          rw [Nat.sub_zero] at f1
          have hvd := ents_valued (v := v.conc ρ) ks (concs ρ vs) bs i
          have hun' : unders h.length (vs.set i v) = true := by
            rw [unders_iff] at hun ⊢
            intro z hz
            rcases List.mem_or_eq_of_mem_set hz with h1 | rfl
            · exact hun z h1
            · exact uz
          refine ⟨w.putObj (ρ.blk b).n (.map (mapEnts ks (concs ρ (vs.set i v)) bs).toArray k), ?_, mapPut_rel RH hB (by omega) hlim hun'⟩
          rw [concs_set, ← hvd]
          generalize a.eval = g at ex ey ez ⊢
          generalize hA : mapEnts ks (concs ρ vs) bs = A at *
          simp [execOp, Instr.entryStore, go_sem, ex, ey, ez, hg, hs, f1, asInt]
        · cases hv
      · cases hv
    · cases hv
  · cases hv
theorem lenM_run (RH : RelH c ρ h w) (RT : RelT ρ h.length t a) {args : Array Operand} {ats : Array TypeId} {v : V} (hv : lenM c t h args.toList ats = some v) :
    (execOp a.eval ⟨dst, .call ⟨.builtin .len, args, ats⟩, ty, pos, after, guard⟩).run c.P w = .ok (.value (v.conc ρ)) w ∧ v.under h.length = true := by
  unfold lenM at hv
  split at hv
  · rename_i x T hargs hT
    split at hv
    · rename_i b kt el hx hu
      split at hv
      · rename_i ks vs bs k hm
        simp only [Option.some.injEq] at hv
        subst hv
        refine ⟨?_, rfl⟩
        obtain ⟨hB, l1, l2⟩ := mapAt_ok hm
        obtain ⟨hn, hw⟩ := RH.cell b _ hB
        have ex := opnd_eval RH RT hx
        simp only [V.conc] at ex
        have r0 := pureRun_run hu w
        have hg : (getObj (ρ.blk b).n).run c.P w = .ok (.map (mapEnts ks (concs ρ vs) bs).toArray k) w := by simp [getObj, Sem.run, hw]
        have ha : args = #[x] := by apply Array.toList_inj.1; simpa using hargs
        subst ha
        have hT' : ats[0]? = some T := hT
        have hlen : (mapEnts ks (concs ρ vs) bs).length = ks.length := by simp [mapEnts, concs_length]; omega
        generalize a.eval = g at ex ⊢
        simp [execOp, resolve, go_sem, invoke, builtin, Builtin.len_, hT', ex, r0, hg, V.conc, hlen]
      · cases hv
    · cases hv
  · cases hv
end
end
end Go.Proofs.Ytcibaankajfhlaa.E2
end
section
namespace Go.Proofs.Ytcibaankajfhlaa.E2
open Go Go.RowKit
section
variable {c : Cfg} {ρ : Ren} {h : Heap} {w : World} {t : List V} {a : Act} {lim : Nat}
variable {dst : Option Tmp} {ty : TypeId} {pos : String} {after : Array Edge} {guard : Option (Nat × Bool)}
theorem bytes_conc (ρ : Ren) (s : ByteArray) : concs ρ (bytesOf s) = s.data.toList.map fun b => Value.int .u8 b.toNat := by
  rw [concs_map, bytesOf, List.map_map]; rfl
theorem bytes_under (n : Nat) (s : ByteArray) : unders n (bytesOf s) = true := by
  rw [unders_iff]
  intro x hx
  obtain ⟨b, _, rfl⟩ := List.mem_map.1 hx
  rfl
theorem bytes_run (RH : RelH c ρ h w) (RT : RelT ρ h.length t a) (hlh : lim ≤ h.length) {src des : TypeId} {x : Operand} {e : TypeId} {s : ByteArray} (hv : bytesV c t src des x = some (e, s)) :
    ∃ l w', (execOp a.eval ⟨dst, .convert src des x, ty, pos, after, guard⟩).run c.P w = .ok (.value ((V.slo h.length s.size).conc (ρ.push h.length l))) w' ∧ RelH c (ρ.push h.length l) (h ++ [some (.cells (bytesOf s) e .ro)]) w' ∧ Fr lim h.length ρ h w (ρ.push h.length l) (h ++ [some (.cells (bytesOf s) e .ro)]) w' := by
  unfold bytesV at hv
  split at hv
  · rename_i s' u e' hx hs hd
    split at hv
    · rename_i he
      simp only [Option.some.injEq, Prod.mk.injEq] at hv
      obtain ⟨rfl, rfl⟩ := hv
      have ex := opnd_eval RH RT hx
      simp only [V.conc] at ex
      have hr := Lib.run_convert_string_bytes (P := c.P) w src des e' s' hs hd he
      refine ⟨⟨w.heap.size, [], List.replicate (grownCap w s'.size 0 e' - s'.size) (.int .u8 0), grownCap w s'.size 0 e', false⟩, Lib.bytesWorld w e' s', ?_, ?_, ?_⟩
      · generalize a.eval = g at ex ⊢
        simp only [execOp, ex]
        generalize convert src des (.string s') = q at hr ⊢
        simp [go_sem, hr, V.conc, push_new, slcOf]
      · refine relH_push RH (bytes_under _ _) ⟨fun hn => (by cases hn), fun _ => ⟨((Lib.bytesCells w e' s').size, (Lib.bytesCells w e' s').size + 1), ?_, fun hn => absurd rfl hn⟩, fun sz hsz => (by cases hsz)⟩ (fun i hi => Lib.bytesWorld_at_old w e' s' _ (RH.lt hi)) (fun _ i hi he => ?_)
        · show (Lib.bytesWorld w e' s').heap[w.heap.size]? = _
          rw [Lib.bytesWorld_at_new, bytes_conc]
          simp [Lib.bytesCells, Loc.row]
        · have := RH.lt hi
          simp only at he
          omega
      · exact fr_push hlh rfl rfl rfl (by rw [Lib.bytesWorld_size]; omega) (fun k hk => Lib.bytesWorld_at_old w e' s' k hk) (fun _ => Nat.le_refl _)
    · cases hv
  · cases hv
theorem u8s_ok : ∀ (l : List V) (ns : List Int), u8s l = some ns → ∀ ρ : Ren, concs ρ l = ns.map (Value.int .u8)
  | [], ns, h, ρ => by cases h; rfl
  | x :: l, ns, h, ρ => by
    unfold u8s at h
    split at h
    · rename_i n
      rw [Option.map_eq_some_iff] at h
      obtain ⟨m, hm, rfl⟩ := h
      simp only [concs, V.conc, List.map_cons, u8s_ok l m hm ρ]
    · cases h
theorem str_cells {P : Program} {b : Nat} {cs : List V} {T : TypeId} {own : Own} (hcell : CellsOk ρ (ρ.blk b) w cs T own) {off l : Nat} (hl : off + l ≤ cs.length) {ns : List Int} (hns : u8s ((cs.drop off).take l) = some ns) (q : Nat) :
    (Conv.bytesToString (.slice (some ⟨(ρ.blk b).n, (ρ.blk b).pre.length + off, none⟩) l q)).run P w = .ok (.string (ns.foldl (fun r n => r.push (UInt8.ofNat n.toNat)) ByteArray.empty)) w := by
  have hu := u8s_ok _ _ hns ρ
  have h7 : (ns.map (Value.int .u8)).length = l := by
    rw [← hu, concs_length, List.length_take, List.length_drop]; omega
  refine run_bytesToString w _ l _ ns ?_
  have h6 := run_loadCells_list (P := P) w ⟨(ρ.blk b).n, (ρ.blk b).pre.length + off, none⟩ (ns.map (Value.int .u8)) (fun j u hu' => by
    have hj : j < l := by
      have := (List.getElem?_eq_some_iff.1 hu').1
      omega
    have hn : (ρ.blk b).nil = false := by
      cases hn : (ρ.blk b).nil with
      | false => rfl
      | true =>
        have := hcell.nil hn
        subst this
        simp at hl
        omega
    obtain ⟨fr, h4, h5⟩ := hcell.row hn
    rw [addr_add]
    simp only [World.cell?, h4]
    rw [← hu] at hu'
    rw [List.getElem?_toArray, Nat.add_assoc, row_get _ _ (by rw [concs_length]; omega)]
    rw [concs_map, List.map_take, List.getElem?_take, if_pos hj, List.map_drop, List.getElem?_drop, ← concs_map] at hu'
    exact hu')
  rw [h7] at h6
  exact h6
theorem str_run (RH : RelH c ρ h w) (RT : RelT ρ h.length t a) {src des : TypeId} {x : Operand} {s : ByteArray} (hv : strV c h t src des x = some s) :
    (execOp a.eval ⟨dst, .convert src des x, ty, pos, after, guard⟩).run c.P w = .ok (.value (.string s)) w := by
  have fin : ∀ {e : TypeId} {ad : Option Addr} {l q : Nat}, c.P.underlying src = some (.slice e) → c.P.underlying des = some .string → c.P.underlying e = some (.int .u8) → a.eval x = .slice ad l q → (Conv.bytesToString (.slice ad l q)).run c.P w = .ok (.string s) w →
      (execOp a.eval ⟨dst, .convert src des x, ty, pos, after, guard⟩).run c.P w = .ok (.value (.string s)) w := fun {e ad l q} hs hd he ex k2 => by
    have hr := run_convert_bytes_string (P := c.P) w src des e ad l q hs he hd
    rw [k2] at hr
    generalize a.eval = g at ex ⊢
    simp only [execOp, ex]
    generalize convert src des (.slice ad l q) = z at hr ⊢
    simp [go_sem, hr]
  unfold strV at hv
  split at hv
  · rename_i b l e hx hs hd
    split at hv
    · rename_i cs T own he hb
      split at hv
      · rename_i hl
        rw [Option.map_eq_some_iff] at hv
        obtain ⟨ns, hns, rfl⟩ := hv
        have ex := opnd_eval RH RT hx
        simp only [V.conc] at ex
        have hcell := RH.cell b _ hb
        have hc0 := str_cells (P := c.P) hcell (off := 0) (l := l) (by omega) (by simpa using hns)
        unfold slcOf at ex
        split at ex
        · rename_i h0
          obtain ⟨rfl, hn⟩ := h0
          have h3 := hcell.nil hn
          subst h3
          simp [u8s] at hns
          subst hns
          exact fin hs hd he ex rfl
        · exact fin hs hd he ex (hc0 _)
      · cases hv
    · cases hv
  · rename_i b off l k e hx hs hd
    split at hv
    · rename_i cs T own he hb
      split at hv
      · rename_i hl
        rw [Option.map_eq_some_iff] at hv
        obtain ⟨ns, hns, rfl⟩ := hv
        have ex := opnd_eval RH RT hx
        simp only [V.conc] at ex
        have hcell := RH.cell b _ hb
        have hc0 := str_cells (P := c.P) hcell hl hns
        unfold subOf at ex
        split at ex
        · rename_i h0
          obtain ⟨⟨rfl, rfl⟩, hn⟩ := h0
          have h3 := hcell.nil hn
          subst h3
          simp [u8s] at hns
          subst hns
          exact fin hs hd he ex rfl
        · exact fin hs hd he ex (hc0 _)
      · cases hv
    · cases hv
  · cases hv
end
end Go.Proofs.Ytcibaankajfhlaa.E2
end
section
namespace Go.Proofs.Ytcibaankajfhlaa.E2
open Go Go.RowKit
def FW (r : Option Nat) : Fence := { Fence.wide with round := r }
def Callable (P : Program) (f : FuncId) : Prop := ∃ fn, P.funcs[f]? = some fn ∧ (fn.name == "runtime.NumGoroutine") = false ∧ fn.body.isNone = false
section
variable {c : Cfg} {ρ : Ren} {h : Heap} {w : World} {t : List V} {a : Act} {lim : Nat} {r : Option Nat}
theorem upIn {o : Oper} {K : Act → World → Prop} {Q : Exit → Act → World → Prop} {P : Program} (hd : ∀ k, o.op ≠ .defer k) (hh : o.uponIn (FW r) 0 P a K Q ((execOp a.eval o).run P w)) : o.wpIn (FW r) 0 P a w K Q :=
  ⟨fun _ _ => trivial, by rw [Oper.semAt_eq _ _ _ hd]; exact hh⟩
theorem value_step {o : Oper} {v : Value} {w' : World} {K : Act → World → Prop} {Q : Exit → Act → World → Prop} {P : Program} (hd : ∀ k, o.op ≠ .defer k) (hr : (execOp a.eval o).run P w = .ok (.value v) w') (hK : K (a.put o.dst v) w') : o.wpIn (FW r) 0 P a w K Q :=
  upIn hd (by rw [hr]; exact hK)
theorem skip_step {o : Oper} {w' : World} {K : Act → World → Prop} {Q : Exit → Act → World → Prop} {P : Program} (hd : ∀ k, o.op ≠ .defer k) (hr : (execOp a.eval o).run P w = .ok .skip w') (hK : K (a.put o.dst undef) w') : o.wpIn (FW r) 0 P a w K Q :=
  upIn hd (by rw [hr]; exact hK)
theorem calls_step {f : Operand} {args : Array Operand} {ats : Array TypeId} {dst : Option Tmp} {ty : TypeId} {pos : String} {after : Array Edge} {guard : Option (Nat × Bool)} {g : FuncId} {first cap : List Value} {K : Act → World → Prop} {Q : Exit → Act → World → Prop}
    (hf : a.eval f = .func (.func g) first.toArray cap.toArray) (hg : Callable c.P g) (R : Value → World → Prop)
    (hcall : Calls c.P g (first ++ args.toList.map a.eval ++ cap).toArray w fun e w' => ∃ v, e = .returned v ∧ R v w') (hK : ∀ v w', R v w' → K (a.put dst v) w') :
    (⟨dst, .call ⟨.value f, args, ats⟩, ty, pos, after, guard⟩ : Oper).wpIn (FW r) 0 c.P a w K Q := by
  obtain ⟨fn, h1, h2, h3⟩ := hg
  have hrun : (execOp a.eval (⟨dst, .call ⟨.value f, args, ats⟩, ty, pos, after, guard⟩ : Oper)).run c.P w = .ok (.enter g (first ++ args.toList.map a.eval ++ cap).toArray) w := by
    have e : (first.toArray ++ args.map a.eval ++ cap.toArray) = (first ++ args.toList.map a.eval ++ cap).toArray := by
      apply Array.toList_inj.1; simp
    rw [← e]
    clear e
    generalize a.eval = ev at hf ⊢
    have h2' : ¬ fn.name = "runtime.NumGoroutine" := by simpa using h2
    have h3' : ¬ fn.body = none := by intro hn; rw [hn] at h3; cases h3
    simp [execOp, resolve, go_sem, hf, Deferred.ofValue, invoke, callFunc, h1, h2', h3']
  refine upIn (by intro k; simp) ?_
  rw [hrun]
  refine ⟨fun hn => (by cases hn), ?_⟩
  have hcall' : CallsIn (FW r) 0 c.P g (first ++ args.toList.map a.eval ++ cap).toArray w fun e w' => ∃ v, e = .returned v ∧ R v w' := (callsIn_wide (n := 0)).2 hcall
  refine CallsIn.mono hcall' fun e w' he => ?_
  obtain ⟨v, rfl, hv⟩ := he
  exact hK v w' hv
theorem run_append_none {P : Program} (t ty e : TypeId) (i : TypeInfo) (ht : P.underlying t = some (.slice e)) (hi : P.info? e = some i) (v : Value) (n : Nat) (xs : List Value) {base : Nat} {size : Nat} (hown : w.ownsRow base e size v n xs) :
    (Builtin.append_ #[t, t] ty #[v, .slice none 0 0]).run P w = .ok v w := by
  rcases hown.2 with ⟨rfl, rfl⟩ | ⟨g, cap, cur, rfl, _, hg, hle, _⟩
  · simp [Builtin.append_, run_underlying ht, sizeOf, typeInfo, hi, Builtin.lenOf, Builtin.firstCells]
  · simp [Builtin.append_, run_underlying ht, sizeOf, typeInfo, hi, Builtin.lenOf, Builtin.firstCells, hle, storeCells]
theorem news_spec (RH : RelH c ρ h w) {sz : Nat} (hsz : 0 < sz) {x : V} {m : Nat} {news : List V} {cons : List Prop} (hx : newsV c h sz x = some (m, news, cons)) (hc : ∀ p ∈ cons, p) :
    unders h.length news = true ∧ oneCells news = true ∧ ((x.conc ρ = .slice none 0 0 ∧ m = 0 ∧ news = []) ∨ ∃ ad cap, x.conc ρ = .slice (some ad) m cap ∧ news.length = m * sz ∧ ∀ (j : Nat) (u : Value), (concs ρ news)[j]? = some u → w.cell? (ad.add j) = some u) := by
  unfold newsV at hx
  split at hx
  · simp only [Option.some.injEq, Prod.mk.injEq] at hx
    obtain ⟨rfl, rfl, rfl⟩ := hx
    exact ⟨rfl, rfl, .inl ⟨rfl, rfl, rfl⟩⟩
  · rename_i b m'
    split at hx
    · rename_i cs T own hb
      simp only [Option.some.injEq, Prod.mk.injEq] at hx
      obtain ⟨rfl, rfl, rfl⟩ := hx
      have h1 : m' * sz ≤ cs.length := owe_ok fun q hq => hc q (List.mem_append_left _ hq)
      have h2 : oneCells (cs.take (m' * sz)) = true := owe_ok fun q hq => hc q (List.mem_append_right _ hq)
      refine ⟨unders_sub (RH.sco b _ hb) fun x hx => List.mem_of_mem_take hx, h2, ?_⟩
      have hcell := RH.cell b _ hb
      cases hn : (ρ.blk b).nil with
      | true =>
        have h3 := hcell.nil hn
        subst h3
        have hm : m' = 0 := by
          rcases Nat.eq_zero_or_pos m' with h | h
          · exact h
          · have := Nat.mul_pos h hsz
            simp at h1; omega
        subst hm
        exact .inl ⟨by simp [V.conc, slcOf, hn], rfl, by simp⟩
      | false =>
        obtain ⟨fr, h4, _⟩ := hcell.row hn
        refine .inr ⟨_, _, by simp only [V.conc, slcOf, hn]; rw [if_neg (by simp)], by rw [List.length_take]; omega, fun j u hu => ?_⟩
        have hj : j < m' * sz := by
          have := (List.getElem?_eq_some_iff.1 hu).1
          rw [concs_length, List.length_take] at this
          omega
        rw [addr_add]
        simp only [World.cell?, h4]
        rw [List.getElem?_toArray, row_get _ _ (by rw [concs_length]; omega)]
        rw [concs_map, List.map_take, List.getElem?_take, if_pos hj, ← concs_map] at hu
        exact hu
    · cases hx
  · rename_i b off m' kk
    split at hx
    · rename_i cs T own hb
      simp only [Option.some.injEq, Prod.mk.injEq] at hx
      obtain ⟨rfl, rfl, rfl⟩ := hx
      have h1 : off + m' * sz ≤ cs.length := owe_ok fun q hq => hc q (List.mem_append_left _ hq)
      have h2 : oneCells ((cs.drop off).take (m' * sz)) = true := owe_ok fun q hq => hc q (List.mem_append_right _ hq)
      refine ⟨unders_sub (RH.sco b _ hb) fun x hx => List.mem_of_mem_drop (List.mem_of_mem_take hx), h2, ?_⟩
      have hcell := RH.cell b _ hb
      have hlen : ((cs.drop off).take (m' * sz)).length = m' * sz := by rw [List.length_take, List.length_drop]; omega
      cases hn : (ρ.blk b).nil with
      | true =>
        have h3 := hcell.nil hn
        subst h3
        have hm : m' = 0 := by
          rcases Nat.eq_zero_or_pos m' with h | h
          · exact h
          · have := Nat.mul_pos h hsz
            simp at h1; omega
        subst hm
        simp only [V.conc, subOf]
        split
        · exact .inl ⟨by simp, by simp, by simp⟩
        · exact .inr ⟨_, _, rfl, hlen, fun j u hu => by simp [concs] at hu⟩
      | false =>
        obtain ⟨fr, h4, _⟩ := hcell.row hn
        refine .inr ⟨_, _, by simp only [V.conc, subOf, hn]; rw [if_neg (by simp)], hlen, fun j u hu => ?_⟩
        have hj : j < m' * sz := by
          have := (List.getElem?_eq_some_iff.1 hu).1
          rw [concs_length, hlen] at this
          exact this
        rw [addr_add]
        simp only [World.cell?, h4]
        rw [List.getElem?_toArray, Nat.add_assoc, row_get _ _ (by rw [concs_length]; omega)]
        rw [concs_map, List.map_take, List.getElem?_take, if_pos hj, List.map_drop, List.getElem?_drop, ← concs_map] at hu
        exact hu
    · cases hx
  · cases hx
theorem own_spec (RH : RelH c ρ h w) {b n sz : Nat} (hsz : 0 < sz) {cs : List V} {e : TypeId} (hb : h[b]? = some (some (.cells cs e (.row sz)))) (hl : cs.length = n * sz) :
    w.ownsRow 0 e sz (slcOf (ρ.blk b) n) n (concs ρ cs) ∧ (slcOf (ρ.blk b) n).ownBlock = (if (ρ.blk b).nil = true then none else some (ρ.blk b).n) := by
  have hcell := RH.cell b _ hb
  cases hn : (ρ.blk b).nil with
  | true =>
    have h3 := hcell.nil hn
    subst h3
    have hm : n = 0 := by
      rcases Nat.eq_zero_or_pos n with h | h
      · exact h
      · have := Nat.mul_pos h hsz
        simp at hl; omega
    subst hm
    simp only [slcOf, hn, and_self, if_true]
    exact ⟨World.ownsRow_nil w 0 e sz, rfl⟩
  | false =>
    obtain ⟨fr, h4, h5⟩ := hcell.row hn
    obtain ⟨h6, h7⟩ := hcell.room sz rfl
    obtain ⟨h7, h8⟩ := h7 hn
    rw [h5 (by simp)] at h4
    have e1 : slcOf (ρ.blk b) n = .slice (some ⟨(ρ.blk b).n, 0, none⟩) n (ρ.blk b).cap := by
      simp only [slcOf, hn, h6]
      rw [if_neg (by simp)]
      rfl
    rw [e1]
    refine ⟨⟨by rw [concs_length, hl], .inr ⟨_, _, _, rfl, Nat.zero_le _, h4, ?_, h8, ?_, ?_⟩⟩, by simp [Value.ownBlock]⟩
    · rw [hl] at h7
      have : n * sz ≤ (ρ.blk b).cap * sz := by omega
      exact Nat.le_of_mul_le_mul_right this hsz
    · simp [Loc.row, h6, concs_length, h7]
    · simp only [Loc.row, h6, List.nil_append]
      rw [← hl, ← concs_length ρ cs]
      exact List.take_left
theorem append_rel {h1 : Heap} {w' : World} {xs : List V} {e : TypeId} {sz k : Nat} {v v' : Value} (RH : RelH c ρ h1 w) (hlen : h1.length = h.length) (hsz : 0 < sz) (hu : unders h.length xs = true) (hlh : lim ≤ h.length)
    (hsub : ∀ i, lw ρ h1 i → lw ρ h i)
    (hO : w'.ownsRow 0 e sz v' k (concs ρ xs)) (hg : w.grownBy w' v.ownBlock) (hv : v'.ownBlock = v.ownBlock ∨ v'.ownBlock = some w.heap.size)
    (hfar : ∀ g, v.ownBlock = some g → (∀ i, lv ρ h1 i → (ρ.blk i).n ≠ g) ∧ ∃ b, lim ≤ b ∧ lw ρ h b ∧ (ρ.blk b).n = g) :
    ∃ ρ', v' = (V.slo h.length k).conc ρ' ∧ ρ'.unk = ρ.unk ∧ RelH c ρ' (h1 ++ [some (.cells xs e (.row sz))]) w' ∧ Fr lim h.length ρ h w ρ' (h1 ++ [some (.cells xs e (.row sz))]) w' := by
  obtain ⟨hOl, hO2⟩ := hO
  rw [concs_length] at hOl
  have hold : ∀ i, lv ρ h1 i → w'.heap[(ρ.blk i).n]? = w.heap[(ρ.blk i).n]? := fun i hi => hg.block _ (RH.lt hi) fun e => (hfar _ e.symm).1 i hi rfl
  have build : ∀ l : Loc, slcOf l k = v' → (l.nil = false → v'.ownBlock = some l.n) → CellsOk (ρ.push h1.length l) l w' xs e (.row sz) →
      ∃ ρ', v' = (V.slo h.length k).conc ρ' ∧ ρ'.unk = ρ.unk ∧ RelH c ρ' (h1 ++ [some (.cells xs e (.row sz))]) w' ∧ Fr lim h.length ρ h w ρ' (h1 ++ [some (.cells xs e (.row sz))]) w' := fun l hl hn hB => by
    have place : l.nil = false → l.n = w.heap.size ∨ v.ownBlock = some l.n := fun hnl => by
      have := hn hnl
      rcases hv with h1 | h1
      · exact .inr (h1 ▸ this)
      · rw [this] at h1; exact .inl (Option.some.inj h1)
    refine ⟨ρ.push h1.length l, by simp only [V.conc]; rw [← hlen, push_new, hl], rfl, ?_, ?_⟩
    · refine relH_push RH ?_ hB hold fun hnl i hi => ?_
      · exact unders_mono (by omega) _ hu
      · rcases place hnl with h2 | h2
        · have := RH.lt hi; omega
        · exact (hfar _ h2).1 i hi
    · refine ⟨hg.os, hg.tape, hg.output, hg.size, fun k hk hn' => hg.block k hk fun e => ?_, fun i hi => push_old (by omega), by simp [hlen], fun i i1 i2 => ?_, fun i hi i2 => ?_⟩
      · obtain ⟨b, b1, b2, b3⟩ := (hfar _ e.symm).2
        exact hn' b b1 b2 b3
      · obtain ⟨C, k1, k2, k3⟩ := i2
        rcases get_push k1 with ⟨hlt, _⟩ | ⟨rfl, _⟩
        · omega
        · rw [push_new] at k3 ⊢
          rcases place k3 with h2 | h2
          · exact .inl (by omega)
          · obtain ⟨b, b1, b2, b3⟩ := (hfar _ h2).2
            exact .inr ⟨b, b1, b2, b3.symm⟩
      · obtain ⟨C, k1, k2, k3⟩ := i2
        rw [push_old (by omega)] at k3
        exact hsub i ⟨C, by rwa [List.getElem?_append_left (by omega)] at k1, k2, k3⟩
  have agr : ∀ l : Loc, concs (ρ.push h1.length l) xs = concs ρ xs := fun l => concs_agree (n := h1.length) (fun i hi => push_old hi) xs (by rw [hlen]; exact hu)
  rcases hO2 with ⟨rfl, hk⟩ | ⟨g, cap, cur, rfl, _, hgc, hle, hcm, hcs, htk⟩
  · subst hk
    have hx : xs = [] := List.eq_nil_of_length_eq_zero (by simpa using hOl)
    exact build ⟨0, [], [], 0, true⟩ (by simp [slcOf]) (fun hn => by cases hn) ⟨fun _ => hx, fun hn => (by cases hn), fun _ _ => ⟨rfl, fun hn => (by cases hn)⟩⟩
  · have hd : cur.toList = concs ρ xs ++ cur.toList.drop (k * sz) := by
      conv => lhs; rw [← List.take_append_drop (k * sz) cur.toList]
      rw [htk]
    refine build ⟨g, [], cur.toList.drop (k * sz), cap, false⟩ (by simp [slcOf]) (fun _ => rfl) ⟨fun hn => (by cases hn), fun _ => ⟨(0, 0), ?_, fun _ => rfl⟩, fun sz' hsz' => ?_⟩
    · rw [hgc]
      congr 2
      apply Array.toList_inj.1
      simp only [Loc.row, List.nil_append, agr]
      exact hd
    · cases hsz'
      refine ⟨rfl, fun _ => ⟨?_, hcm⟩⟩
      have h1 : cur.toList.length = cap * sz := by simpa using hcs
      have h2 : k * sz ≤ cap * sz := Nat.mul_le_mul_right _ hle
      show xs.length + (cur.toList.drop (k * sz)).length = cap * sz
      rw [List.length_drop, h1, hOl]
      omega
theorem append_run (RH : RelH c ρ h w) (hL : c.L ≤ lim) (hlh : lim ≤ h.length) {s x v : V} {ats : Array TypeId} {ty : TypeId} {h' : Heap} {cons : List Prop} (ha : appendV c lim h s x ats = some (v, h', cons)) (hc : ∀ p ∈ cons, p) :
    ∃ ρ' w', (Builtin.append_ ats ty #[s.conc ρ, x.conc ρ]).run c.P w = .ok (v.conc ρ') w' ∧ ρ'.unk = ρ.unk ∧ RelH c ρ' h' w' ∧ Fr lim h.length ρ h w ρ' h' w' ∧ v.under h'.length = true := by
  unfold appendV at ha
  split at ha
  · rename_i T T' hats
    split at ha
    · rename_i hT
      subst hT
      have hats' : ats = #[T, T] := by apply Array.toList_inj.1; simpa using hats
      subst hats'
      split at ha
      · rename_i e hu
        split at ha
        · rename_i i hi
          split at ha
          · rename_i z hz
            split at ha
            · rename_i hsz
              split at ha
              · rename_i m news cn hnews
                have run : ∀ {n : Nat} {vs : Value} {cs : List V}, w.ownsRow 0 e i.size vs n (concs ρ cs) → (∀ p ∈ cn, p) → n + m ≤ maxLen → (n + m) * i.bytes ≤ 140737488355328 →
                    ∃ v' w', (Builtin.append_ #[T, T] ty #[vs, x.conc ρ]).run c.P w = .ok v' w' ∧ w'.ownsRow 0 e i.size v' (n + m) (concs ρ (cs ++ news)) ∧ w.grownBy w' vs.ownBlock ∧ (v'.ownBlock = vs.ownBlock ∨ v'.ownBlock = some w.heap.size) := fun {n vs cs} hO hcn h63 hby => by
                  obtain ⟨n1, n2, n3⟩ := news_spec RH hsz.1 hnews hcn
                  rcases n3 with ⟨e1, rfl, rfl⟩ | ⟨ad, cap, e1, n4, n5⟩
                  · rw [e1]
                    exact ⟨vs, w, run_append_none T ty e i hu hi vs n _ hO, by simpa using hO, ⟨rfl, rfl, rfl, Nat.le_refl _, fun _ _ _ => rfl⟩, .inl rfl⟩
                  · rw [e1, concs_append]
                    obtain ⟨v', w', r1, r2, r3, _, r5⟩ := run_append_own_at (P := c.P) w 0 T ty e i z i.size i.bytes hu hi hz rfl rfl hsz.2 hsz.1 vs n _ hO ad m cap (concs ρ news) (by rw [concs_length, n4]) n5 (oneCells_ok ρ news n2) h63 hby (Nat.zero_le _)
                    exact ⟨v', w', r1, r2, r3, r5⟩
                have hun : ∀ {cs : List V}, unders h.length cs = true → (∀ p ∈ cn, p) → unders h.length (cs ++ news) = true := fun {cs} h1 hcn => unders_append h1 (news_spec RH hsz.1 hnews hcn).1
                split at ha
                · simp only [Option.some.injEq, Prod.mk.injEq] at ha
                  obtain ⟨rfl, rfl, rfl⟩ := ha
                  obtain ⟨g1, g2⟩ := owe_ok fun q hq => hc q (List.mem_append_right _ hq)
                  have hcn : ∀ p ∈ cn, p := fun p hp => hc p (List.mem_append_left _ hp)
                  obtain ⟨v', w', r1, r2, r3, r4⟩ := run (cs := []) (World.ownsRow_nil w 0 e i.size) hcn (by omega) (by simpa using g2)
                  rw [Nat.zero_add, List.nil_append] at r2
                  obtain ⟨ρ', q1, q2, q3, q4⟩ := append_rel (h := h) (v := .slice none 0 0) RH rfl hsz.1 (hun (cs := []) rfl hcn) hlh (fun _ h => h) r2 r3 r4 (fun g hg => by cases hg)
                  exact ⟨ρ', w', by rw [← q1]; exact r1, q2, q3, q4, by simp [V.under]⟩
                · rename_i b off
                  split at ha
                  · split at ha
                    · rename_i hbl
                      simp only [Option.some.injEq, Prod.mk.injEq] at ha
                      obtain ⟨rfl, rfl, rfl⟩ := ha
                      obtain ⟨n1, n2, n3⟩ := news_spec RH hsz.1 hnews hc
                      have hrun : (Builtin.append_ #[T, T] ty #[(V.sub b off 0 0).conc ρ, x.conc ρ]).run c.P w = .ok ((V.sub b off 0 0).conc ρ) w := by
                        rcases n3 with ⟨e1, _, _⟩ | ⟨ad, cap, e1, _, _⟩ <;> (rw [e1]; simp only [V.conc, subOf]; split <;> simp [Builtin.append_, run_underlying hu, sizeOf, typeInfo, hi, Builtin.lenOf, Builtin.firstCells, storeCells, loadCells, loadCellsFrom])
                      exact ⟨ρ, w, hrun, rfl, RH, Fr.refl _ _ _ _ hlh (Nat.le_refl _), by simpa [V.under] using hbl⟩
                    · cases ha
                  · rename_i m
                    simp only [Option.some.injEq, Prod.mk.injEq] at ha
                    obtain ⟨rfl, rfl, rfl⟩ := ha
                    obtain ⟨g1, g2⟩ := owe_ok fun q hq => hc q (List.mem_append_right _ hq)
                    have hcn : ∀ p ∈ cn, p := fun p hp => hc p (List.mem_append_left _ hp)
                    obtain ⟨v', w', r1, r2, r3, r4⟩ := run (cs := []) (World.ownsRow_nil w 0 e i.size) hcn (by omega) (by simpa using g2)
                    rw [Nat.zero_add, List.nil_append] at r2
                    obtain ⟨ρ', q1, q2, q3, q4⟩ := append_rel (h := h) (v := .slice none 0 0) RH rfl hsz.1 (hun (cs := []) rfl hcn) hlh (fun _ h => h) r2 r3 r4 (fun g hg => by cases hg)
                    have hrun : (Builtin.append_ #[T, T] ty #[(V.sub b off 0 0).conc ρ, x.conc ρ]).run c.P w = (Builtin.append_ #[T, T] ty #[.slice none 0 0, x.conc ρ]).run c.P w := by
                      obtain ⟨n1, n2, n3⟩ := news_spec RH hsz.1 hnews hcn
                      rcases n3 with ⟨_, e2, _⟩ | ⟨ad, cap, e1, _, _⟩
                      · cases e2
                      · rw [e1]
                        simp only [V.conc, subOf]
                        split
                        · rfl
                        · have k1 : Builtin.nextslicecap (m + 1) 0 = m + 1 := by simp [Builtin.nextslicecap]
                          have k2 : ¬ (281474976710656 : Nat) < (m + 1) * i.bytes := by omega
                          have k3 : ¬ ((9223372036854775807 : Int) < (m : Int) + 1 ∧ i.bytes = 0) := by
                            unfold maxLen at g1
                            omega
                          simp [Builtin.append_, run_underlying hu, sizeOf, typeInfo, hi, Builtin.lenOf, Builtin.firstCells, storeCells, loadCells, loadCellsFrom, k1, k2, k3]
                    exact ⟨ρ', w', by rw [← q1, hrun]; exact r1, q2, q3, q4, by simp [V.under]⟩
                · rename_i b n
                  split at ha
                  · rename_i cs e' sz hb
                    split at ha
                    · rename_i hh
                      obtain ⟨hlim, rfl, rfl⟩ := hh
                      simp only [Option.some.injEq, Prod.mk.injEq] at ha
                      obtain ⟨rfl, rfl, rfl⟩ := ha
                      have g0 : cs.length = n * i.size := owe_ok fun q hq => hc q (List.mem_append_right _ (List.mem_append_left _ hq))
                      obtain ⟨g1, g2⟩ : n + m ≤ maxLen ∧ (n + m) * i.bytes ≤ 140737488355328 := owe_ok fun q hq => hc q (List.mem_append_right _ (List.mem_append_right _ hq))
                      have hcn : ∀ p ∈ cn, p := fun p hp => hc p (List.mem_append_left _ hp)
                      obtain ⟨o1, o2⟩ := own_spec RH hsz.1 hb g0
                      obtain ⟨v', w', r1, r2, r3, r4⟩ := run o1 hcn g1 g2
                      have RH1 := relH_kill RH (b := b) (by omega)
                      have hbl := lt_len hb
                      obtain ⟨ρ', q1, q2, q3, q4⟩ := append_rel (h := h) (v := slcOf (ρ.blk b) n) (lim := lim) RH1 (by simp) hsz.1 (hun (RH.sco b _ hb) hcn) hlh (fun j hj => by
                        obtain ⟨C, k1, k2, k3⟩ := hj
                        rcases get_set k1 with ⟨_, k1⟩ | ⟨_, k1⟩
                        · cases k1
                        · exact ⟨C, k1, k2, k3⟩) r2 r3 r4 (fun g hg => by
                          rw [o2] at hg
                          split at hg
                          · cases hg
                          · rename_i hnil
                            simp only [Option.some.injEq] at hg
                            subst hg
                            have hlw : lw ρ h b := ⟨_, hb, rfl, by simpa using hnil⟩
                            refine ⟨fun j hj he => ?_, b, hlim, hlw, rfl⟩
                            obtain ⟨C, k1, k3⟩ := hj
                            rcases get_set k1 with ⟨_, k1⟩ | ⟨k0, k1⟩
                            · cases k1
                            · exact k0 (RH.inj b j hlw ⟨C, k1, k3⟩ he.symm).symm)
                      exact ⟨ρ', w', by rw [← q1]; exact r1, q2, q3, q4, by simp [V.under]⟩
                    · cases ha
                  · cases ha
                · cases ha
              · cases ha
            · cases ha
          · cases ha
        · cases ha
      · cases ha
    · cases ha
  · cases ha
end
end Go.Proofs.Ytcibaankajfhlaa.E2
end
section
namespace Go.Proofs.Ytcibaankajfhlaa.E2
open Go Go.RowKit
def Post (c : Cfg) (lim : Nat) (ρ : Ren) (h : Heap) (w : World) (v : V) (h' : Heap) (e : Ending) (w' : World) : Prop :=
  ∃ ρ', ρ'.unk = ρ.unk ∧ e = .returned (v.conc ρ') ∧ RelH c ρ' h' w' ∧ Fr lim h.length ρ h w ρ' h' w' ∧ v.under h'.length = true
structure CallOk (c : Cfg) (cf : CF) : Prop where
  call : ∀ f args h lim ans out, cf.call f args h lim ans = some out → (∀ p ∈ out.cons, p) → c.L ≤ lim → lim ≤ h.length → ∀ ρ w, RelH c ρ h w → unders h.length args = true →
    Calls c.P f (concs ρ args).toArray w (Post c lim ρ h w out.v out.h)
  yld : ∀ b args h lim ans out, cf.yld b args h lim ans = some out → (∀ p ∈ out.cons, p) → c.L ≤ lim → lim ≤ h.length → ∀ ρ w, RelH c ρ h w → unders h.length args = true →
    ∃ r, h[b]? = some (some (.rcd r)) ∧ args.length = (rangeAt c.P r.f r.i).1.size ∧ ∀ fn u D, w.heap[(ρ.blk b).n]? = some (.loop (r.loop c.P ρ fn u D)) →
      RoundIn Fence.wide 0 c.P (ρ.blk b).n fn (((rangeAt c.P r.f r.i).1.zip (concs ρ args).toArray).foldl (fun tmps (t, a) => tmps.setIfInBounds t a) (concs ⟨ρ.blk, u⟩ r.t).toArray) (rangeAt c.P r.f r.i).2.1 (rangeAt c.P r.f r.i).2.2 w (Post c lim ρ h w out.v out.h)
section
variable {c : Cfg} {ρ : Ren} {h : Heap} {w : World} {t : List V} {a : Act} {lim : Nat} {r : Option Nat}
section
variable {dst : Option Tmp} {ty : TypeId} {pos : String} {after : Array Edge} {guard : Option (Nat × Bool)}
theorem eqV_run (RH : RelH c ρ h w) (RT : RelT ρ h.length t a) {b : BinOp} {T U : TypeId} {x y : Operand} {v : V} (hv : eqV c t b T x y = some v) :
    (execOp a.eval ⟨dst, .binOp b T x y U, ty, pos, after, guard⟩).run c.P w = .ok (.value (v.conc ρ)) w ∧ v.under h.length = true := by
  unfold eqV at hv
  split at hv
  · rename_i xs ys hx hy
    split at hv
    · cases hv
    rename_i hgd
    rw [Option.map_eq_some_iff] at hv
    obtain ⟨r, hr, rfl⟩ := hv
    have ex := opnd_eval RH RT hx
    have ey := opnd_eval RH RT hy
    simp only [V.conc] at ex ey
    have hq := eqIn_sound c.P 12 9988 T _ _ r w hr
    refine ⟨?_, rfl⟩
    generalize a.eval = g at ex ey ⊢
    have hG : ∀ q, (q = .eql ∨ q = .neq) → (eqGuard q T x y (Value.agg xs) (Value.agg ys)).run c.P w = .ok () w := fun q hq => by
      rcases hq with rfl | rfl <;> (simp only [eqGuard, Sem.run_bind, Bool.not_true, Bool.false_eq_true, if_false, show ∀ w, (Sem.run c.P (program : Sem Program) w) = .ok c.P w from fun _ => rfl, Result.andThen_ok]; rw [if_pos (by simpa using hgd)]; rfl)
    simp [execOp, go_sem, ex, ey, binOp, Op.equal, Op.maxDepth, hq, hG, V.conc]
  · rename_i xs ys hx hy
    split at hv
    · cases hv
    rename_i hgd
    rw [Option.map_eq_some_iff] at hv
    obtain ⟨r, hr, rfl⟩ := hv
    have ex := opnd_eval RH RT hx
    have ey := opnd_eval RH RT hy
    simp only [V.conc] at ex ey
    have hq := eqIn_sound c.P 12 9988 T _ _ r w hr
    refine ⟨?_, rfl⟩
    generalize a.eval = g at ex ey ⊢
    have hG : ∀ q, (q = .eql ∨ q = .neq) → (eqGuard q T x y (Value.agg xs) (Value.agg ys)).run c.P w = .ok () w := fun q hq => by
      rcases hq with rfl | rfl <;> (simp only [eqGuard, Sem.run_bind, Bool.not_true, Bool.false_eq_true, if_false, show ∀ w, (Sem.run c.P (program : Sem Program) w) = .ok c.P w from fun _ => rfl, Result.andThen_ok]; rw [if_pos (by simpa using hgd)]; rfl)
    simp [execOp, go_sem, ex, ey, binOp, Op.equal, Op.maxDepth, hq, hG, V.conc]
  · cases hv
def EqLike (T : TypeId) (x y : Value) : Prop := binOp .eql T x y = (do pure (.bool (← Op.equal T x y))) ∧ binOp .neq T x y = (do pure (.bool (!(← Op.equal T x y))))
theorem nilTest_ok {T : TypeId} {v : V} {n : Value} (hn : nilTest c T v n = true) (ρ : Ren) (w : World) (d : Nat) : (Op.equalIn (d + 1) T (v.conc ρ) n).run c.P w = .ok false w ∧ (Op.equalIn (d + 1) T n (v.conc ρ)).run c.P w = .ok false w ∧
    ∀ (q : BinOp) (x y : Operand), (eqGuard q T x y (v.conc ρ) n).run c.P w = .ok () w ∧ (eqGuard q T x y n (v.conc ρ)).run c.P w = .ok () w ∧ EqLike T (v.conc ρ) n ∧ EqLike T n (v.conc ρ) := by
  unfold nilTest at hn
  split at hn
  · rename_i b l _ _ e hu
    have h1 : (V.slo b (l + 1)).conc ρ = .slice (some ⟨(ρ.blk b).n, (ρ.blk b).pre.length, none⟩) (l + 1) (ρ.blk b).cap := by simp [V.conc, slcOf]
    rw [h1]
    refine ⟨by simp [Op.equalIn, pureRun_run hu], by simp [Op.equalIn, pureRun_run hu], fun q x y => ?_⟩
    cases q <;> exact ⟨rfl, rfl, ⟨rfl, rfl⟩, ⟨rfl, rfl⟩⟩
  · rename_i b o l k _ _ e hu
    have h1 : (V.sub b o (l + 1) k).conc ρ = .slice (some ⟨(ρ.blk b).n, (ρ.blk b).pre.length + o, none⟩) (l + 1) k := by simp [V.conc, subOf]
    rw [h1]
    refine ⟨by simp [Op.equalIn, pureRun_run hu], by simp [Op.equalIn, pureRun_run hu], fun q x y => ?_⟩
    cases q <;> exact ⟨rfl, rfl, ⟨rfl, rfl⟩, ⟨rfl, rfl⟩⟩
  · rename_i b o e hu
    simp only [V.conc]
    refine ⟨by simp [Op.equalIn, pureRun_run hu], by simp [Op.equalIn, pureRun_run hu], fun q x y => ?_⟩
    cases q <;> exact ⟨rfl, rfl, ⟨rfl, rfl⟩, ⟨rfl, rfl⟩⟩
  · rename_i b k e hu
    simp only [V.conc]
    refine ⟨by simp [Op.equalIn, pureRun_run hu], by simp [Op.equalIn, pureRun_run hu], fun q x y => ?_⟩
    cases q <;> exact ⟨rfl, rfl, ⟨rfl, rfl⟩, ⟨rfl, rfl⟩⟩
  · rename_i hu
    simp only [V.conc]
    refine ⟨by simp [Op.equalIn, pureRun_run hu], by simp [Op.equalIn, pureRun_run hu], fun q x y => ?_⟩
    cases q <;> exact ⟨rfl, rfl, ⟨rfl, rfl⟩, ⟨rfl, rfl⟩⟩
  · cases hn
theorem nilV_run (RH : RelH c ρ h w) (RT : RelT ρ h.length t a) {b : BinOp} {T U : TypeId} {x y : Operand} {v : V} (hv : nilV c t b T x y = some v) :
    (execOp a.eval ⟨dst, .binOp b T x y U, ty, pos, after, guard⟩).run c.P w = .ok (.value (v.conc ρ)) w ∧ v.under h.length = true := by
  unfold nilV at hv
  split at hv
  · rename_i hb
    have key : (Op.equalIn (9999 + 1) T (a.eval x) (a.eval y)).run c.P w = .ok false w ∧ (∀ q, (eqGuard q T x y (a.eval x) (a.eval y)).run c.P w = .ok () w) ∧ EqLike T (a.eval x) (a.eval y) := by
      split at hb
      · rename_i u n hx hy
        have ex := opnd_eval RH RT hx
        have ey := opnd_eval RH RT hy
        rw [ex, ey]
        obtain ⟨h1, _, h3⟩ := nilTest_ok hb ρ w 9999
        exact ⟨h1, fun q => (h3 q x y).1, (h3 .eql x y).2.2.1⟩
      · rename_i n u _ hx hy
        have ex := opnd_eval RH RT hx
        have ey := opnd_eval RH RT hy
        rw [ex, ey]
        obtain ⟨_, h2, h3⟩ := nilTest_ok hb ρ w 9999
        exact ⟨h2, fun q => (h3 q x y).2.1, (h3 .eql x y).2.2.2⟩
      · cases hb
    obtain ⟨k1, k2, k5, k6⟩ := key
    have kb1 : (binOp .eql T (a.eval x) (a.eval y)).run c.P w = .ok (.bool false) w := by
      have k1' : (Op.equal T (a.eval x) (a.eval y)).run c.P w = .ok false w := k1
      rw [k5, Sem.run_bind, k1']
      rfl
    have kb2 : (binOp .neq T (a.eval x) (a.eval y)).run c.P w = .ok (.bool true) w := by
      have k1' : (Op.equal T (a.eval x) (a.eval y)).run c.P w = .ok false w := k1
      rw [k6, Sem.run_bind, k1']
      rfl
    split at hv
    · simp only [Option.some.injEq] at hv
      subst hv
      refine ⟨?_, rfl⟩
      have k3 := kb1
      have k4 := k2 .eql
      generalize a.eval = g at k3 k4 ⊢
      simp only [execOp, Sem.run_bind, k3, k4, Result.andThen_ok, Sem.run_pure, V.conc]
    · simp only [Option.some.injEq] at hv
      subst hv
      refine ⟨?_, rfl⟩
      have k3 := kb2
      have k4 := k2 .neq
      generalize a.eval = g at k3 k4 ⊢
      simp only [execOp, Sem.run_bind, k3, k4, Result.andThen_ok, Sem.run_pure, V.conc]
    · cases hv
  · cases hv
theorem len_run (RH : RelH c ρ h w) (RT : RelT ρ h.length t a) {args : Array Operand} {ats : Array TypeId} {v : V} (hv : lenV c t args ats = some v) :
    (execOp a.eval ⟨dst, .call ⟨.builtin .len, args, ats⟩, ty, pos, after, guard⟩).run c.P w = .ok (.value (v.conc ρ)) w ∧ v.under h.length = true := by
  unfold lenV at hv
  split at hv
  · rename_i x T hargs hT
    split at hv
    · rename_i b l e hx hu
      simp only [Option.some.injEq] at hv
      subst hv
      refine ⟨?_, rfl⟩
      have ex := opnd_eval RH RT hx
      have hl : ∃ p cp, (V.slo b l).conc ρ = .slice p l cp := by
        simp only [V.conc, slcOf]
        split
        · rename_i hh; rw [hh.1]; exact ⟨_, _, rfl⟩
        · exact ⟨_, _, rfl⟩
      obtain ⟨p, cp, hl⟩ := hl
      rw [hl] at ex
      have ha : args = #[x] := by apply Array.toList_inj.1; simpa using hargs
      subst ha
      generalize a.eval = g at ex ⊢
      simp [execOp, resolve, go_sem, invoke, builtin, Builtin.len_, hT, ex, pureRun_run hu, V.conc]
    · rename_i b o l k e hx hu
      simp only [Option.some.injEq] at hv
      subst hv
      refine ⟨?_, rfl⟩
      have ex := opnd_eval RH RT hx
      have hl : ∃ p cp, (V.sub b o l k).conc ρ = .slice p l cp := by
        simp only [V.conc, subOf]
        split
        · rename_i hh; rw [hh.1.1]; exact ⟨_, _, rfl⟩
        · exact ⟨_, _, rfl⟩
      obtain ⟨p, cp, hl⟩ := hl
      rw [hl] at ex
      have ha : args = #[x] := by apply Array.toList_inj.1; simpa using hargs
      subst ha
      generalize a.eval = g at ex ⊢
      simp [execOp, resolve, go_sem, invoke, builtin, Builtin.len_, hT, ex, pureRun_run hu, V.conc]
    · cases hv
  · cases hv
theorem index_run (RH : RelH c ρ h w) (RT : RelT ρ h.length t a) {T : TypeId} {x ix : Operand} {v : V} {cons : List Prop} (hv : indexV c t T x ix = some (v, cons)) (hc : ∀ p ∈ cons, p) :
    (execOp a.eval ⟨dst, .indexAddr T x ix, ty, pos, after, guard⟩).run c.P w = .ok (.value (v.conc ρ)) w ∧ v.under h.length = true := by
  unfold indexV at hv
  split at hv
  · rename_i b l k i e hx hi hu
    split at hv
    · rename_i n hn
      simp only [Option.some.injEq, Prod.mk.injEq] at hv
      obtain ⟨rfl, rfl⟩ := hv
      obtain ⟨h1, h2⟩ := owe_ok hc
      refine ⟨?_, (by have := opnd_under RH RT hx; simpa [V.under] using this)⟩
      have ex := opnd_eval RH RT hx
      have ei := opnd_eval RH RT hi
      have hl0 : ¬ l = 0 := by omega
      simp only [V.conc, slcOf, hl0, false_and, if_false] at ex ei
      generalize a.eval = g at ex ei ⊢
      simp [execOp, Instr.indexAt, asIntOf, go_sem, ex, ei, pureRun_run hu, pureRun_run hn, h1, h2, addr_add, V.conc]
    · cases hv
  · rename_i b off l k' k i e hx hi hu
    split at hv
    · rename_i n hn
      simp only [Option.some.injEq, Prod.mk.injEq] at hv
      obtain ⟨rfl, rfl⟩ := hv
      obtain ⟨h1, h2⟩ := owe_ok hc
      refine ⟨?_, (by have := opnd_under RH RT hx; simpa [V.under] using this)⟩
      have ex := opnd_eval RH RT hx
      have ei := opnd_eval RH RT hi
      have hl0 : ¬ l = 0 := by omega
      simp only [V.conc, subOf, hl0, false_and, if_false] at ex ei
      generalize a.eval = g at ex ei ⊢
      simp [execOp, Instr.indexAt, asIntOf, go_sem, ex, ei, pureRun_run hu, pureRun_run hn, h1, h2, addr_add, V.conc, Nat.add_assoc]
    · cases hv
  · rename_i b off k i l e hx hi hu
    split at hv
    · rename_i n hn
      simp only [Option.some.injEq, Prod.mk.injEq] at hv
      obtain ⟨rfl, rfl⟩ := hv
      obtain ⟨h1, h2⟩ := owe_ok hc
      refine ⟨?_, (by have := opnd_under RH RT hx; simpa [V.under] using this)⟩
      have ex := opnd_eval RH RT hx
      have ei := opnd_eval RH RT hi
      simp only [V.conc] at ex ei
      generalize a.eval = g at ex ei ⊢
      simp [execOp, Instr.indexAt, asIntOf, Instr.sureAddr, go_sem, ex, ei, pureRun_run hu, pureRun_run hn, h1, h2, addr_add, V.conc, Nat.add_assoc]
    · cases hv
  · cases hv
theorem slice_run (RH : RelH c ρ h w) (RT : RelT ρ h.length t a) {T : TypeId} {x : Operand} {lo hi mx : Option Operand} {v : V} {cons : List Prop} (hv : sliceV c h t T x lo hi mx = some (v, cons)) (hc : ∀ p ∈ cons, p) :
    (execOp a.eval ⟨dst, .slice T x lo hi mx, ty, pos, after, guard⟩).run c.P w = .ok (.value (v.conc ρ)) w ∧ v.under h.length = true := by
  unfold sliceV at hv
  split at hv
  · rename_i y
    split at hv
    · rename_i b l kk k e hx hy hu
      split at hv
      · rename_i cs T' sz q hb hq
        simp only [Option.some.injEq, Prod.mk.injEq] at hv
        obtain ⟨rfl, rfl⟩ := hv
        obtain ⟨h1, h2, h3, h4⟩ := owe_ok hc
        refine ⟨?_, (by have := opnd_under RH RT hx; simpa [V.under] using this)⟩
        have ex := opnd_eval RH RT hx
        have ey := opnd_eval RH RT hy
        simp only [V.conc] at ex ey
        have hcell := RH.cell b _ hb
        have hu' := pureRun_run hu
        have hq' := pureRun_run hq
        cases hn : (ρ.blk b).nil with
        | true =>
          have h5 := hcell.nil hn
          subst h5
          have hl : l = 0 := by
            rcases Nat.eq_zero_or_pos l with h | h
            · exact h
            · have := Nat.mul_pos h h3
              simp only [List.length_nil] at h4; omega
          subst hl
          have hk : k = 0 := by omega
          subst hk
          simp only [slcOf, hn, and_self, if_true] at ex
          generalize a.eval = g at ex ey ⊢
          simp [execOp, Instr.sliceAt, Instr.slice, Instr.sliceBounds, Instr.sliceBound, asIntOf, go_sem, ex, ey, hu', hq', V.conc, slcOf, hn]
        | false =>
          obtain ⟨r1, r2⟩ := hcell.room sz rfl
          obtain ⟨r2, r3⟩ := r2 hn
          have hlc : l ≤ (ρ.blk b).cap := by
            have : l * sz ≤ (ρ.blk b).cap * sz := by omega
            exact Nat.le_of_mul_le_mul_right this h3
          have hkc : k ≤ ((ρ.blk b).cap : Int) := by omega
          have e1 : ∀ m, slcOf (ρ.blk b) m = .slice (some ⟨(ρ.blk b).n, (ρ.blk b).pre.length, none⟩) m (ρ.blk b).cap := fun m => by simp [slcOf, hn]
          rw [e1] at ex
          simp only [V.conc, e1]
          generalize a.eval = g at ex ey ⊢
          have ha : (⟨(ρ.blk b).n, (ρ.blk b).pre.length, none⟩ : Addr).add 0 = ⟨(ρ.blk b).n, (ρ.blk b).pre.length, none⟩ := addr_add _ _ _
          simp [execOp, Instr.sliceAt, Instr.slice, Instr.sliceBounds, Instr.sliceBound, asIntOf, go_sem, ex, ey, hu', hq', h1, hkc, ha]
      · cases hv
    · cases hv
  · cases hv
theorem bndV_run (RH : RelH c ρ h w) (RT : RelT ρ h.length t a) {d k : Nat} {x : Operand} (hx : bndV c t d (some x) = some k) : ∃ kd, a.eval x = .int kd (k : Int) := by
  unfold bndV at hx
  split at hx
  · rename_i e; cases e
  · rename_i y e
    cases e
    split at hx
    · rename_i kd k' hy
      simp only [Option.some.injEq] at hx
      subst hx
      exact ⟨kd, opnd_eval RH RT hy⟩
    · cases hx
theorem bnds_run (RH : RelH c ρ h w) (RT : RelT ρ h.length t a) {lo hi mx : Option Operand} {l k q p m : Nat} (hq : bndV c t 0 lo = some q) (hp : bndV c t l hi = some p) (hm : bndV c t k mx = some m) (h1 : q ≤ p) (h2 : p ≤ m) (h3 : m ≤ k) (h4 : mx.isSome = true → hi.isSome = true) :
    ∀ isS, (Instr.sliceBounds isS l k (lo.map a.eval) (hi.map a.eval) (mx.map a.eval)).run c.P w = .ok (q, p, m) w := by
  intro isS
  unfold Instr.sliceBounds
  cases mx with
  | none =>
    have hm' : m = k := by simpa [bndV] using hm.symm
    subst hm'
    cases hi with
    | none =>
      have hp' : p = l := by simpa [bndV] using hp.symm
      subst hp'
      cases lo with
      | none =>
        have hq' : q = 0 := by simpa [bndV] using hq.symm
        subst hq'
        simp [go_sem]
      | some y =>
        obtain ⟨k1, e1⟩ := bndV_run RH RT hq
        generalize a.eval = g at e1 ⊢
        simp [go_sem, e1, h1]
    | some z =>
      obtain ⟨k2, e2⟩ := bndV_run RH RT hp
      cases lo with
      | none =>
        have hq' : q = 0 := by simpa [bndV] using hq.symm
        subst hq'
        generalize a.eval = g at e2 ⊢
        simp [go_sem, e2, h2]
      | some y =>
        obtain ⟨k1, e1⟩ := bndV_run RH RT hq
        generalize a.eval = g at e1 e2 ⊢
        simp [go_sem, e1, e2, h1, h2]
  | some v =>
    obtain ⟨k3, e3⟩ := bndV_run RH RT hm
    cases hi with
    | none => exact absurd (h4 rfl) (by simp)
    | some z =>
      obtain ⟨k2, e2⟩ := bndV_run RH RT hp
      cases lo with
      | none =>
        have hq' : q = 0 := by simpa [bndV] using hq.symm
        subst hq'
        generalize a.eval = g at e2 e3 ⊢
        simp [go_sem, e2, e3, h2, h3]
      | some y =>
        obtain ⟨k1, e1⟩ := bndV_run RH RT hq
        generalize a.eval = g at e1 e2 e3 ⊢
        simp [go_sem, e1, e2, e3, h1, h2, h3]
theorem roomB_ok (RH : RelH c ρ h w) {b l m n : Nat} (hb : roomB h b l m n = true) : ((ρ.blk b).nil = true → l = 0 ∧ m = 0) ∧ ((ρ.blk b).nil = false → m ≤ (ρ.blk b).cap) := by
  unfold roomB at hb
  split at hb
  · rename_i cs T own hc
    simp only [Bool.and_eq_true, Bool.or_eq_true, decide_eq_true_eq, beq_iff_eq] at hb
    obtain ⟨⟨h1, h2⟩, h3⟩ := hb
    refine ⟨fun hn => ?_, fun hn => ?_⟩
    · have h5 := (RH.cell b _ hc).nil hn
      subst h5
      have hl : l = 0 := by
        rcases Nat.eq_zero_or_pos l with h | h
        · exact h
        · have := Nat.mul_pos h h1
          simp only [List.length_nil] at h2; omega
      rcases h3 with h3 | h3
      · exact ⟨hl, h3⟩
      · exact ⟨hl, by have := h3.1; omega⟩
    · rcases h3 with h3 | ⟨h3, h4⟩
      · omega
      · split at h4
        · rename_i sz
          have h5 : sz = n := by simpa using h4
          subst h5
          obtain ⟨_, r2⟩ := (RH.cell b _ hc).room sz rfl
          obtain ⟨r2, _⟩ := r2 hn
          have : l * sz ≤ (ρ.blk b).cap * sz := by omega
          exact Nat.le_trans h3 (Nat.le_of_mul_le_mul_right this h1)
        · cases h4
  · cases hb
theorem slice_of {P : Program} {g : Operand → Value} {T : TypeId} {e : TypeId} {n : Nat} {x : Operand} {lo hi mx : Option Operand} {A : Option Addr} {l k q p m : Nat} (hu : ∀ w, (underlying T).run P w = .ok (.slice e) w) (hn : ∀ w, (Go.sizeOf e).run P w = .ok n w) (ex : g x = .slice A l k)
    (hb : ∀ isS, (Instr.sliceBounds isS l k (lo.map g) (hi.map g) (mx.map g)).run P w = .ok (q, p, m) w) :
    (execOp g ⟨dst, .slice T x lo hi mx, ty, pos, after, guard⟩).run P w = .ok (.value (.slice (if m = q then A else A.map (·.add (q * n))) (p - q) (m - q))) w := by
  have hb' := hb true
  simp only [execOp, Instr.sliceAt, Instr.slice, ex, Sem.run_bind, hu, hn, hb', Result.andThen_ok, Sem.run_pure]
theorem slice_ofA {P : Program} {g : Operand → Value} {T : TypeId} {e : TypeId} {n : Nat} {x : Operand} {lo hi mx : Option Operand} {A : Addr} {N q p m : Nat} (hu : ∀ w, (underlying T).run P w = .ok (.array N e) w) (hn : ∀ w, (Go.sizeOf e).run P w = .ok n w) (ex : g x = .pointer (some A))
    (hb : ∀ isS, (Instr.sliceBounds isS N N (lo.map g) (hi.map g) (mx.map g)).run P w = .ok (q, p, m) w) :
    (execOp g ⟨dst, .slice T x lo hi mx, ty, pos, after, guard⟩).run P w = .ok (.value (.slice (some (if m = q then A else A.add (q * n))) (p - q) (m - q))) w := by
  have hb' := hb false
  simp only [execOp, Instr.sliceAt, Instr.sureAddr, ex, Sem.run_bind, hu, hn, hb', Result.andThen_ok, Sem.run_pure]
theorem sub_run (RH : RelH c ρ h w) (RT : RelT ρ h.length t a) {T : TypeId} {x : Operand} {lo hi mx : Option Operand} {v : V} (hv : subV c h t T x lo hi mx = some v) :
    (execOp a.eval ⟨dst, .slice T x lo hi mx, ty, pos, after, guard⟩).run c.P w = .ok (.value (v.conc ρ)) w ∧ v.under h.length = true := by
  unfold subV at hv
  split at hv
  · rename_i b l e hx hu
    split at hv
    · rename_i hi' mx'
      split at hv
      · rename_i p m n hq hp hm hn
        split at hv
        · rename_i hh
          obtain ⟨h1, h2⟩ := hh
          simp only [Option.some.injEq] at hv
          subst hv
          refine ⟨?_, (by have := opnd_under RH RT hx; simpa [V.under] using this)⟩
          have ex := opnd_eval RH RT hx
          obtain ⟨r1, r2⟩ := roomB_ok RH h2
          cases hnil : (ρ.blk b).nil with
          | true =>
            obtain ⟨rfl, rfl⟩ := r1 hnil
            have hp0 : p = 0 := by omega
            subst hp0
            simp only [V.conc, slcOf, hnil, and_self, if_true] at ex
            have := slice_of (dst := dst) (ty := ty) (pos := pos) (after := after) (guard := guard) (pureRun_run hu) (pureRun_run hn) ex (bnds_run (w := w) RH RT (l := 0) (k := 0) hq hp hm (Nat.le_refl _) (Nat.le_refl _) (Nat.le_refl _) (by simp))
            rw [this]
            simp [V.conc, subOf, hnil]
          | false =>
            have e1 : (V.slo b l).conc ρ = .slice (some ⟨(ρ.blk b).n, (ρ.blk b).pre.length, none⟩) l (ρ.blk b).cap := by simp [V.conc, slcOf, hnil]
            rw [e1] at ex
            have := slice_of (dst := dst) (ty := ty) (pos := pos) (after := after) (guard := guard) (pureRun_run hu) (pureRun_run hn) ex (bnds_run (w := w) RH RT (l := l) (k := (ρ.blk b).cap) hq (show bndV c t l (some hi') = some p from hp) (show bndV c t (ρ.blk b).cap (some mx') = some m from hm) (Nat.zero_le _) h1 (r2 hnil) (by simp))
            rw [this]
            have ha : (⟨(ρ.blk b).n, (ρ.blk b).pre.length, none⟩ : Addr).add 0 = ⟨(ρ.blk b).n, (ρ.blk b).pre.length, none⟩ := addr_add _ _ _
            simp [V.conc, subOf, hnil, ha]
        · cases hv
      · cases hv
    · cases hv
  · rename_i b off l k e hx hu
    split at hv
    · rename_i q p m n hq hp hm hn
      split at hv
      · rename_i hh
        obtain ⟨h1, h2, h3, h4, h5⟩ := hh
        simp only [Option.some.injEq] at hv
        subst hv
        refine ⟨?_, (by have := opnd_under RH RT hx; simpa [V.under] using this)⟩
        have ex := opnd_eval RH RT hx
        have hb := bnds_run (w := w) RH RT hq hp hm h1 h2 h3 h5
        by_cases hz : l = 0 ∧ k = 0
        · obtain ⟨rfl, rfl⟩ := hz
          have hm0 : m = 0 := by omega
          subst hm0
          have hp0 : p = 0 := by omega
          subst hp0
          have hq0 : q = 0 := by omega
          subst hq0
          simp only [V.conc, subOf] at ex
          split at ex
          · rename_i hnil
            rw [slice_of (dst := dst) (ty := ty) (pos := pos) (after := after) (guard := guard) (pureRun_run hu) (pureRun_run hn) ex hb]
            simp [V.conc, subOf, hnil.2]
          · rename_i hnil
            rw [slice_of (dst := dst) (ty := ty) (pos := pos) (after := after) (guard := guard) (pureRun_run hu) (pureRun_run hn) ex hb]
            have hnil' : (ρ.blk b).nil = false := by simpa using hnil
            simp [V.conc, subOf, hnil']
        · have hqm : q < m := by omega
          have e1 : (V.sub b off l k).conc ρ = .slice (some ⟨(ρ.blk b).n, (ρ.blk b).pre.length + off, none⟩) l k := by
            simp only [V.conc, subOf]
            rw [if_neg (by rintro ⟨hh, _⟩; exact hz hh)]
          rw [e1] at ex
          rw [slice_of (dst := dst) (ty := ty) (pos := pos) (after := after) (guard := guard) (pureRun_run hu) (pureRun_run hn) ex hb]
          have k1 : ¬ m = q := by omega
          have k2 : ¬ (p - q = 0 ∧ m - q = 0) := by omega
          simp only [V.conc, subOf, k1, k2, false_and, if_false, Option.map_some, addr_add, Nat.add_assoc]
      · cases hv
    · cases hv
  · rename_i b off N e hx hu
    split at hv
    · rename_i q p m n hq hp hm hn
      split at hv
      · rename_i hh
        obtain ⟨h1, h2, h3, h4, h5⟩ := hh
        simp only [Option.some.injEq] at hv
        subst hv
        refine ⟨?_, (by have := opnd_under RH RT hx; simpa [V.under] using this)⟩
        have ex := opnd_eval RH RT hx
        have hb := bnds_run (w := w) RH RT hq hp hm h1 h2 h3 h5
        simp only [V.conc] at ex
        rw [slice_ofA (dst := dst) (ty := ty) (pos := pos) (after := after) (guard := guard) (pureRun_run hu) (pureRun_run hn) ex hb]
        have k1 : ¬ m = q := by omega
        have k2 : ¬ (p - q = 0 ∧ m - q = 0) := by omega
        simp only [V.conc, subOf, k1, k2, false_and, if_false, addr_add, Nat.add_assoc]
      · cases hv
    · cases hv
  · cases hv
theorem lit_run {P : Program} {g : Operand → Value} (hP : c.P = P) {T : TypeId} {len : Nat} {parts : Array (Nat × Operand)} {e : TypeId} {n0 : Nat} {cells : Array Value} (hl : litCells c T len (parts.map fun (i, x) => (i, g x)).toList = some (e, n0, cells)) :
    (execOp g ⟨dst, .buildSlice T len parts, ty, pos, after, guard⟩).run P w = .ok (.value (.slice (some ⟨w.heap.size, 0, none⟩) len len)) (w.alloc (.cells cells e)) := by
  subst hP
  unfold litCells at hl
  split at hl
  · rename_i e' hu
    split at hl
    · rename_i n z hn hz
      split at hl
      · cases hl
      · rename_i hlen
        rw [not_or] at hlen
        obtain ⟨h1, h2⟩ := hlen
        split at hl
        · rename_i cells' hf
          simp only [Option.some.injEq, Prod.mk.injEq] at hl
          obtain ⟨rfl, rfl, rfl⟩ := hl
          simp only [execOp, Instr.buildSlice]
          generalize (parts.map fun (i, x) => (i, g x)) = ps at hf ⊢
          rcases Nat.eq_zero_or_pos len with h0 | h0
          · subst h0
            simp only [Nat.zero_mul, Array.range_zero', Array.map_empty] at hf
            simp [go_sem, pureRun_run hu, pureRun_run hn, hf]
          · have h1' : ¬ len * n = 0 := by
              have := Nat.mul_pos h0 (Nat.pos_of_ne_zero h1)
              omega
            have h3 : ¬ len = 0 := by omega
            simp [go_sem, pureRun_run hu, pureRun_run hn, h1', h2]
            rw [pureRun_run hz]
            simp only [Result.andThen_ok]
            unfold Value.cells at hf
            simp only [hf]
            simp [go_sem]
        · cases hl
    · cases hl
  · cases hl
theorem lit_size {P : Cfg} {T : TypeId} {len : Nat} {ps : List (Nat × Value)} {e : TypeId} {n : Nat} {cells : Array Value} (hl : litCells P T len ps = some (e, n, cells)) : cells.size = len * n := by
  unfold litCells at hl
  split at hl
  · split at hl
    · split at hl
      · cases hl
      · split at hl
        · rename_i cs hf
          simp only [Option.some.injEq, Prod.mk.injEq] at hl
          obtain ⟨_, rfl, rfl⟩ := hl
          have key : ∀ (ps : List (Nat × Value)) (c0 c1 : Array Value) (place : Nat → Option (Nat × Nat)), Instr.fill place c0 ps = some c1 → c1.size = c0.size := by
            intro ps
            induction ps with
            | nil => intro c0 c1 pl hh; simp only [Instr.fill, Option.some.injEq] at hh; rw [hh]
            | cons p ps ih =>
              intro c0 c1 pl hh
              obtain ⟨i, v⟩ := p
              simp only [Instr.fill] at hh
              split at hh
              · cases hh
              · split at hh
                · cases hh
                · rw [ih _ _ _ hh]
                  rename_i off size _ _
                  have gen : ∀ (l : List (Value × Nat)) (c : Array Value), (l.foldl (fun cs (p : Value × Nat) => cs.setIfInBounds (off + p.2) p.1) c).size = c.size := by
                    intro l
                    induction l with
                    | nil => intro c; rfl
                    | cons x l ih' => intro c; simp only [List.foldl_cons]; rw [ih']; simp
                  rw [← Array.foldl_toList]
                  exact gen _ _
          rw [key _ _ _ _ hf]
          simp
        · cases hl
    · cases hl
  · cases hl
theorem mk0_under (n : Nat) (z : Array Value) (k : Nat) : unders n (mk0 z k) = true := by
  rw [unders_iff]
  intro x hx
  simp only [mk0, List.mem_map] at hx
  obtain ⟨i, _, rfl⟩ := hx
  rfl
theorem mk0_conc (ρ : Ren) (z : Array Value) {k m : Nat} (h : k ≤ m) : madeCells z m = (concs ρ (mk0 z k) ++ (madeCells z m).toList.drop k).toArray := by
  apply Array.toList_inj.1
  conv => lhs; rw [← List.take_append_drop k (madeCells z m).toList]
  simp only
  congr 1
  apply List.ext_getElem?
  intro i
  rw [concs_get, List.getElem?_take]
  simp only [mk0, madeCells, Array.toList_map, Array.toList_range, List.getElem?_map]
  rcases Nat.lt_or_ge i k with hi | hi
  · rw [if_pos hi, List.getElem?_range hi, List.getElem?_range (by omega)]
    rfl
  · rw [if_neg (by omega), List.getElem?_eq_none (by simpa using hi)]
    rfl
theorem litV_run {t : List V} {a : Act} {h : Heap} {w : World} (RH : RelH c ρ h w) (RT : RelT ρ h.length t a) {T : TypeId} {len : Nat} {parts : Array (Nat × Operand)} {e : TypeId} {n : Nat} {cells : List V} (hv : litV c t T len parts = some (e, n, cells)) :
    (execOp a.eval ⟨dst, .buildSlice T len parts, ty, pos, after, guard⟩).run c.P w = .ok (.value (.slice (some ⟨w.heap.size, 0, none⟩) len len)) (w.alloc (.cells (concs ρ cells).toArray e)) ∧ unders h.length cells = true ∧ cells.length = len * n := by
  unfold litV at hv
  split at hv
  · rename_i e' hu
    split at hv
    · rename_i n' z ps hn hz hp
      split at hv
      · cases hv
      · rename_i hlen
        rw [not_or, not_or] at hlen
        obtain ⟨h1, h0, h2⟩ := hlen
        split at hv
        · rename_i cells' hf
          split at hv
          · rename_i hcl
            simp only [Option.some.injEq, Prod.mk.injEq] at hv
            obtain ⟨rfl, rfl, rfl⟩ := hv
            obtain ⟨e1, e2⟩ := opndsP_ok RH RT _ _ hp
            obtain ⟨k1, k2⟩ := fill_conc (ρ := ρ) ps _ _ e2 (mk0_under _ _ _) hf
            refine ⟨?_, k2, hcl⟩
            have e3 : (concs ρ (mk0 z.cells (len * n'))).toArray = Array.map (fun x => z.cells[x % z.cells.size]!) (Array.range (len * n')) := by
              apply Array.toList_inj.1
              simp [mk0, concs_map, V.conc]
            rw [e3, ← e1] at k1
            have k1' : Instr.fill (fun i => some (i * n', n')) (Array.map (fun x => z.cells[x % z.cells.size]!) (Array.range (len * n'))) (parts.map fun (i, x) => (i, a.eval x)).toList = some (concs ρ cells').toArray := by
              rw [← k1, Array.toList_map]
            simp only [execOp, Instr.buildSlice]
            generalize (parts.map fun (i, x) => (i, a.eval x)) = qs at k1' ⊢
            have h1' : ¬ len * n' = 0 := by
              have := Nat.mul_pos (Nat.pos_of_ne_zero h0) (Nat.pos_of_ne_zero h1)
              omega
            have h3 : ¬ len = 0 := h0
            simp [go_sem, pureRun_run hu, pureRun_run hn, h1', h2]
            rw [pureRun_run hz]
            simp only [Result.andThen_ok]
            unfold Value.cells at k1'
            simp only [k1']
            simp [go_sem]
          · cases hv
        · cases hv
    · cases hv
  · cases hv
end
theorem tell_ok {n : Nat} {h h2 : Heap} {ans ans' : List Ans} {cons : List Prop} (he : tell n h ans = some (h2, ans', cons)) (hc : ∀ p ∈ cons, p) : h2 = h := by
  unfold tell at he
  split at he
  · split at he
    · split at he
      · rename_i cs ty own hn
        simp only [Option.some.injEq, Prod.mk.injEq] at he
        obtain ⟨rfl, _, rfl⟩ := he
        have h1 := hc _ (List.mem_singleton.2 rfl)
        subst h1
        obtain ⟨hl, hx⟩ := List.getElem?_eq_some_iff.1 hn
        rw [← hx]
        exact List.set_getElem_self hl
      · cases he
    · simp only [Option.some.injEq, Prod.mk.injEq] at he
      exact he.1.symm
  · simp only [Option.some.injEq, Prod.mk.injEq] at he
    exact he.1.symm
theorem evOp_sound {cf : CF} (hcf : CallOk c cf) (hfn : ∀ f, c.fns f = true → Callable c.P f) {ans : List Ans} {o : Oper} {out : Out} (he : evOp c cf lim t h ans o = some out) (hc : ∀ p ∈ out.cons, p)
    (RH : RelH c ρ h w) (RT : RelT ρ h.length t a) (hL : c.L ≤ lim) (hlh : lim ≤ h.length) {K : Act → World → Prop} {Q : Exit → Act → World → Prop}
    (hK : ∀ ρ' w', ρ'.unk = ρ.unk → RelH c ρ' out.h w' → Fr lim h.length ρ h w ρ' out.h w' → out.v.under out.h.length = true → K (a.put o.dst (out.v.conc ρ')) w') : o.wpIn (FW r) 0 c.P a w K Q := by
  obtain ⟨dst, op, ty, pos, after, guard⟩ := o
  have plain : ∀ {v : V}, out.v = v → out.h = h → v.under h.length = true → (∀ k, op ≠ .defer k) → (execOp a.eval ⟨dst, op, ty, pos, after, guard⟩).run c.P w = .ok (.value (v.conc ρ)) w → Oper.wpIn (FW r) 0 c.P ⟨dst, op, ty, pos, after, guard⟩ a w K Q := fun {v} e1 e2 hu hd hr => by
    refine value_step hd hr ?_
    subst e1
    refine hK ρ w rfl ?_ ?_ ?_
    · rw [e2]; exact RH
    · rw [e2]; exact Fr.refl lim ρ h w hlh (Nat.le_refl _)
    · rw [e2]; exact hu
  have gen : evGen c t h ans ⟨dst, op, ty, pos, after, guard⟩ = some out → Oper.wpIn (FW r) 0 c.P ⟨dst, op, ty, pos, after, guard⟩ a w K Q := fun h1 => by
    unfold evGen at h1
    dsimp only at h1
    split at h1
    · rename_i v cons hb
      simp only [Option.some.injEq] at h1
      subst h1
      obtain ⟨hr, hu⟩ := bare_run RH RT (o := ⟨dst, op, ty, pos, after, guard⟩) hb hc
      exact plain rfl rfl hu (fun k e => by subst e; simp [bareOp] at hb) hr
    · split at h1
      · rename_i l hl
        split at h1
        · rename_i hall
          split at h1
          · rename_i v hp
            simp only [Option.some.injEq] at h1
            subst h1
            have hcong : execOp (rawOf c t) ⟨dst, op, ty, pos, after, guard⟩ = execOp a.eval ⟨dst, op, ty, pos, after, guard⟩ :=
              execOp_congr (o := ⟨dst, op, ty, pos, after, guard⟩) hl fun x hx => rawOf_eval RH RT (List.all_eq_true.1 hall x hx)
            rw [hcong] at hp
            exact plain rfl rfl rfl (fun k e => by subst e; simp [plainOpnds] at hl) (pureRun_run hp w)
          · cases h1
        · cases h1
      · cases h1
  cases op with
  | move x =>
    simp only [evOp, oMove, oPick, oAlloc, oBox, oLoad, oStore, oFieldAddr, oNilCheck, oMakeFunc, oCall, oLen, oClear, oMakeMap, oLookup, oUpdate, oAppend, oConvert, oSlice, oIndexAddr, oBuildSlice, oMakeSlice, oBinOp, oExtract, oField, oBuild, oDelete, oEntry, oEntryStore] at he
    split at he
    · rename_i v hv
      simp only [Option.some.injEq] at he
      subst he
      refine plain rfl rfl (opnd_under RH RT hv) (by intro k; simp) ?_
      rw [← opnd_eval RH RT hv]
      rfl
    · cases he
  | assign x =>
    simp only [evOp, oAssign] at he
    split at he
    · rename_i v hv
      have hr : (execOp a.eval ⟨dst, .assign x, ty, pos, after, guard⟩).run c.P w = .ok (.value (v.conc ρ)) w := by
        rw [← opnd_eval RH RT hv]
        rfl
      split at he
      · rename_i v' ans' hq
        cases v with
        | raw u =>
          simp only [Option.some.injEq] at he
          subst he
          have e : u = v' := hc _ List.mem_cons_self
          subst e
          exact plain rfl rfl (opnd_under RH RT hv) (by intro k; simp) hr
        | _ => cases he
      · simp only [Option.some.injEq] at he
        subst he
        exact plain rfl rfl (opnd_under RH RT hv) (by intro k; simp) hr
    · cases he
  | pick x y z =>
    simp only [evOp, oMove, oPick, oAlloc, oBox, oLoad, oStore, oFieldAddr, oNilCheck, oMakeFunc, oCall, oLen, oClear, oMakeMap, oLookup, oUpdate, oAppend, oConvert, oSlice, oIndexAddr, oBuildSlice, oMakeSlice, oBinOp, oExtract, oField, oBuild, oDelete, oEntry, oEntryStore] at he
    split at he
    · rename_i b hx
      split at he
      · rename_i q ans' cons hq
        split at he
        · rename_i v hv
          simp only [Option.some.injEq] at he
          subst he
          have hbq : b = q := askB_ok hq hc
          subst hbq
          have ex := opnd_eval RH RT hx
          simp only [V.conc] at ex
          refine plain rfl rfl (opnd_under RH RT hv) (by intro k; simp) ?_
          have ev := opnd_eval RH RT hv
          rw [← ev]
          generalize a.eval = g at ex ⊢
          cases b <;> simp [execOp, go_sem, ex, asBool]
        · cases he
      · cases he
    · cases he
  | alloc T =>
    simp only [evOp, oMove, oPick, oAlloc, oBox, oLoad, oStore, oFieldAddr, oNilCheck, oMakeFunc, oCall, oLen, oClear, oMakeMap, oLookup, oUpdate, oAppend, oConvert, oSlice, oIndexAddr, oBuildSlice, oMakeSlice, oBinOp, oExtract, oField, oBuild, oDelete, oEntry, oEntryStore] at he
    split at he
    · rename_i z hz
      simp only [Option.some.injEq] at he
      subst he
      have hr : (execOp a.eval ⟨dst, .alloc T, ty, pos, after, guard⟩).run c.P w = .ok (.value (.pointer (some ⟨w.heap.size, 0, none⟩))) (w.alloc (.cells z.cells T)) := by
        generalize a.eval = g
        have hz' := pureRun_run hz
        simp only [execOp, Instr.alloc, newVar, newRow, newObj]
        generalize zeroValue T = s at hz' ⊢
        simp [go_sem, hz']
        rfl
      have hA := relH_alloc RH (o := .cells z.cells T) (B := .cells (z.cells.toList.map .raw) T .rw) (l := Loc.at w.heap.size) rfl (unders_raw _ _) (by have := cellsOk_alloc (ρ := ρ) (w := w) (xs := z.cells.toList.map .raw) (ty := T); rw [concs_raw] at this; exact this)
      refine value_step (by intro k; simp) hr ?_
      have := hK (ρ.push h.length (Loc.at w.heap.size)) (w.alloc (.cells z.cells T)) rfl hA (fr_alloc hlh rfl) (by simp [V.under])
      simpa [V.conc, push_new, Loc.at] using this
    · cases he
  | box T x =>
    simp only [evOp, oMove, oPick, oAlloc, oBox, oLoad, oStore, oFieldAddr, oNilCheck, oMakeFunc, oCall, oLen, oClear, oMakeMap, oLookup, oUpdate, oAppend, oConvert, oSlice, oIndexAddr, oBuildSlice, oMakeSlice, oBinOp, oExtract, oField, oBuild, oDelete, oEntry, oEntryStore] at he
    split at he
    · rename_i xs hxs
      obtain ⟨v, hv, hcv⟩ := Option.bind_eq_some_iff.1 hxs
      simp only [Option.some.injEq] at he
      subst he
      have ex := opnd_eval RH RT hv
      have hcs := cellsV_conc ρ hcv
      have hr : (execOp a.eval ⟨dst, .box T x, ty, pos, after, guard⟩).run c.P w = .ok (.value (.pointer (some ⟨w.heap.size, 0, none⟩))) (w.alloc (.cells (concs ρ xs).toArray T)) := by
        have e : (concs ρ xs).toArray = (a.eval x).cells := by rw [ex]; apply Array.toList_inj.1; rw [hcs]
        rw [e]
        generalize a.eval = g
        simp only [execOp, Instr.box, newVar, newRow, newObj]
        generalize (g x).cells = q
        simp [go_sem]
        rfl
      have hA := relH_alloc RH (o := .cells (concs ρ xs).toArray T) (B := .cells xs T .rw) (l := Loc.at w.heap.size) rfl (cellsV_under hcv (opnd_under RH RT hv)) cellsOk_alloc
      refine value_step (by intro k; simp) hr ?_
      have := hK (ρ.push h.length (Loc.at w.heap.size)) (w.alloc (.cells (concs ρ xs).toArray T)) rfl hA (fr_alloc hlh rfl) (by simp [V.under])
      simpa [V.conc, push_new, Loc.at] using this
    · cases he
  | load T x =>
    simp only [evOp, oMove, oPick, oAlloc, oBox, oLoad, oStore, oFieldAddr, oNilCheck, oMakeFunc, oCall, oLen, oClear, oMakeMap, oLookup, oUpdate, oAppend, oConvert, oSlice, oIndexAddr, oBuildSlice, oMakeSlice, oBinOp, oExtract, oField, oBuild, oDelete, oEntry, oEntryStore] at he
    split at he
    · rename_i b off hx
      split at he
      · rename_i v ans' cons hla
        simp only [Option.some.injEq] at he
        subst he
        have hv := loadA_ok hla hc
        have ex := opnd_eval RH RT hx
        simp only [V.conc] at ex
        obtain ⟨hl, hu⟩ := load_conc RH hv
        refine plain rfl rfl hu (by intro k; simp) ?_
        generalize a.eval = g at ex ⊢
        have e : execOp g ⟨dst, .load T x, ty, pos, after, guard⟩ = (do let q ← loadVar T ⟨(ρ.blk b).n, (ρ.blk b).pre.length + off, none⟩; pure (Next.value q)) := by simp only [execOp, Instr.loadAt, Instr.sureAddr, ex]; rfl
        rw [e]
        generalize loadVar T ⟨(ρ.blk b).n, (ρ.blk b).pre.length + off, none⟩ = s at hl ⊢
        simp [go_sem, hl]
      · cases he
    · cases he
  | store T x y =>
    simp only [evOp, oMove, oPick, oAlloc, oBox, oLoad, oStore, oFieldAddr, oNilCheck, oMakeFunc, oCall, oLen, oClear, oMakeMap, oLookup, oUpdate, oAppend, oConvert, oSlice, oIndexAddr, oBuildSlice, oMakeSlice, oBinOp, oExtract, oField, oBuild, oDelete, oEntry, oEntryStore] at he
    split at he
    · rename_i b off v hx hy
      split at he
      · rename_i h' ans' cons hsa
        simp only [Option.some.injEq] at he
        subst he
        have hs := storeA_ok hsa hc
        have ex := opnd_eval RH RT hx
        have ey := opnd_eval RH RT hy
        simp only [V.conc] at ex
        obtain ⟨w', h1, h2, h3⟩ := store_conc RH hL hs
        have hr : (execOp a.eval ⟨dst, .store T x y, ty, pos, after, guard⟩).run c.P w = .ok .skip w' := by
          rw [← ey] at h1
          generalize a.eval = g at ex h1 ⊢
          have e : execOp g ⟨dst, .store T x y, ty, pos, after, guard⟩ = (do storeVar T ⟨(ρ.blk b).n, (ρ.blk b).pre.length + off, none⟩ (g y); pure Next.skip) := by simp only [execOp, Instr.storeAt, Instr.sureAddr, ex]; rfl
          rw [e]
          generalize storeVar T ⟨(ρ.blk b).n, (ρ.blk b).pre.length + off, none⟩ (g y) = s at h1 ⊢
          simp [go_sem, h1]
        exact skip_step (by intro k; simp) hr (hK ρ w' rfl h2 h3 rfl)
      · cases he
    · cases he
  | fieldAddr s x f =>
    simp only [evOp, oMove, oPick, oAlloc, oBox, oLoad, oStore, oFieldAddr, oNilCheck, oMakeFunc, oCall, oLen, oClear, oMakeMap, oLookup, oUpdate, oAppend, oConvert, oSlice, oIndexAddr, oBuildSlice, oMakeSlice, oBinOp, oExtract, oField, oBuild, oDelete, oEntry, oEntryStore] at he
    split at he
    · rename_i b off d hx hd
      simp only [Option.some.injEq] at he
      subst he
      have ex := opnd_eval RH RT hx
      have hu := opnd_under RH RT hx
      simp only [V.conc] at ex
      have hf := field_conc (b := (ρ.blk b).n) (off := (ρ.blk b).pre.length + off) hd w
      refine plain rfl rfl hu (by intro k; simp) ?_
      generalize a.eval = g at ex ⊢
      simp only [execOp, ex]
      generalize Instr.fieldAt s (.pointer (some ⟨(ρ.blk b).n, (ρ.blk b).pre.length + off, none⟩)) f = s at hf ⊢
      simp [go_sem]
      rw [hf]; simp [V.conc, Nat.add_assoc]
    · cases he
  | nilCheck x =>
    simp only [evOp, oMove, oPick, oAlloc, oBox, oLoad, oStore, oFieldAddr, oNilCheck, oMakeFunc, oCall, oLen, oClear, oMakeMap, oLookup, oUpdate, oAppend, oConvert, oSlice, oIndexAddr, oBuildSlice, oMakeSlice, oBinOp, oExtract, oField, oBuild, oDelete, oEntry, oEntryStore] at he
    split at he
    · rename_i b off hx
      simp only [Option.some.injEq] at he
      subst he
      have ex := opnd_eval RH RT hx
      simp only [V.conc] at ex
      refine plain rfl rfl (opnd_under RH RT hx) (by intro k; simp) ?_
      generalize a.eval = g at ex ⊢
      simp [execOp, go_sem, ex, V.conc]
    · rename_i f y z hx
      simp only [Option.some.injEq] at he
      subst he
      have ex := opnd_eval RH RT hx
      simp only [V.conc] at ex
      refine plain rfl rfl (opnd_under RH RT hx) (by intro k; simp) ?_
      generalize a.eval = g at ex ⊢
      simp [execOp, go_sem, ex, V.conc]
    · rename_i b hx
      simp only [Option.some.injEq] at he
      subst he
      have ex := opnd_eval RH RT hx
      simp only [V.conc] at ex
      refine plain rfl rfl (opnd_under RH RT hx) (by intro k; simp) ?_
      generalize a.eval = g at ex ⊢
      simp [execOp, go_sem, ex, V.conc]
    · cases he
  | makeFunc f x y =>
    simp only [evOp, oMove, oPick, oAlloc, oBox, oLoad, oStore, oFieldAddr, oNilCheck, oMakeFunc, oCall, oLen, oClear, oMakeMap, oLookup, oUpdate, oAppend, oConvert, oSlice, oIndexAddr, oBuildSlice, oMakeSlice, oBinOp, oExtract, oField, oBuild, oDelete, oEntry, oEntryStore] at he
    split at he
    · rename_i xs ys hx hy
      simp only [Option.some.injEq] at he
      subst he
      obtain ⟨e1, u1⟩ := opnds_ok RH RT _ _ hx
      obtain ⟨e2, u2⟩ := opnds_ok RH RT _ _ hy
      refine plain rfl rfl (by simp [V.under, u1, u2]) (by intro k; simp) ?_
      have k1 : x.map a.eval = (concs ρ xs).toArray := by apply Array.toList_inj.1; simpa using e1
      have k2 : y.map a.eval = (concs ρ ys).toArray := by apply Array.toList_inj.1; simpa using e2
      generalize a.eval = g at k1 k2 ⊢
      simp [execOp, go_sem, Instr.makeFunc, V.conc, k1, k2]
    · cases he
  | extract x i =>
    simp only [evOp, oMove, oPick, oAlloc, oBox, oLoad, oStore, oFieldAddr, oNilCheck, oMakeFunc, oCall, oLen, oClear, oMakeMap, oLookup, oUpdate, oAppend, oConvert, oSlice, oIndexAddr, oBuildSlice, oMakeSlice, oBinOp, oExtract, oField, oBuild, oDelete, oEntry, oEntryStore] at he
    split at he
    · rename_i v hv
      simp only [Option.some.injEq] at he
      subst he
      unfold extractV at hv
      split at hv
      · rename_i l hx
        have ex := opnd_eval RH RT hx
        have hu := opnd_under RH RT hx
        simp only [V.conc] at ex
        simp only [V.under] at hu
        refine plain rfl rfl ((unders_iff _ _).1 hu v (List.mem_of_getElem? hv)) (by intro k; simp) ?_
        have e : (concs ρ l).toArray[i]? = some (v.conc ρ) := by rw [List.getElem?_toArray, concs_get, hv]; rfl
        generalize a.eval = g at ex ⊢
        simp [execOp, go_sem, ex, Instr.extract, e]
      · cases hv
    · exact gen he
  | field T x f =>
    simp only [evOp, oMove, oPick, oAlloc, oBox, oLoad, oStore, oFieldAddr, oNilCheck, oMakeFunc, oCall, oLen, oClear, oMakeMap, oLookup, oUpdate, oAppend, oConvert, oSlice, oIndexAddr, oBuildSlice, oMakeSlice, oBinOp, oExtract, oField, oBuild, oDelete, oEntry, oEntryStore] at he
    split at he
    · rename_i v hv
      simp only [Option.some.injEq] at he
      subst he
      unfold fieldV at hv
      split at hv
      · rename_i l hx
        split at hv
        · rename_i fields hF
          split at hv
          · rename_i fd hfd
            have ex := opnd_eval RH RT hx
            have hu := opnd_under RH RT hx
            simp only [V.conc] at ex
            simp only [V.under] at hu
            obtain ⟨k1, k2⟩ := part_conc (ρ := ρ) hu hv w
            refine plain rfl rfl k2 (by intro k; simp) ?_
            have r2 := pureRun_run hF w
            generalize a.eval = g at ex ⊢
            simp only [execOp, ex, Instr.field]
            generalize underlying T = s2 at r2 ⊢
            simp [go_sem, part] at k1
            simp [go_sem, r2, hfd, asAgg, k1]
          · cases hv
        · cases hv
      · cases hv
    · exact gen he
  | build T parts =>
    simp only [evOp, oMove, oPick, oAlloc, oBox, oLoad, oStore, oFieldAddr, oNilCheck, oMakeFunc, oCall, oLen, oClear, oMakeMap, oLookup, oUpdate, oAppend, oConvert, oSlice, oIndexAddr, oBuildSlice, oMakeSlice, oBinOp, oExtract, oField, oBuild, oDelete, oEntry, oEntryStore] at he
    split at he
    · rename_i r hr
      simp only [Option.some.injEq] at he
      subst he
      exact gen hr
    · split at he
      · rename_i v hv
        simp only [Option.some.injEq] at he
        subst he
        obtain ⟨k1, k2⟩ := build_run RH RT hv
        refine plain rfl rfl k2 (by intro k; simp) ?_
        generalize a.eval = g at k1 ⊢
        simp only [execOp]
        generalize Instr.build T (parts.map fun (i, x) => (i, g x)) = s1 at k1 ⊢
        simp [go_sem, k1]
      · cases he
  | indexAddr T x ix =>
    simp only [evOp, oMove, oPick, oAlloc, oBox, oLoad, oStore, oFieldAddr, oNilCheck, oMakeFunc, oCall, oLen, oClear, oMakeMap, oLookup, oUpdate, oAppend, oConvert, oSlice, oIndexAddr, oBuildSlice, oMakeSlice, oBinOp, oExtract, oField, oBuild, oDelete, oEntry, oEntryStore] at he
    split at he
    · rename_i v cons hv
      simp only [Option.some.injEq] at he
      subst he
      obtain ⟨hr, hu⟩ := index_run (dst := dst) (ty := ty) (pos := pos) (after := after) (guard := guard) RH RT hv hc
      exact plain rfl rfl hu (by intro k; simp) hr
    · cases he
  | convert src des x =>
    simp only [evOp, oMove, oPick, oAlloc, oBox, oLoad, oStore, oFieldAddr, oNilCheck, oMakeFunc, oCall, oLen, oClear, oMakeMap, oLookup, oUpdate, oAppend, oConvert, oSlice, oIndexAddr, oBuildSlice, oMakeSlice, oBinOp, oExtract, oField, oBuild, oDelete, oEntry, oEntryStore] at he
    split at he
    · rename_i e s hv
      simp only [Option.some.injEq] at he
      subst he
      obtain ⟨l, w', hr, k1, k2⟩ := bytes_run (dst := dst) (ty := ty) (pos := pos) (after := after) (guard := guard) RH RT hlh hv
      exact value_step (by intro k; simp) hr (hK _ _ rfl k1 k2 (by simp [V.under]))
    · split at he
      · rename_i s hv
        simp only [Option.some.injEq] at he
        subst he
        exact plain rfl rfl rfl (by intro k; simp) (str_run (dst := dst) (ty := ty) (pos := pos) (after := after) (guard := guard) RH RT hv)
      · exact gen he
  | slice T x lo hi mx =>
    simp only [evOp, oMove, oPick, oAlloc, oBox, oLoad, oStore, oFieldAddr, oNilCheck, oMakeFunc, oCall, oLen, oClear, oMakeMap, oLookup, oUpdate, oAppend, oConvert, oSlice, oIndexAddr, oBuildSlice, oMakeSlice, oBinOp, oExtract, oField, oBuild, oDelete, oEntry, oEntryStore] at he
    split at he
    · rename_i v cons hv
      simp only [Option.some.injEq] at he
      subst he
      obtain ⟨hr, hu⟩ := slice_run (dst := dst) (ty := ty) (pos := pos) (after := after) (guard := guard) RH RT hv hc
      exact plain rfl rfl hu (by intro k; simp) hr
    · split at he
      · rename_i v hv
        simp only [Option.some.injEq] at he
        subst he
        obtain ⟨hr, hu⟩ := sub_run (dst := dst) (ty := ty) (pos := pos) (after := after) (guard := guard) RH RT hv
        exact plain rfl rfl hu (by intro k; simp) hr
      · exact gen he
  | makeMap T q =>
    simp only [evOp, oMove, oPick, oAlloc, oBox, oLoad, oStore, oFieldAddr, oNilCheck, oMakeFunc, oCall, oLen, oClear, oMakeMap, oLookup, oUpdate, oAppend, oConvert, oSlice, oIndexAddr, oBuildSlice, oMakeSlice, oBinOp, oExtract, oField, oBuild, oDelete, oEntry, oEntryStore] at he
    split at he
    · rename_i hq
      simp only [Option.some.injEq] at he
      subst he
      have hr : (execOp a.eval ⟨dst, .makeMap T q, ty, pos, after, guard⟩).run c.P w = .ok (.value (.map (some w.heap.size))) (w.alloc (.map #[] 0)) := by
        have hn : ∀ o, (newObj o).run c.P w = .ok w.heap.size (w.alloc o) := fun o => rfl
        cases q with
        | none =>
          generalize a.eval = g
          simp [execOp, Instr.makeMap, go_sem, hn]
        | some x =>
          dsimp only at hq
          split at hq
          · rename_i k n kt el hx hT
            have ex := opnd_eval RH RT hx
            simp only [V.conc] at ex
            have r0 := pureRun_run hT w
            generalize a.eval = g at ex ⊢
            simp only [execOp, Instr.makeMap, Option.map_some, ex]
            generalize underlying T = s at r0 ⊢
            simp [go_sem, r0, hn, asInt, asIntOf]
          · cases hq
      have hA := relH_alloc RH (o := .map #[] 0) (B := .mp [] [] [] 0) (l := Loc.at w.heap.size) rfl rfl ⟨rfl, by rw [show (Loc.at w.heap.size).n = w.heap.size from rfl, alloc_this]; rfl⟩
      refine value_step (by intro k; simp) hr ?_
      have := hK (ρ.push h.length (Loc.at w.heap.size)) (w.alloc (.map #[] 0)) rfl hA (fr_alloc hlh rfl) (by simp [V.under])
      simpa [V.conc, push_new, Loc.at] using this
    · cases he
  | lookup T x y two =>
    simp only [evOp, oMove, oPick, oAlloc, oBox, oLoad, oStore, oFieldAddr, oNilCheck, oMakeFunc, oCall, oLen, oClear, oMakeMap, oLookup, oUpdate, oAppend, oConvert, oSlice, oIndexAddr, oBuildSlice, oMakeSlice, oBinOp, oExtract, oField, oBuild, oDelete, oEntry, oEntryStore] at he
    split at he
    · split at he
      · rename_i v cons1 hv
        simp only [Option.some.injEq] at he
        subst he
        obtain ⟨hr, hu⟩ := lookup_run (dst := dst) (ty := ty) (pos := pos) (after := after) (guard := guard) RH RT (lookupT_ok hv hc)
        exact plain rfl rfl hu (by intro k; simp) hr
      · cases he
    · split at he
      · rename_i v hv
        simp only [Option.some.injEq] at he
        subst he
        obtain ⟨hr, hu⟩ := lookup_run (dst := dst) (ty := ty) (pos := pos) (after := after) (guard := guard) RH RT hv
        exact plain rfl rfl hu (by intro k; simp) hr
      · cases he
  | mapEntry T m y =>
    simp only [evOp, oEntry] at he
    split at he
    · rename_i rr hv
      simp only [Option.some.injEq] at he
      subst he
      obtain ⟨w', hr, h2, h3, h4⟩ := entry_run (dst := dst) (ty := ty) (pos := pos) (after := after) (guard := guard) RH RT hL hv
      exact value_step (by intro k; simp) hr (hK ρ w' rfl h2 h3 h4)
    · cases he
  | entryStore T m y x =>
    simp only [evOp, oEntryStore] at he
    split at he
    · rename_i h' hv
      simp only [Option.some.injEq] at he
      subst he
      obtain ⟨w', hr, h2, h3⟩ := entryStore_run (T := T) (dst := dst) (ty := ty) (pos := pos) (after := after) (guard := guard) RH RT hL hv
      exact skip_step (by intro k; simp) hr (hK ρ w' rfl h2 h3 rfl)
    · cases he
  | mapUpdate T m y x =>
    simp only [evOp, oMove, oPick, oAlloc, oBox, oLoad, oStore, oFieldAddr, oNilCheck, oMakeFunc, oCall, oLen, oClear, oMakeMap, oLookup, oUpdate, oAppend, oConvert, oSlice, oIndexAddr, oBuildSlice, oMakeSlice, oBinOp, oExtract, oField, oBuild, oDelete, oEntry, oEntryStore] at he
    split at he
    · split at he
      · rename_i h' hv
        simp only [Option.some.injEq] at he
        subst he
        obtain ⟨w', hr, h2, h3⟩ := update_run (dst := dst) (ty := ty) (pos := pos) (after := after) (guard := guard) RH RT hL (updateN_ok hv hc) (.inl rfl)
        exact skip_step (by intro k; simp) hr (hK ρ w' rfl h2 h3 rfl)
      · cases he
    · split at he
      · split at he
        · rename_i h' hv
          simp only [Option.some.injEq] at he
          subst he
          obtain ⟨w', hr, h2, h3⟩ := update_run (dst := dst) (ty := ty) (pos := pos) (after := after) (guard := guard) RH RT hL (updateT_ok hv hc) (.inl rfl)
          exact skip_step (by intro k; simp) hr (hK ρ w' rfl h2 h3 rfl)
        · cases he
      · split at he
        · rename_i h' hv
          simp only [Option.some.injEq] at he
          subst he
          obtain ⟨w', hr, h2, h3⟩ := update_run (dst := dst) (ty := ty) (pos := pos) (after := after) (guard := guard) RH RT hL hv (.inl rfl)
          exact skip_step (by intro k; simp) hr (hK ρ w' rfl h2 h3 rfl)
        · cases he
  | insert T m y x =>
    simp only [evOp, oMove, oPick, oAlloc, oBox, oLoad, oStore, oFieldAddr, oNilCheck, oMakeFunc, oCall, oLen, oClear, oMakeMap, oLookup, oUpdate, oAppend, oConvert, oSlice, oIndexAddr, oBuildSlice, oMakeSlice, oBinOp, oExtract, oField, oBuild, oDelete, oEntry, oEntryStore] at he
    split at he
    · split at he
      · rename_i h' hv
        simp only [Option.some.injEq] at he
        subst he
        obtain ⟨w', hr, h2, h3⟩ := update_run (dst := dst) (ty := ty) (pos := pos) (after := after) (guard := guard) RH RT hL (updateN_ok hv hc) (.inr rfl)
        exact skip_step (by intro k; simp) hr (hK ρ w' rfl h2 h3 rfl)
      · cases he
    · split at he
      · split at he
        · rename_i h' hv
          simp only [Option.some.injEq] at he
          subst he
          obtain ⟨w', hr, h2, h3⟩ := update_run (dst := dst) (ty := ty) (pos := pos) (after := after) (guard := guard) RH RT hL (updateT_ok hv hc) (.inr rfl)
          exact skip_step (by intro k; simp) hr (hK ρ w' rfl h2 h3 rfl)
        · cases he
      · split at he
        · rename_i h' hv
          simp only [Option.some.injEq] at he
          subst he
          obtain ⟨w', hr, h2, h3⟩ := update_run (dst := dst) (ty := ty) (pos := pos) (after := after) (guard := guard) RH RT hL hv (.inr rfl)
          exact skip_step (by intro k; simp) hr (hK ρ w' rfl h2 h3 rfl)
        · cases he
  | buildSlice T len parts =>
    simp only [evOp, oMove, oPick, oAlloc, oBox, oLoad, oStore, oFieldAddr, oNilCheck, oMakeFunc, oCall, oLen, oClear, oMakeMap, oLookup, oUpdate, oAppend, oConvert, oSlice, oIndexAddr, oBuildSlice, oMakeSlice, oBinOp, oExtract, oField, oBuild, oDelete, oEntry, oEntryStore] at he
    split at he
    · rename_i hall
      split at he
      · rename_i e n cells hl
        simp only [Option.some.injEq] at he
        subst he
        have hmx : len ≤ maxLen := owe_ok hc
        have hp : parts.toList.map (fun p => (p.1, rawOf c t p.2)) = (parts.map fun (i, x) => (i, a.eval x)).toList := by
          rw [Array.toList_map]
          refine List.map_congr_left fun p hp => ?_
          rw [rawOf_eval RH RT (List.all_eq_true.1 hall p hp)]
        rw [hp] at hl
        have hr := lit_run (P := c.P) (g := a.eval) (w := w) (dst := dst) (ty := ty) (pos := pos) (after := after) (guard := guard) (c := c) rfl hl
        have hsz := lit_size hl
        have hA := relH_alloc RH (o := .cells cells e) (B := .cells (cells.toList.map .raw) e (.row n)) (l := ⟨w.heap.size, [], [], len, false⟩) rfl (unders_raw _ _)
          ⟨fun hn => (by cases hn), fun _ => ⟨(0, 0), (by rw [show (⟨w.heap.size, [], [], len, false⟩ : Loc).n = w.heap.size from rfl, alloc_this]; simp [Loc.row, concs_raw]), fun _ => rfl⟩, fun sz hsz' => (by cases hsz'; exact ⟨rfl, fun _ => ⟨by simpa using hsz, hmx⟩⟩)⟩
        refine value_step (by intro k; simp) hr ?_
        have := hK (ρ.push h.length ⟨w.heap.size, [], [], len, false⟩) (w.alloc (.cells cells e)) rfl hA (fr_alloc hlh rfl) (by simp [V.under])
        simpa [V.conc, push_new, slcOf] using this
      · cases he
    · split at he
      · rename_i e n cells hl
        simp only [Option.some.injEq] at he
        subst he
        have hmx : len ≤ maxLen := owe_ok hc
        obtain ⟨hr, hun, hsz⟩ := litV_run (w := w) (dst := dst) (ty := ty) (pos := pos) (after := after) (guard := guard) RH RT hl
        have hA := relH_alloc RH (o := .cells (concs ρ cells).toArray e) (B := .cells cells e (.row n)) (l := ⟨w.heap.size, [], [], len, false⟩) rfl hun
          ⟨fun hn => (by cases hn), fun _ => ⟨(0, 0), (by rw [show (⟨w.heap.size, [], [], len, false⟩ : Loc).n = w.heap.size from rfl, alloc_this]; simp [Loc.row]), fun _ => rfl⟩, fun sz hsz' => (by cases hsz'; exact ⟨rfl, fun _ => ⟨by simpa using hsz, hmx⟩⟩)⟩
        refine value_step (by intro k; simp) hr ?_
        have := hK (ρ.push h.length ⟨w.heap.size, [], [], len, false⟩) (w.alloc (.cells (concs ρ cells).toArray e)) rfl hA (fr_alloc hlh rfl) (by simp [V.under])
        simpa [V.conc, push_new, slcOf] using this
      · cases he
  | makeSlice T l cp =>
    simp only [evOp, oMove, oPick, oAlloc, oBox, oLoad, oStore, oFieldAddr, oNilCheck, oMakeFunc, oCall, oLen, oClear, oMakeMap, oLookup, oUpdate, oAppend, oConvert, oSlice, oIndexAddr, oBuildSlice, oMakeSlice, oBinOp, oExtract, oField, oBuild, oDelete, oEntry, oEntryStore] at he
    split at he
    · rename_i kl n kc m e hl hcp hu
      split at he
      · rename_i i hi
        split at he
        · rename_i z hz
          split at he
          · rename_i hi0
            split at he
            rotate_left
            · cases he
            rename_i h2 ans' cs htell
            simp only [Option.some.injEq] at he
            subst he
            obtain ⟨g1, g2, g3, g4⟩ := owe_ok fun q hq => hc q (List.mem_append_left _ hq)
            have e2 := tell_ok htell fun p hp => hc p (List.mem_append_right _ hp)
            subst e2
            have el := opnd_eval RH RT hl
            have ec := opnd_eval RH RT hcp
            simp only [V.conc] at el ec
            have hr : (execOp a.eval ⟨dst, .makeSlice T l cp, ty, pos, after, guard⟩).run c.P w = .ok (.value (.slice (some ⟨w.heap.size, 0, none⟩) n.toNat m.toNat)) (w.alloc (.cells (madeCells z.cells (m.toNat * i.size)) e)) := by
              have h0 := run_make (P := c.P) w T e i z hu hi hz kl kc n m g1 g2 g3 g4
              generalize a.eval = g at el ec ⊢
              simp only [execOp, el, ec]
              generalize Instr.makeSlice T (.int kl n) (.int kc m) = s at h0 ⊢
              simp [go_sem, h0]
            have hnm : n.toNat * i.size ≤ m.toNat * i.size := Nat.mul_le_mul_right _ (by omega)
            have hA := relH_alloc RH (o := .cells (madeCells z.cells (m.toNat * i.size)) e) (B := .cells (mk0 z.cells (n.toNat * i.size)) e (.row i.size)) (l := ⟨w.heap.size, [], (madeCells z.cells (m.toNat * i.size)).toList.drop (n.toNat * i.size), m.toNat, false⟩) rfl (mk0_under _ _ _)
              ⟨fun hn => (by cases hn), fun _ => ⟨(0, 0), (by rw [show (⟨w.heap.size, [], (madeCells z.cells (m.toNat * i.size)).toList.drop (n.toNat * i.size), m.toNat, false⟩ : Loc).n = w.heap.size from rfl, alloc_this]; simp only [Loc.row, List.nil_append]; conv => lhs; rw [mk0_conc ρ z.cells hnm]), fun _ => rfl⟩, fun sz hsz' => (by
                cases hsz'
                refine ⟨rfl, fun _ => ⟨?_, by simp only [maxLen]; omega⟩⟩
                simp [mk0, madeCells]
                omega)⟩
            refine value_step (by intro k; simp) hr ?_
            have := hK (ρ.push h.length ⟨w.heap.size, [], (madeCells z.cells (m.toNat * i.size)).toList.drop (n.toNat * i.size), m.toNat, false⟩) (w.alloc (.cells (madeCells z.cells (m.toNat * i.size)) e)) rfl hA (fr_alloc hlh rfl) (by simp [V.under])
            simpa [V.conc, push_new, slcOf] using this
          · cases he
        · cases he
      · cases he
    · cases he
  | call k =>
    obtain ⟨callee, args, ats⟩ := k
    cases callee with
    | value f =>
      simp only [evOp, oMove, oPick, oAlloc, oBox, oLoad, oStore, oFieldAddr, oNilCheck, oMakeFunc, oCall, oLen, oClear, oMakeMap, oLookup, oUpdate, oAppend, oConvert, oSlice, oIndexAddr, oBuildSlice, oMakeSlice, oBinOp, oExtract, oField, oBuild, oDelete, oEntry, oEntryStore] at he
      split at he
      · rename_i g first cap xs hx hxs
        split at he
        · rename_i hcal
          have ex := opnd_eval RH RT hx
          have hu := opnd_under RH RT hx
          simp only [V.conc] at ex
          simp only [V.under, Bool.and_eq_true] at hu
          obtain ⟨e1, u1⟩ := opnds_ok RH RT _ _ hxs
          have hcall := hcf.call _ _ _ _ _ _ he hc hL hlh ρ w RH (unders_append (unders_append hu.1 u1) hu.2)
          refine calls_step ex (hfn g hcal) (fun v w' => ∃ ρ', ρ'.unk = ρ.unk ∧ v = out.v.conc ρ' ∧ RelH c ρ' out.h w' ∧ Fr lim h.length ρ h w ρ' out.h w' ∧ out.v.under out.h.length = true) ?_ ?_
          · rw [e1, ← concs_append, ← concs_append]
            refine hcall.mono fun e w' he' => ?_
            obtain ⟨ρ', k1, k2, k3⟩ := he'
            exact ⟨_, k2, ρ', k1, rfl, k3⟩
          · rintro v w' ⟨ρ', k1, rfl, k3, k4, k5⟩
            exact hK ρ' w' k1 k3 k4 k5
        · cases he
      · rename_i b xs hx hxs
        have ex := opnd_eval RH RT hx
        simp only [V.conc] at ex
        obtain ⟨e1, u1⟩ := opnds_ok RH RT _ _ hxs
        obtain ⟨rc, y1, y2, y3⟩ := hcf.yld _ _ _ _ _ _ he hc hL hlh ρ w RH u1
        obtain ⟨_, fn, u, D, y4⟩ := RH.cell b _ y1
        have hround := y3 fn u D y4
        have hargs : args.map a.eval = (concs ρ xs).toArray := by apply Array.toList_inj.1; simpa using e1
        have hrun : (execOp a.eval (⟨dst, .call ⟨.value f, args, ats⟩, ty, pos, after, guard⟩ : Oper)).run c.P w = .ok (.round (ρ.blk b).n fn (((rangeAt c.P rc.f rc.i).1.zip (concs ρ xs).toArray).foldl (fun tmps (t, a) => tmps.setIfInBounds t a) (concs ⟨ρ.blk, u⟩ rc.t).toArray) (rangeAt c.P rc.f rc.i).2.1 (rangeAt c.P rc.f rc.i).2.2) w := by
          have hy := run_yield (P := c.P) (args := (concs ρ xs).toArray) y4 (by simp [Rec.loop, concs_length, y2])
          simp only [Rec.loop] at hy
          rw [← hargs] at hy ⊢
          generalize a.eval = ev at ex hy ⊢
          simp only [execOp, resolve, invoke, Deferred.ofValue, ex, Sem.run_bind, Sem.run_pure, Result.andThen_ok, Array.empty_append, Array.append_empty]
          generalize Instr.yield (ρ.blk b).n (args.map ev) = s at hy ⊢
          simp [go_sem, hy]
        refine upIn (by intro k; simp) ?_
        rw [hrun]
        refine ⟨fun hn => (by cases hn), ?_⟩
        have hround' : RoundIn (FW r) 0 c.P (ρ.blk b).n fn (((rangeAt c.P rc.f rc.i).1.zip (concs ρ xs).toArray).foldl (fun tmps (t, a) => tmps.setIfInBounds t a) (concs ⟨ρ.blk, u⟩ rc.t).toArray) (rangeAt c.P rc.f rc.i).2.1 (rangeAt c.P rc.f rc.i).2.2 w (Post c lim ρ h w out.v out.h) := hround
        refine RoundIn.mono hround' fun e w' he' => ?_
        obtain ⟨ρ', k1, rfl, k3, k4, k5⟩ := he'
        exact hK ρ' w' k1 k3 k4 k5
      · cases he
    | invoke x n => exact gen he
    | builtin b =>
      cases b with
      | len =>
        simp only [evOp, oMove, oPick, oAlloc, oBox, oLoad, oStore, oFieldAddr, oNilCheck, oMakeFunc, oCall, oLen, oClear, oMakeMap, oLookup, oUpdate, oAppend, oConvert, oSlice, oIndexAddr, oBuildSlice, oMakeSlice, oBinOp, oExtract, oField, oBuild, oDelete, oEntry, oEntryStore] at he
        split at he
        · rename_i v hv
          simp only [Option.some.injEq] at he
          subst he
          obtain ⟨hr, hu⟩ := len_run (dst := dst) (ty := ty) (pos := pos) (after := after) (guard := guard) RH RT hv
          exact plain rfl rfl hu (by intro k; simp) hr
        · split at he
          · split at he
            · rename_i v cons1 hv
              simp only [Option.some.injEq] at he
              subst he
              obtain ⟨hr, hu⟩ := lenM_run (dst := dst) (ty := ty) (pos := pos) (after := after) (guard := guard) RH RT (lenN_ok hv hc)
              exact plain rfl rfl hu (by intro k; simp) hr
            · cases he
          · split at he
            · rename_i v cons1 hv
              simp only [Option.some.injEq] at he
              subst he
              obtain ⟨hr, hu⟩ := lenM_run (dst := dst) (ty := ty) (pos := pos) (after := after) (guard := guard) RH RT (lenT_ok hv hc)
              exact plain rfl rfl hu (by intro k; simp) hr
            · cases he
          · split at he
            · rename_i v hv
              simp only [Option.some.injEq] at he
              subst he
              obtain ⟨hr, hu⟩ := lenM_run (dst := dst) (ty := ty) (pos := pos) (after := after) (guard := guard) RH RT hv
              exact plain rfl rfl hu (by intro k; simp) hr
            · exact gen he
      | delete =>
        simp only [evOp, oDelete] at he
        split at he
        · split at he
          · rename_i h' hv
            simp only [Option.some.injEq] at he
            subst he
            obtain ⟨w', hr, h2, h3⟩ := delete_run (dst := dst) (ty := ty) (pos := pos) (after := after) (guard := guard) RH RT hL (deleteN_ok hv hc)
            exact value_step (by intro k; simp) hr (hK ρ w' rfl h2 h3 rfl)
          · cases he
        · split at he
          · rename_i h' hv
            simp only [Option.some.injEq] at he
            subst he
            obtain ⟨w', hr, h2, h3⟩ := delete_run (dst := dst) (ty := ty) (pos := pos) (after := after) (guard := guard) RH RT hL hv
            exact value_step (by intro k; simp) hr (hK ρ w' rfl h2 h3 rfl)
          · cases he
      | clear =>
        simp only [evOp, oMove, oPick, oAlloc, oBox, oLoad, oStore, oFieldAddr, oNilCheck, oMakeFunc, oCall, oLen, oClear, oMakeMap, oLookup, oUpdate, oAppend, oConvert, oSlice, oIndexAddr, oBuildSlice, oMakeSlice, oBinOp, oExtract, oField, oBuild, oDelete, oEntry, oEntryStore] at he
        split at he
        · rename_i h' hv
          simp only [Option.some.injEq] at he
          subst he
          obtain ⟨w', hr, h2, h3⟩ := clear_run (dst := dst) (ty := ty) (pos := pos) (after := after) (guard := guard) RH RT hL hv
          exact value_step (by intro k; simp) hr (hK ρ w' rfl h2 h3 rfl)
        · split at he
          · rename_i h' hv
            simp only [Option.some.injEq] at he
            subst he
            obtain ⟨w', hr, h2, h3⟩ := clearS_run (dst := dst) (ty := ty) (pos := pos) (after := after) (guard := guard) RH RT hL hlh hv
            exact value_step (by intro k; simp) hr (hK ρ w' rfl h2 h3 rfl)
          · cases he
      | append =>
        simp only [evOp, oMove, oPick, oAlloc, oBox, oLoad, oStore, oFieldAddr, oNilCheck, oMakeFunc, oCall, oLen, oClear, oMakeMap, oLookup, oUpdate, oAppend, oConvert, oSlice, oIndexAddr, oBuildSlice, oMakeSlice, oBinOp, oExtract, oField, oBuild, oDelete, oEntry, oEntryStore] at he
        split at he
        · rename_i s x hsx
          split at he
          · rename_i v h' cons hv
            split at he
            rotate_left
            · cases he
            rename_i h2 ans' cs htell
            simp only [Option.some.injEq] at he
            subst he
            have e2 := tell_ok htell fun p hp => hc p (List.mem_append_right _ hp)
            subst e2
            obtain ⟨e1, u1⟩ := opnds_ok RH RT _ _ hsx
            obtain ⟨ρ', w', r1, r2, r3, r4, r5⟩ := append_run (ty := ty) RH hL hlh hv fun p hp => hc p (List.mem_append_left _ hp)
            have hargs : args.map a.eval = #[s.conc ρ, x.conc ρ] := by apply Array.toList_inj.1; simpa [concs] using e1
            have hr : (execOp a.eval ⟨dst, .call ⟨.builtin .append, args, ats⟩, ty, pos, after, guard⟩).run c.P w = .ok (.value (v.conc ρ')) w' := by
              rw [← hargs] at r1
              generalize a.eval = g at r1 ⊢
              simp only [execOp, resolve, invoke, builtin, Sem.run_bind, Sem.run_pure, Result.andThen_ok, r1]
            exact value_step (by intro k; simp) hr (hK ρ' w' r2 r3 r4 r5)
          · cases he
        · cases he
      | _ => exact gen he
  | binOp b T x y U =>
    simp only [evOp, oMove, oPick, oAlloc, oBox, oLoad, oStore, oFieldAddr, oNilCheck, oMakeFunc, oCall, oLen, oClear, oMakeMap, oLookup, oUpdate, oAppend, oConvert, oSlice, oIndexAddr, oBuildSlice, oMakeSlice, oBinOp, oExtract, oField, oBuild, oDelete, oEntry, oEntryStore] at he
    split at he
    · rename_i v hv
      simp only [Option.some.injEq] at he
      subst he
      obtain ⟨hr, hu⟩ := eqV_run (dst := dst) (ty := ty) (pos := pos) (after := after) (guard := guard) (U := U) RH RT hv
      exact plain rfl rfl hu (by intro k; simp) hr
    · split at he
      · rename_i r hg
        simp only [Option.some.injEq] at he
        subst he
        exact gen hg
      · split at he
        · rename_i v hv
          simp only [Option.some.injEq] at he
          subst he
          obtain ⟨hr, hu⟩ := nilV_run (dst := dst) (ty := ty) (pos := pos) (after := after) (guard := guard) (U := U) RH RT hv
          exact plain rfl rfl hu (by intro k; simp) hr
        · cases he
  | _ => exact gen he
def pureOp : Op → Bool
  | .move _ => true
  | .assign _ => true
  | .pick _ _ _ => true
  | .fieldAddr _ _ _ => true
  | .nilCheck _ => true
  | .binOp _ _ _ _ _ => true
  | .unOp _ _ _ => true
  | .extract _ _ => true
  | .field _ _ _ => true
  | .indexAddr _ _ _ => true
  | .index _ _ _ => true
  | .build _ _ => true
  | .makeFunc _ _ _ => true
  | _ => false
theorem evGen_pure {h h' : Heap} {ans : List Ans} {o : Oper} {r : Out} (he : evGen c t h ans o = some r) : r.h = h ∧ evGen c t h' ans o = some { r with h := h' } := by
  unfold evGen at he ⊢
  split at he
  · rename_i v cons hb
    simp only [Option.some.injEq] at he
    subst he
    simp [hb]
  · split at he
    · rename_i l hl
      split at he
      · rename_i hall
        split at he
        · rename_i v hp
          simp only [Option.some.injEq] at he
          subst he
          exact ⟨rfl, by rw [if_pos hall]⟩
        · cases he
      · cases he
    · cases he
theorem evOp_pure {cf : CF} {h : Heap} {ans : List Ans} {o : Oper} {r : Out} (hp : pureOp o.op = true) (h' : Heap) (he : evOp c cf lim t h ans o = some r) : r.h = h ∧ evOp c cf lim t h' ans o = some { r with h := h' } := by
  obtain ⟨dst, op, ty, pos, after, guard⟩ := o
  cases op with
  | move x =>
    simp only [evOp, oMove, oPick, oAlloc, oBox, oLoad, oStore, oFieldAddr, oNilCheck, oMakeFunc, oCall, oLen, oClear, oMakeMap, oLookup, oUpdate, oAppend, oConvert, oSlice, oIndexAddr, oBuildSlice, oMakeSlice, oBinOp, oExtract, oField, oBuild, oDelete, oEntry, oEntryStore] at he ⊢
    split at he
    · rename_i v hv; simp only [Option.some.injEq] at he; subst he; simp [hv]
    · cases he
  | assign x =>
    simp only [evOp, oAssign] at he ⊢
    split at he
    · rename_i v hv
      split at he
      · rename_i v' ans' hq
        cases v with
        | raw u => simp only [Option.some.injEq] at he; subst he; simp [hq]
        | _ => cases he
      · rename_i hq
        simp only [Option.some.injEq] at he; subst he; simp [hq]
    · cases he
  | pick x y z =>
    simp only [evOp, oMove, oPick, oAlloc, oBox, oLoad, oStore, oFieldAddr, oNilCheck, oMakeFunc, oCall, oLen, oClear, oMakeMap, oLookup, oUpdate, oAppend, oConvert, oSlice, oIndexAddr, oBuildSlice, oMakeSlice, oBinOp, oExtract, oField, oBuild, oDelete, oEntry, oEntryStore] at he ⊢
    split at he
    · rename_i b hx
      split at he
      · rename_i q ans' cons hq
        split at he
        · rename_i v hv; simp only [Option.some.injEq] at he; subst he; simp [hx, hq, hv]
        · cases he
      · cases he
    · cases he
  | fieldAddr s x f =>
    simp only [evOp, oMove, oPick, oAlloc, oBox, oLoad, oStore, oFieldAddr, oNilCheck, oMakeFunc, oCall, oLen, oClear, oMakeMap, oLookup, oUpdate, oAppend, oConvert, oSlice, oIndexAddr, oBuildSlice, oMakeSlice, oBinOp, oExtract, oField, oBuild, oDelete, oEntry, oEntryStore] at he ⊢
    split at he
    · rename_i b off d hx hd; simp only [Option.some.injEq] at he; subst he; simp [hx, hd]
    · cases he
  | nilCheck x =>
    simp only [evOp, oMove, oPick, oAlloc, oBox, oLoad, oStore, oFieldAddr, oNilCheck, oMakeFunc, oCall, oLen, oClear, oMakeMap, oLookup, oUpdate, oAppend, oConvert, oSlice, oIndexAddr, oBuildSlice, oMakeSlice, oBinOp, oExtract, oField, oBuild, oDelete, oEntry, oEntryStore] at he ⊢
    split at he
    · rename_i b off hx; simp only [Option.some.injEq] at he; subst he; simp [hx]
    · rename_i f a b hx; simp only [Option.some.injEq] at he; subst he; simp [hx]
    · rename_i b hx; simp only [Option.some.injEq] at he; subst he; simp [hx]
    · cases he
  | binOp b T x y U =>
    simp only [evOp, oMove, oPick, oAlloc, oBox, oLoad, oStore, oFieldAddr, oNilCheck, oMakeFunc, oCall, oLen, oClear, oMakeMap, oLookup, oUpdate, oAppend, oConvert, oSlice, oIndexAddr, oBuildSlice, oMakeSlice, oBinOp, oExtract, oField, oBuild, oDelete, oEntry, oEntryStore] at he ⊢
    split at he
    · rename_i v hv; simp only [Option.some.injEq] at he; subst he; simp [hv]
    · split at he
      · rename_i r1 hg
        simp only [Option.some.injEq] at he
        subst he
        obtain ⟨k1, k2⟩ := evGen_pure (h' := h') hg
        exact ⟨k1, by rw [k2]⟩
      · rename_i hg
        have hn : evGen c t h' ans ⟨dst, .binOp b T x y U, ty, pos, after, guard⟩ = none := by
          cases hq : evGen c t h' ans ⟨dst, .binOp b T x y U, ty, pos, after, guard⟩ with
          | none => rfl
          | some r2 =>
            obtain ⟨_, k2⟩ := evGen_pure (h' := h) hq
            rw [k2] at hg
            cases hg
        rw [hn]
        split at he
        · rename_i v hv2; simp only [Option.some.injEq] at he; subst he; simp [hv2]
        · cases he
  | unOp a b x => simp only [evOp, oMove, oPick, oAlloc, oBox, oLoad, oStore, oFieldAddr, oNilCheck, oMakeFunc, oCall, oLen, oClear, oMakeMap, oLookup, oUpdate, oAppend, oConvert, oSlice, oIndexAddr, oBuildSlice, oMakeSlice, oBinOp, oExtract, oField, oBuild, oDelete, oEntry, oEntryStore] at he ⊢; exact evGen_pure he
  | index a b x => simp only [evOp, oMove, oPick, oAlloc, oBox, oLoad, oStore, oFieldAddr, oNilCheck, oMakeFunc, oCall, oLen, oClear, oMakeMap, oLookup, oUpdate, oAppend, oConvert, oSlice, oIndexAddr, oBuildSlice, oMakeSlice, oBinOp, oExtract, oField, oBuild, oDelete, oEntry, oEntryStore] at he ⊢; exact evGen_pure he
  | extract x i =>
    simp only [evOp, oMove, oPick, oAlloc, oBox, oLoad, oStore, oFieldAddr, oNilCheck, oMakeFunc, oCall, oLen, oClear, oMakeMap, oLookup, oUpdate, oAppend, oConvert, oSlice, oIndexAddr, oBuildSlice, oMakeSlice, oBinOp, oExtract, oField, oBuild, oDelete, oEntry, oEntryStore] at he ⊢
    split at he
    · rename_i v hv; simp only [Option.some.injEq] at he; subst he; simp [hv]
    · exact evGen_pure he
  | field T x f =>
    simp only [evOp, oMove, oPick, oAlloc, oBox, oLoad, oStore, oFieldAddr, oNilCheck, oMakeFunc, oCall, oLen, oClear, oMakeMap, oLookup, oUpdate, oAppend, oConvert, oSlice, oIndexAddr, oBuildSlice, oMakeSlice, oBinOp, oExtract, oField, oBuild, oDelete, oEntry, oEntryStore] at he ⊢
    split at he
    · rename_i v hv; simp only [Option.some.injEq] at he; subst he; simp [hv]
    · exact evGen_pure he
  | indexAddr T x ix =>
    simp only [evOp, oMove, oPick, oAlloc, oBox, oLoad, oStore, oFieldAddr, oNilCheck, oMakeFunc, oCall, oLen, oClear, oMakeMap, oLookup, oUpdate, oAppend, oConvert, oSlice, oIndexAddr, oBuildSlice, oMakeSlice, oBinOp, oExtract, oField, oBuild, oDelete, oEntry, oEntryStore] at he ⊢
    split at he
    · rename_i v cons hv; simp only [Option.some.injEq] at he; subst he; simp [hv]
    · cases he
  | makeFunc f x y =>
    simp only [evOp, oMove, oPick, oAlloc, oBox, oLoad, oStore, oFieldAddr, oNilCheck, oMakeFunc, oCall, oLen, oClear, oMakeMap, oLookup, oUpdate, oAppend, oConvert, oSlice, oIndexAddr, oBuildSlice, oMakeSlice, oBinOp, oExtract, oField, oBuild, oDelete, oEntry, oEntryStore] at he ⊢
    split at he
    · rename_i xs ys hx hy; simp only [Option.some.injEq] at he; subst he; simp [hx, hy]
    · cases he
  | build T parts =>
    simp only [evOp, oMove, oPick, oAlloc, oBox, oLoad, oStore, oFieldAddr, oNilCheck, oMakeFunc, oCall, oLen, oClear, oMakeMap, oLookup, oUpdate, oAppend, oConvert, oSlice, oIndexAddr, oBuildSlice, oMakeSlice, oBinOp, oExtract, oField, oBuild, oDelete, oEntry, oEntryStore] at he ⊢
    split at he
    · rename_i r1 hg
      simp only [Option.some.injEq] at he
      subst he
      obtain ⟨k1, k2⟩ := evGen_pure (h' := h') hg
      exact ⟨k1, by rw [k2]⟩
    · rename_i hg
      have hn : evGen c t h' ans ⟨dst, .build T parts, ty, pos, after, guard⟩ = none := by
        cases hq : evGen c t h' ans ⟨dst, .build T parts, ty, pos, after, guard⟩ with
        | none => rfl
        | some r2 =>
          obtain ⟨_, k2⟩ := evGen_pure (h' := h) hq
          rw [k2] at hg
          cases hg
      rw [hn]
      split at he
      · rename_i v hv2; simp only [Option.some.injEq] at he; subst he; simp [hv2]
      · cases he
  | _ => simp [pureOp] at hp
def wrB : Option Blk → Bool
  | some B => B.wr
  | none => true
def thin (n : Nat) (h : Heap) : Heap := h.take n ++ (h.drop n).map fun X => match wrB X with
  | true => X
  | false => none
noncomputable def evOpW (c : Cfg) (cf : CF) (lim : Nat) (t : List V) (h : Heap) (ans : List Ans) (o : Oper) : Option Out := match evOp c cf lim t h ans o with
  | none => none
  | some r => match (r.h.drop h.length).all wrB with
    | true => some r
    | false => some { r with h := thin h.length r.h }
theorem thin_length (n : Nat) (h : Heap) : (thin n h).length = h.length := by
  unfold thin
  rw [List.length_append, List.length_take, List.length_map, List.length_drop]
  omega
theorem thin_old {n : Nat} {h : Heap} {i : Nat} (hi : i < n) : (thin n h)[i]? = h[i]? := by
  unfold thin
  rcases Nat.lt_or_ge i h.length with h1 | h1
  · rw [List.getElem?_append_left (by rw [List.length_take]; omega), List.getElem?_take, if_pos hi]
  · rw [List.getElem?_eq_none h1, List.getElem?_eq_none (by have := thin_length n h; unfold thin at this; omega)]
theorem thin_back {n : Nat} {h : Heap} {i : Nat} {B : Blk} (hi : (thin n h)[i]? = some (some B)) : h[i]? = some (some B) := by
  rcases Nat.lt_or_ge i n with h1 | h1
  · rwa [thin_old h1] at hi
  · unfold thin at hi
    rw [List.getElem?_append_right (by rw [List.length_take]; omega), List.getElem?_map, List.getElem?_drop, List.length_take] at hi
    rcases Nat.lt_or_ge i h.length with h2 | h2
    · rw [show n + (i - min n h.length) = i by omega, List.getElem?_eq_getElem h2] at hi
      simp only [Option.map_some, Option.some.injEq] at hi
      rw [List.getElem?_eq_getElem h2]
      split at hi
      · rw [hi]
      · cases hi
    · rw [List.getElem?_eq_none (by omega)] at hi
      cases hi
theorem relH_thin (RH : RelH c ρ h w) {n : Nat} (hL : c.L ≤ n) : RelH c ρ (thin n h) w := by
  refine ⟨fun i B hi => RH.cell i B (thin_back hi), fun i j hi hj he => ?_, fun i B hi => by rw [thin_length]; exact RH.sco i B (thin_back hi), fun p hp => by rw [thin_length]; exact RH.glob p hp, by rw [thin_length]; exact RH.big, fun i hi => by rw [thin_old (by omega)]; exact RH.base i hi⟩
  obtain ⟨C, h1, h2, h3⟩ := hi
  obtain ⟨D, k1, k3⟩ := hj
  exact RH.inj i j ⟨C, thin_back h1, h2, h3⟩ ⟨D, thin_back k1, k3⟩ he
theorem Fr.thin {n k : Nat} {ρ' : Ren} {h' : Heap} {w' : World} (F : Fr lim n ρ h w ρ' h' w') : Fr lim n ρ h w ρ' (thin k h') w' :=
  ⟨F.os, F.tape, F.output, F.size, F.blk, F.ren, by rw [thin_length]; exact F.len, fun i hi ⟨B, h1, h2, h3⟩ => F.fresh i hi ⟨B, thin_back h1, h2, h3⟩, fun i hi ⟨B, h1, h2, h3⟩ => F.dead i hi ⟨B, thin_back h1, h2, h3⟩⟩
theorem evOpW_sound {cf : CF} (hcf : CallOk c cf) (hfn : ∀ f, c.fns f = true → Callable c.P f) {ans : List Ans} {o : Oper} {out : Out} (he : evOpW c cf lim t h ans o = some out) (hc : ∀ p ∈ out.cons, p)
    (RH : RelH c ρ h w) (RT : RelT ρ h.length t a) (hL : c.L ≤ lim) (hlh : lim ≤ h.length) {K : Act → World → Prop} {Q : Exit → Act → World → Prop}
    (hK : ∀ ρ' w', ρ'.unk = ρ.unk → RelH c ρ' out.h w' → Fr lim h.length ρ h w ρ' out.h w' → out.v.under out.h.length = true → K (a.put o.dst (out.v.conc ρ')) w') : o.wpIn (FW r) 0 c.P a w K Q := by
  unfold evOpW at he
  split at he
  · cases he
  · rename_i r1 hr1
    split at he
    · simp only [Option.some.injEq] at he
      subst he
      exact evOp_sound hcf hfn hr1 hc RH RT hL hlh hK
    · simp only [Option.some.injEq] at he
      subst he
      exact evOp_sound hcf hfn hr1 hc RH RT hL hlh fun ρ' w' h1 h2 h3 h4 => hK ρ' w' h1 (relH_thin h2 (Nat.le_trans hL hlh)) h3.thin (by rw [thin_length]; exact h4)
end
end Go.Proofs.Ytcibaankajfhlaa.E2
end
section
namespace Go.Proofs.Ytcibaankajfhlaa.E2
open Go Go.RowKit
noncomputable section
structure GOut where
  want : Bool
  t : List V
  ans : List Ans
  cons : List Prop
def evGuard (ops : Array Oper) (t : List V) (ans : List Ans) (o : Oper) : Option GOut :=
  match o.guard with
  | none => some ⟨true, t, ans, []⟩
  | some (j, want) => match (ops[j]?).bind (·.dst) with
    | some d => match t[d]? with
      | some (.lit b) => some ⟨b == want, t, ans, []⟩
      | some (.raw (.bool b)) => match askB b ans with
        | some (q, ans', cons) => some ⟨q == want, t.set d (.lit q), ans', cons⟩
        | none => none
      | some (.raw (.tuple _)) => some ⟨false, t, ans, []⟩
      | _ => none
    | none => none
structure ROut where
  t : List V
  h : Heap
  ans : List Ans
  cons : List Prop
def evOps (c : Cfg) (cf : CF) (lim : Nat) (ops : Array Oper) : List Oper → List V → Heap → List Ans → Option ROut
  | [], t, h, ans => some ⟨t, h, ans, []⟩
  | o :: rest, t, h, ans => match evGuard ops t ans o with
    | none => none
    | some g => if g.want then
        match evOp c cf lim g.t h g.ans o with
        | none => none
        | some r => match evOps c cf lim ops rest (putT g.t o.dst r.v) r.h r.ans with
          | none => none
          | some q => some { q with cons := g.cons ++ (r.cons ++ q.cons) }
      else match evOps c cf lim ops rest (putT g.t o.dst (.raw undef)) h g.ans with
        | none => none
        | some q => some { q with cons := g.cons ++ q.cons }
theorem itm_lt {ops : Array Oper} {i : Nat} {o : Oper} (h : ops[i]? = some o) : i < ops.size := by
  rcases Nat.lt_or_ge i ops.size with hlt | hge
  · exact hlt
  · rw [Array.getElem?_eq_none hge] at h; cases h
theorem ready_spec {ops : Array Oper} {listed : Array Bool} {i : Nat} (hlen : listed.size = ops.size) (h : i ∈ Region.ready .any ops listed) :
    ∃ o, ops[i]? = some o ∧ listed[i]? = some false ∧ ∀ e ∈ o.after, Region.binds .any e = true → listed[e.on]? = some true := by
  unfold Region.ready at h
  rw [List.mem_filter, List.mem_range, Bool.and_eq_true] at h
  obtain ⟨hlt, hl, ha⟩ := h
  have ho : ops[i]? = some (ops[i]'hlt) := Array.getElem?_eq_getElem hlt
  refine ⟨_, ho, ?_, fun e he hb => ?_⟩
  · have hl2 : i < listed.size := by omega
    rw [Array.getElem?_eq_getElem hl2]
    simp [Array.getD, hl2] at hl
    rw [hl]
  · rw [ho] at ha
    simp only [Option.map_some, Option.getD_some, Array.all_eq_true'] at ha
    have := ha e he
    rw [hb] at this
    simp [Array.getD] at this
    obtain ⟨h1, h2⟩ := this
    rw [Array.getElem?_eq_getElem h1, h2]
def left (listed : Array Bool) : Nat := listed.toList.count false
theorem left_set {listed : Array Bool} {i : Nat} (h : listed[i]? = some false) : left (listed.setIfInBounds i true) + 1 = left listed := by
  unfold left
  rw [Array.toList_setIfInBounds]
  obtain ⟨l⟩ := listed
  simp only [List.getElem?_toArray] at h
  show List.count false (l.set i true) + 1 = List.count false l
  induction l generalizing i with
  | nil => simp at h
  | cons x l ih =>
    cases i with
    | zero =>
      simp only [List.getElem?_cons_zero, Option.some.injEq] at h
      subst h
      simp
    | succ i =>
      simp only [List.getElem?_cons_succ] at h
      have := ih h
      simp only [List.set_cons_succ, List.count_cons]
      omega
theorem all_of_ready {ops : Array Oper} {listed : Array Bool} (back : ∀ (i : Nat) (o : Oper), ops[i]? = some o → ∀ e ∈ o.after, Region.binds .any e = true → e.on < i) (hlen : listed.size = ops.size) (h : Region.ready .any ops listed = []) : ∀ i, i < ops.size → listed[i]? = some true := by
  intro i
  induction i using Nat.strongRecOn with
  | ind i ih =>
    intro hlt
    have hl : listed[i]? = some (listed[i]'(by omega)) := Array.getElem?_eq_getElem _
    cases hv : listed[i]'(by omega) with
    | true => rw [hl, hv]
    | false =>
      exfalso
      have ho : ops[i]? = some (ops[i]'hlt) := Array.getElem?_eq_getElem hlt
      have hmem : i ∈ Region.ready .any ops listed := by
        unfold Region.ready
        rw [List.mem_filter, List.mem_range, Bool.and_eq_true]
        refine ⟨hlt, ?_, ?_⟩
        · have hl2 : i < listed.size := by omega
          simp [Array.getD, hl2, hv]
        · rw [ho]
          simp only [Option.map_some, Option.getD_some, Array.all_eq_true']
          intro e he
          cases hbind : Region.binds .any e with
          | false => simp
          | true =>
            have hb := back i _ ho e he hbind
            have h3 := ih e.on hb (by omega)
            have hl3 : e.on < listed.size := by omega
            rw [Array.getElem?_eq_getElem hl3] at h3
            simp [Array.getD, hl3, Option.some.inj h3]
      rw [h] at hmem
      cases hmem
theorem put_defers {a : Act} {d : Option Tmp} {v : Value} : (a.put d v).defers = a.defers := by
  cases d <;> rfl
theorem relT_put {ρ ρ' : Ren} {n n' : Nat} {t : List V} {a : Act} (RT : RelT ρ n t a) (hag : ∀ i, i < n → ρ'.blk i = ρ.blk i) (hu : ρ'.unk = ρ.unk) (hn : n ≤ n') {v : V} (hv : v.slotOk n' = true) (d : Option Nat) : RelT ρ' n' (putT t d v) (a.put d (v.conc ρ')) := by
  have h0 : concs ρ' t = concs ρ t := by
    rw [concs_map, concs_map]
    exact List.map_congr_left fun x hx => V.slot_agree hag hu x (RT.sco x hx)
  cases d with
  | none => exact ⟨by simp only [putT, setR_eq, Act.put]; rw [RT.tmps, h0], fun x hx => V.slotOk_mono hn x (RT.sco x hx)⟩
  | some d =>
    refine ⟨?_, fun x hx => ?_⟩
    · simp only [putT, setR_eq, Act.put]
      rw [RT.tmps, concs_set, h0]
      simp
    · simp only [putT, setR_eq] at hx
      rcases List.mem_or_eq_of_mem_set hx with h1 | rfl
      · exact V.slotOk_mono hn x (RT.sco x h1)
      · exact hv
theorem evGuard_sound {ρ : Ren} {n : Nat} {ops : Array Oper} {t : List V} {a : Act} {ans : List Ans} {o : Oper} {g : GOut} (he : evGuard ops t ans o = some g) (hc : ∀ p ∈ g.cons, p) (RT : RelT ρ n t a) :
    Region.wanted o (yielded ops a.tmps) = g.want ∧ RelT ρ n g.t a := by
  unfold evGuard at he
  split at he
  · rename_i hg
    simp only [Option.some.injEq] at he
    subst he
    exact ⟨by simp [Region.wanted, hg], RT⟩
  · rename_i j want hg
    split at he
    · rename_i d hd
      split at he
      · rename_i b hb
        simp only [Option.some.injEq] at he
        subst he
        have hy : a.tmps[d]? = some (.bool b) := by rw [RT.tmps]; simp [concs_get, hb, V.conc]
        refine ⟨?_, RT⟩
        simp [Region.wanted, hg, yielded, hd, hy]
      · rename_i b hb
        split at he
        · rename_i q ans' cons hq
          simp only [Option.some.injEq] at he
          subst he
          have hbq : b = q := askB_ok hq hc
          subst hbq
          have hset : concs ρ (t.set d (.lit b)) = concs ρ t := by
            obtain ⟨hlt, hx⟩ := List.getElem?_eq_some_iff.1 hb
            rw [concs_set]
            have : (concs ρ t)[d]'(by rw [concs_length]; exact hlt) = .bool b := by simp [concs_map, hx, V.conc]
            simp only [V.conc]
            rw [← this]; exact List.set_getElem_self _
          have hy : a.tmps[d]? = some (.bool b) := by rw [RT.tmps]; simp [concs_get, hb, V.conc]
          refine ⟨?_, by rw [hset]; exact RT.tmps, fun x hx => ?_⟩
          rotate_left
          · rcases List.mem_or_eq_of_mem_set hx with h1 | rfl
            · exact RT.sco x h1
            · rfl
          simp [Region.wanted, hg, yielded, hd, hy]
        · cases he
      · rename_i vs hb
        simp only [Option.some.injEq] at he
        subst he
        have hy : a.tmps[d]? = some (.tuple vs) := by rw [RT.tmps]; simp [concs_get, hb, V.conc]
        refine ⟨?_, RT⟩
        simp [Region.wanted, hg, yielded, hd, hy]
      · cases he
    · cases he
theorem evOps_sound {c : Cfg} {lim : Nat} {r : Option Nat} {cf : CF} (hcf : CallOk c cf) (hfn : ∀ f, c.fns f = true → Callable c.P f) (hL : c.L ≤ lim) {ops : Array Oper} {Q : Exit → Act → World → Prop} :
    ∀ (l : List Oper) (t : List V) (h : Heap) (ans : List Ans) (q : ROut) (ρ : Ren) (a : Act) (w : World), evOps c cf lim ops l t h ans = some q → (∀ p ∈ q.cons, p) → lim ≤ h.length → RelH c ρ h w → RelT ρ h.length t a →
      (∀ ρ' a' w', ρ'.unk = ρ.unk → a'.defers = a.defers → RelT ρ' q.h.length q.t a' → RelH c ρ' q.h w' → Fr lim h.length ρ h w ρ' q.h w' → Q .normal a' w') → wpListIn (FW r) 0 c.P ops Q l a w
  | [], t, h, ans, q, ρ, a, w, he, hc, hl, RH, RT, hQ => by
    simp only [evOps, Option.some.injEq] at he
    subst he
    exact wpListIn_nil (hQ ρ a w rfl rfl RT RH (Fr.refl _ _ _ _ hl (Nat.le_refl _)))
  | o :: rest, t, h, ans, q, ρ, a, w, he, hc, hl, RH, RT, hQ => by
    simp only [evOps] at he
    split at he
    · cases he
    · rename_i g hg
      split at he
      · rename_i hw
        split at he
        · cases he
        · rename_i r1 hr1
          split at he
          · cases he
          · rename_i q1 hq
            simp only [Option.some.injEq] at he
            subst he
            obtain ⟨h1, RT1⟩ := evGuard_sound hg (fun p hp => hc p (List.mem_append_left _ hp)) RT
            refine wpListIn_step fun K hK => ?_
            rw [h1, hw, if_pos rfl]
            refine evOp_sound hcf hfn hr1 (fun p hp => hc p (List.mem_append_right _ (List.mem_append_left _ hp))) RH RT1 hL hl fun ρ1 w1 hu1 RH1 F1 hv1 => hK _ _ ?_
            have RT2 := relT_put RT1 F1.ren hu1 F1.len (V.slot_of_under _ hv1) o.dst
            refine evOps_sound hcf hfn hL rest _ _ _ q1 ρ1 _ w1 hq (fun p hp => hc p (List.mem_append_right _ (List.mem_append_right _ hp))) (Nat.le_trans hl F1.len) RH1 RT2 fun ρ' a' w' hu' hd' RT' RH' F' => ?_
            exact hQ ρ' a' w' (hu'.trans hu1) (hd'.trans put_defers) RT' RH' (F1.trans (F'.fewer F1.len hl))
      · rename_i hw
        split at he
        · cases he
        · rename_i q1 hq
          simp only [Option.some.injEq] at he
          subst he
          obtain ⟨h1, RT1⟩ := evGuard_sound hg (fun p hp => hc p (List.mem_append_left _ hp)) RT
          refine wpListIn_step fun K hK => ?_
          rw [h1, if_neg hw]
          refine ⟨fun _ _ => trivial, hK _ _ ?_⟩
          have RT2 := relT_put (ρ' := ρ) RT1 (fun _ _ => rfl) rfl (Nat.le_refl _) (v := .raw undef) rfl o.dst
          refine evOps_sound hcf hfn hL rest _ _ _ q1 ρ _ w hq (fun p hp => hc p (List.mem_append_right _ hp)) hl RH RT2 fun ρ' a' w' hu' hd' RT' RH' F' => ?_
          exact hQ ρ' a' w' hu' (hd'.trans put_defers) RT' RH' F'
end
end Go.Proofs.Ytcibaankajfhlaa.E2
end
