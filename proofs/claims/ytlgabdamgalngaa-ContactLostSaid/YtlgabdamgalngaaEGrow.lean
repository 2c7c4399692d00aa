/-
  A law on a region that draws its order, of this kind: each operation either yields a value that is known beforehand while memory at most grows (a load of what was there, a reckoning, a call by a contract), or makes a new block, or stores the whole of such a block, or of a block that was there. Whatever the order, behind it each slot holds its value and each block its content; where the new blocks lie is left open. One step is owed for each operation, not for each order.
-/
import Derived.WalkKit
import Derived.Below
set_option linter.unusedVariables false
set_option linter.unusedSimpArgs false
namespace Go.Proofs.Ytlgabdamgalngaa.E.R
open Go Go.RowKit

inductive Item where
  | val (v : Value)
  | new (T : TypeId) (z : Array Value)
  | put (k : Nat) (cs : Array Value)
  | old (b : Nat) (T : TypeId) (cs : Array Value)
  | skip

def Item.value (β : Nat → Nat) (i : Nat) : Item → Value
  | .val v => v
  | .new _ _ => .pointer (some ⟨β i, 0, none⟩)
  | _ => undef

/-- Only block b has turned, and it holds cs. -/
structure Rewrites (w w' : World) (b : Nat) (T : TypeId) (cs : Array Value) : Prop where
  os : w'.os = w.os
  tape : w'.tape = w.tape
  output : w'.output = w.output
  size : w'.heap.size = w.heap.size
  block : ∀ k, k ≠ b → w'.heap[k]? = w.heap[k]?
  this : w'.heap[b]? = some (.cells cs T (0, 0))

def known (ops : Array Oper) (its : List Item) (a0 : Act) (o : Oper) (s : Nat) : Option Value :=
  match (List.range ops.size).find? (fun j => (ops[j]?.bind (·.dst)) == some s) with
  | none => a0.tmps[s]?
  | some j => if o.after.toList.any (fun e => Region.binds .any e && e.on == j) then (match its[j]? with | some (.val v) => some v | _ => none) else none

def Env (ops : Array Oper) (its : List Item) (a0 : Act) (o : Oper) (a : Act) : Prop := ∀ s v, known ops its a0 o s = some v → a.tmps[s]? = some v
/-- Does operation j wait for operation i? -/
def waitsFor (ops : Array Oper) (j i : Nat) : Bool := match ops[j]? with | some o => o.after.toList.any (fun e => Region.binds .any e && e.on == i) | none => false
/-- Is b a block that was there and into which the region may have stored when operation i comes up? -/
def isOld (ops : Array Oper) (its : List Item) (i b : Nat) : Bool := (List.range its.length).any fun j => match its[j]? with | some (.old b' _ _) => b' == b && !waitsFor ops j i | _ => false
/-- What was there, but for the blocks that the region stores into. -/
structure Kept (blk : Nat → Bool) (w0 w : World) : Prop where
  os : w.os = w0.os
  tape : w.tape = w0.tape
  output : w.output = w0.output
  size : w0.heap.size ≤ w.heap.size
  block : ∀ b, b < w0.heap.size → blk b = false → w.heap[b]? = w0.heap[b]?

def StepOk (P : Program) (Q : Exit → Act → World → Prop) (ops : Array Oper) (its : List Item) (a0 : Act) (w0 : World) (i : Nat) (o : Oper) : Item → Prop
  | .val v => ∀ (a : Act) (w : World) (K : Act → World → Prop), Env ops its a0 o a → Kept (isOld ops its i) w0 w → (∀ w', Below w.heap.size w w' → K (a.put o.dst v) w') → o.wp P a w K Q
  | .new T z => ∀ (a : Act) (w : World) (K : Act → World → Prop), Env ops its a0 o a → Kept (isOld ops its i) w0 w → K (a.put o.dst (.pointer (some ⟨w.heap.size, 0, none⟩))) (w.alloc (.cells z T)) → o.wp P a w K Q
  | .put k cs => ∀ (T : TypeId) (z : Array Value), its[k]? = some (.new T z) → ∀ (a : Act) (w : World) (K : Act → World → Prop) (b : Nat) (cs0 : Array Value) (d : Nat), Env ops its a0 o a → Kept (isOld ops its i) w0 w →
      (ops[k]?.bind (·.dst)) = some d → a.tmps[d]? = some (.pointer (some ⟨b, 0, none⟩)) → w.heap[b]? = some (.cells cs0 T (0, 0)) → cs0.size = z.size →
      (∀ w', Rewrites w w' b T cs → K (a.put o.dst undef) w') → o.wp P a w K Q
  | .skip => True
  | .old b T cs => ∀ (a : Act) (w : World) (K : Act → World → Prop) (cs0 : Array Value), Env ops its a0 o a → Kept (isOld ops its i) w0 w → w.heap[b]? = w0.heap[b]? →
      w.heap[b]? = some (.cells cs0 T (0, 0)) → cs0.size = cs.size →
      (∀ w', Rewrites w w' b T cs → K (a.put o.dst undef) w') → o.wp P a w K Q

def isSkip : Item → Bool
  | .skip => true
  | _ => false
/-- Is the operation's guard decided as its item says? -/
def guardOk (ops : Array Oper) (its : List Item) (o : Oper) (it : Item) : Bool :=
  match o.guard with
  | none => !isSkip it
  | some (j, want) => o.after.toList.any (fun e => Region.binds .any e && e.on == j) &&
    (match ops[j]?, its[j]? with
      | some p, some (.val (.bool b)) => p.dst.isSome && ((b == want) != isSkip it)
      | _, _ => false)
/-- The shape, to be reckoned: no guards; each slot is written once and lies in the frame; a store waits for the block that it fills, and is the only one there. -/
def shape (ops : Array Oper) (its : List Item) (n : Nat) : Bool :=
  (its.length == ops.size) &&
  ((List.range ops.size).all fun i => match ops[i]?, its[i]? with
    | some o, some it => (o.after.all fun e => !Region.binds .any e || decide (e.on < i)) &&
      (match it with
        | .val _ => true
        | .skip => true
        | .new _ _ => o.dst.isSome
        | .put k _ => o.dst.isNone && o.after.any (fun e => Region.binds .any e && e.on == k) && (match its[k]? with | some (.new _ _) => true | _ => false)
        | .old _ _ _ => o.dst.isNone) &&
      (match o.dst with | some d => decide (d < n) | none => true) &&
      ((List.range ops.size).all fun j => i == j || match ops[j]?, its[j]? with
        | some p, some jt => (o.dst.isNone || o.dst != p.dst) &&
          (match it, jt with
            | .put k _, .put k' _ => k != k'
            | _, _ => true)
        | _, _ => false)
    | _, _ => false)

structure Inv (ops : Array Oper) (its : List Item) (a0 : Act) (w0 : World) (β : Nat → Nat) (listed : Array Bool) (a : Act) (w : World) : Prop where
  len : listed.size = ops.size
  defers : a.defers = a0.defers
  tsize : a.tmps.size = a0.tmps.size
  done : ∀ (i : Nat) (o : Oper) (it : Item) (d : Nat), ops[i]? = some o → its[i]? = some it → listed[i]? = some true → o.dst = some d → a.tmps[d]? = some (it.value β i)
  rest : ∀ k, (∀ (i : Nat) (o : Oper), ops[i]? = some o → listed[i]? = some true → o.dst ≠ some k) → a.tmps[k]? = a0.tmps[k]?
  kept : Kept (isOld ops its ops.size) w0 w
  closed : ∀ (i : Nat) (o : Oper), ops[i]? = some o → listed[i]? = some true → ∀ e ∈ o.after, Region.binds .any e = true → listed[e.on]? = some true
  news : ∀ (i : Nat) (T : TypeId) (z : Array Value), its[i]? = some (.new T z) → listed[i]? = some true → w0.heap.size ≤ β i ∧ β i < w.heap.size ∧ ∃ cs, w.heap[β i]? = some (.cells cs T (0, 0)) ∧ cs.size = z.size
  apart : ∀ (i j : Nat) (T T' : TypeId) (z z' : Array Value), its[i]? = some (.new T z) → its[j]? = some (.new T' z') → listed[i]? = some true → listed[j]? = some true → i ≠ j → β i ≠ β j
  puts : ∀ (i k : Nat) (cs : Array Value) (T : TypeId) (z : Array Value), its[i]? = some (.put k cs) → its[k]? = some (.new T z) → listed[i]? = some true → listed[k]? = some true → w.heap[β k]? = some (.cells cs T (0, 0))
  olds : ∀ (i b : Nat) (T : TypeId) (cs : Array Value), its[i]? = some (.old b T cs) → listed[i]? = some true → w.heap[b]? = some (.cells cs T (0, 0))
  behind : ∀ (i k : Nat) (cs : Array Value), its[i]? = some (.put k cs) → listed[i]? = some true → listed[k]? = some true
  waits : ∀ (i b : Nat) (T : TypeId) (cs : Array Value), its[i]? = some (.old b T cs) → listed[i]? = some false → w.heap[b]? = w0.heap[b]?

theorem lookL {listed : Array Bool} {i j : Nat} (h : (listed.setIfInBounds i true)[j]? = some true) (hne : j ≠ i) : listed[j]? = some true := by
  rwa [Array.getElem?_setIfInBounds_ne (Ne.symm hne)] at h

theorem listed_set {listed : Array Bool} {i j : Nat} (h : listed[j]? = some true) : (listed.setIfInBounds i true)[j]? = some true := by
  rcases Nat.decEq j i with hne | rfl
  · rwa [Array.getElem?_setIfInBounds_ne (Ne.symm hne)]
  · have : j < listed.size := by
      rcases Nat.lt_or_ge j listed.size with hlt | hge
      · exact hlt
      · rw [Array.getElem?_eq_none hge] at h; cases h
    simp [this]
theorem put_other {a : Act} {d k : Nat} {v : Value} (h : d ≠ k) : (a.put (some d) v).tmps[k]? = a.tmps[k]? := by
  simp [Act.put, Array.getElem?_setIfInBounds_ne h]
theorem put_this {a : Act} {d : Nat} {v : Value} (h : d < a.tmps.size) : (a.put (some d) v).tmps[d]? = some v := by
  simp [Act.put, h]
theorem put_size {a : Act} {d : Option Tmp} {v : Value} : (a.put d v).tmps.size = a.tmps.size := by
  cases d <;> simp [Act.put]
theorem put_defers {a : Act} {d : Option Tmp} {v : Value} : (a.put d v).defers = a.defers := by
  cases d <;> simp [Act.put]

/-- Which old blocks: a list that is reckoned. -/
def olds : List Item → List Nat
  | [] => []
  | .old b _ _ :: r => b :: olds r
  | _ :: r => olds r
theorem olds_mem {b : Nat} : ∀ (its : List Item) (j : Nat) (T : TypeId) (cs : Array Value), its[j]? = some (.old b T cs) → b ∈ olds its := by
  intro its
  induction its with
  | nil => intro j T cs h; simp at h
  | cons x l ih =>
    intro j T cs h
    cases j with
    | zero =>
      simp only [List.getElem?_cons_zero, Option.some.injEq] at h
      subst h
      simp [olds]
    | succ j =>
      simp only [List.getElem?_cons_succ] at h
      have := ih j T cs h
      cases x <;> simp [olds, this]
theorem olds_once {b : Nat} : ∀ (its : List Item), (olds its).Nodup → ∀ (i j : Nat) (T T' : TypeId) (cs cs' : Array Value), its[i]? = some (.old b T cs) → its[j]? = some (.old b T' cs') → i = j := by
  intro its
  induction its with
  | nil => intro _ i j T T' cs cs' h; simp at h
  | cons x l ih =>
    intro hn i j T T' cs cs' hi hj
    have hl : (olds l).Nodup := by
      cases x <;> simp only [olds, List.nodup_cons] at hn <;> first | exact hn | exact hn.2
    cases i with
    | zero =>
      cases j with
      | zero => rfl
      | succ j =>
        simp only [List.getElem?_cons_zero, Option.some.injEq] at hi
        subst hi
        simp only [olds, List.nodup_cons] at hn
        exact absurd (olds_mem l j T' cs' (by simpa using hj)) hn.1
    | succ i =>
      cases j with
      | zero =>
        simp only [List.getElem?_cons_zero, Option.some.injEq] at hj
        subst hj
        simp only [olds, List.nodup_cons] at hn
        exact absurd (olds_mem l i T cs (by simpa using hi)) hn.1
      | succ j => rw [ih hl i j T T' cs cs' (by simpa using hi) (by simpa using hj)]

/-- What 'shape' says, as propositions. -/
structure Shape (ops : Array Oper) (its : List Item) (n : Nat) : Prop where
  len : its.length = ops.size
  guard : ∀ (i : Nat) (o : Oper) (it : Item), ops[i]? = some o → its[i]? = some it → guardOk ops its o it = true
  back : ∀ (i : Nat) (o : Oper), ops[i]? = some o → ∀ e ∈ o.after, Region.binds .any e = true → e.on < i
  lt : ∀ (i : Nat) (o : Oper) (d : Nat), ops[i]? = some o → o.dst = some d → d < n
  once : ∀ (i j : Nat) (o p : Oper) (d : Nat), ops[i]? = some o → ops[j]? = some p → o.dst = some d → p.dst = some d → i = j
  newDst : ∀ (i : Nat) (o : Oper) (T : TypeId) (z : Array Value), ops[i]? = some o → its[i]? = some (.new T z) → ∃ d, o.dst = some d
  putDst : ∀ (i : Nat) (o : Oper) (k : Nat) (cs : Array Value), ops[i]? = some o → its[i]? = some (.put k cs) → o.dst = none ∧ (∃ e ∈ o.after, Region.binds .any e = true ∧ e.on = k) ∧ ∃ T z, its[k]? = some (.new T z)
  oldDst : ∀ (i : Nat) (o : Oper) (b : Nat) (T : TypeId) (cs : Array Value), ops[i]? = some o → its[i]? = some (.old b T cs) → o.dst = none
  putOnce : ∀ (i j k : Nat) (cs cs' : Array Value), its[i]? = some (.put k cs) → its[j]? = some (.put k cs') → i = j
  oldOnce : ∀ (i j b : Nat) (T T' : TypeId) (cs cs' : Array Value), its[i]? = some (.old b T cs) → its[j]? = some (.old b T' cs') → i = j

theorem Shape.of {ops : Array Oper} {its : List Item} {n : Nat} (h : shape ops its n = true) (hg : ∀ (i : Nat) (o : Oper) (it : Item), ops[i]? = some o → its[i]? = some it → guardOk ops its o it = true) (hnd : (olds its).Nodup) : Shape ops its n := by
  unfold shape at h
  rw [Bool.and_eq_true, beq_iff_eq, List.all_eq_true] at h
  obtain ⟨hl, ha⟩ := h
  have key : ∀ (i : Nat) (o : Oper) (it : Item), ops[i]? = some o → its[i]? = some it → _ := fun i o it ho hi => by
    have hlt : i < ops.size := by
      rcases Nat.lt_or_ge i ops.size with h | h
      · exact h
      · rw [Array.getElem?_eq_none h] at ho; cases ho
    have := ha i (List.mem_range.2 hlt)
    simp only [ho, hi] at this
    exact this
  have itm : ∀ (i : Nat) (o : Oper), ops[i]? = some o → ∃ it, its[i]? = some it := fun i o ho => by
    have hlt : i < ops.size := by
      rcases Nat.lt_or_ge i ops.size with h | h
      · exact h
      · rw [Array.getElem?_eq_none h] at ho; cases ho
    exact ⟨its[i]'(by omega), List.getElem?_eq_getElem (by omega)⟩
  have opm : ∀ (i : Nat) (it : Item), its[i]? = some it → ∃ o, ops[i]? = some o := fun i it hi => by
    have hlt : i < its.length := by
      rcases Nat.lt_or_ge i its.length with h | h
      · exact h
      · rw [List.getElem?_eq_none h] at hi; cases hi
    exact ⟨ops[i]'(by omega), Array.getElem?_eq_getElem (by omega)⟩
  have pair : ∀ (i j : Nat) (o p : Oper) (it jt : Item), ops[i]? = some o → its[i]? = some it → ops[j]? = some p → its[j]? = some jt → i ≠ j →
      ((o.dst.isNone || o.dst != p.dst) && (match it, jt with
            | .put k _, .put k' _ => k != k'
            | _, _ => true)) = true := fun i j o p it jt ho hi hp hj hne => by
    have h1 := key i o it ho hi
    rw [Bool.and_eq_true, List.all_eq_true] at h1
    have hlt : j < ops.size := by
      rcases Nat.lt_or_ge j ops.size with h | h
      · exact h
      · rw [Array.getElem?_eq_none h] at hp; cases hp
    have h2 := h1.2 j (List.mem_range.2 hlt)
    rw [Bool.or_eq_true, beq_iff_eq] at h2
    rcases h2 with h2 | h2
    · exact absurd h2 hne
    · simp only [hp, hj] at h2
      exact h2
  refine ⟨hl, hg, fun i o ho e he hbind => ?_, fun i o d ho hd => ?_, fun i j o p d ho hp hd hd' => ?_, fun i o T z ho hi => ?_, fun i o k cs ho hi => ?_, fun i o b T cs ho hi => ?_, fun i j k cs cs' hi hj => ?_, fun i j b T T' cs cs' hi hj => ?_⟩
  · obtain ⟨it, hi⟩ := itm i o ho
    have := key i o it ho hi
    simp only [Bool.and_eq_true] at this
    have h2 := this.1.1.1
    rw [Array.all_eq_true'] at h2
    have h3 := h2 e he
    rw [hbind] at h3
    simpa using h3
  · obtain ⟨it, hi⟩ := itm i o ho
    have := key i o it ho hi
    simp only [Bool.and_eq_true, hd, decide_eq_true_eq] at this
    exact this.1.2
  · obtain ⟨it, hi⟩ := itm i o ho
    obtain ⟨jt, hj⟩ := itm j p hp
    rcases Nat.decEq i j with hne | he
    · have := pair i j o p it jt ho hi hp hj hne
      simp [hd, hd'] at this
    · exact he
  · have := key i o _ ho hi
    simp only [Bool.and_eq_true] at this
    exact Option.isSome_iff_exists.1 this.1.1.2
  · have := key i o _ ho hi
    simp only [Bool.and_eq_true, Option.isNone_iff_eq_none] at this
    obtain ⟨⟨⟨_, ⟨h1, h2⟩, h3⟩, _⟩, _⟩ := this
    refine ⟨h1, ?_, ?_⟩
    · rw [Array.any_eq_true'] at h2
      obtain ⟨e, he, h2⟩ := h2
      rw [Bool.and_eq_true, beq_iff_eq] at h2
      exact ⟨e, he, h2.1, h2.2⟩
    · cases hk : its[k]? with
      | none => simp [hk] at h3
      | some it => cases it <;> simp [hk] at h3; exact ⟨_, _, rfl⟩
  · have := key i o _ ho hi
    simp only [Bool.and_eq_true, Option.isNone_iff_eq_none] at this
    exact this.1.1.2
  · obtain ⟨o, ho⟩ := opm i _ hi
    obtain ⟨p, hp⟩ := opm j _ hj
    rcases Nat.decEq i j with hne | he
    · have := pair i j o p _ _ ho hi hp hj hne
      simp at this
    · exact he
  · exact olds_once its hnd i j T T' cs cs' hi hj

theorem itm_lt {ops : Array Oper} {i : Nat} {o : Oper} (h : ops[i]? = some o) : i < ops.size := by
  rcases Nat.lt_or_ge i ops.size with hlt | hge
  · exact hlt
  · rw [Array.getElem?_eq_none hge] at h; cases h

/-- What 'may come up' says. -/
theorem ready_spec {ops : Array Oper} {listed : Array Bool} {i : Nat} (hlen : listed.size = ops.size) (h : i ∈ Region.ready .any ops listed) :
    ∃ o, ops[i]? = some o ∧ listed[i]? = some false ∧ ∀ e ∈ o.after, Region.binds .any e = true → listed[e.on]? = some true := by
  unfold Region.ready at h
  rw [List.mem_filter, List.mem_range, Bool.and_eq_true] at h
  obtain ⟨hlt, hl, ha⟩ := h
  have ho : ops[i]? = some (ops[i]'hlt) := Array.getElem?_eq_getElem hlt
  refine ⟨_, ho, ?_, fun e he hb => ?_⟩
  · have hl2 : i < listed.size := by omega
    rw [Array.getElem?_eq_getElem hl2]
    simp [Array.getD, hl2] at hl
    rw [hl]
  · rw [ho] at ha
    simp only [Option.map_some, Option.getD_some, Array.all_eq_true'] at ha
    have := ha e he
    rw [hb] at this
    simp [Array.getD] at this
    obtain ⟨h1, h2⟩ := this
    rw [Array.getElem?_eq_getElem h1, h2]

theorem Inv.env {ops : Array Oper} {its : List Item} {a0 : Act} {w0 : World} {β : Nat → Nat} {listed : Array Bool} {a : Act} {w : World} {n : Nat} (sh : Shape ops its n) (I : Inv ops its a0 w0 β listed a w)
    {o : Oper} (hr : ∀ e ∈ o.after, Region.binds .any e = true → listed[e.on]? = some true) : Env ops its a0 o a := by
  intro s v hk
  unfold known at hk
  split at hk
  · rename_i hf
    rw [I.rest s (fun i p hp hl hd => ?_)]
    · exact hk
    · rw [List.find?_eq_none] at hf
      have := hf i (List.mem_range.2 (itm_lt hp))
      simp [hp, hd] at this
  · rename_i j hf
    have h1 := List.find?_some hf
    rw [beq_iff_eq, Option.bind_eq_some_iff] at h1
    obtain ⟨p, hp, hd⟩ := h1
    split at hk
    · rename_i hany
      rw [List.any_eq_true] at hany
      obtain ⟨e, he, hb⟩ := hany
      rw [Array.mem_toList_iff] at he
      rw [Bool.and_eq_true, beq_iff_eq] at hb
      have hl := hr e he hb.1
      rw [hb.2] at hl
      split at hk
      · rename_i v' hv
        rw [I.done j p _ s hp hv hl hd]
        exact hk
      · cases hk
    · cases hk

theorem below_kept {blk : Nat → Bool} {w0 w w' : World} (k : Kept blk w0 w) (h : Below w.heap.size w w') : Kept blk w0 w' :=
  ⟨h.os.trans k.os, h.tape.trans k.tape, h.output.trans k.output, Nat.le_trans k.size h.size, fun b hb ho => (h.block b (Nat.lt_of_lt_of_le hb k.size)).trans (k.block b hb ho)⟩

section
variable {P : Program} {Q : Exit → Act → World → Prop} {ops : Array Oper} {its : List Item} {a0 : Act} {w0 : World} {β : Nat → Nat} {listed : Array Bool} {a : Act} {w : World}

theorem heap_lt {w : World} {b : Nat} {x : Obj} (h : w.heap[b]? = some x) : b < w.heap.size := by
  rcases Nat.lt_or_ge b w.heap.size with hlt | hge
  · exact hlt
  · rw [Array.getElem?_eq_none hge] at h; cases h

/-- The frame's part of a step that writes slot d. -/
theorem Inv.frameDone (sh : Shape ops its a0.tmps.size) (I : Inv ops its a0 w0 β listed a w) {i : Nat} {o : Oper} {it : Item} (ho : ops[i]? = some o) (hi : its[i]? = some it) (hlf : listed[i]? = some false) {β' : Nat → Nat}
    (hβ : ∀ k, k ≠ i → β' k = β k) {v : Value} (hv : ∀ d, o.dst = some d → v = it.value β' i) :
    ∀ (j : Nat) (p : Oper) (jt : Item) (d : Nat), ops[j]? = some p → its[j]? = some jt → (listed.setIfInBounds i true)[j]? = some true → p.dst = some d → (a.put o.dst v).tmps[d]? = some (jt.value β' j) := by
  intro j p jt d hp hj hl hd
  rcases Nat.decEq j i with hne | rfl
  · have hl' := lookL hl hne
    have h1 := I.done j p jt d hp hj hl' hd
    have e1 : jt.value β' j = jt.value β j := by cases jt <;> simp [Item.value, hβ j hne]
    rw [e1, ← h1]
    cases hod : o.dst with
    | none => rfl
    | some d' =>
      refine put_other (fun e => hne ?_)
      subst e
      exact sh.once j i p o d' hp ho hd hod
  · rw [ho] at hp
    cases hp
    rw [hi] at hj
    cases hj
    rw [hd, put_this (by rw [I.tsize]; exact sh.lt j o d ho hd)]
    exact congrArg some (hv d hd)

theorem Inv.frameRest (I : Inv ops its a0 w0 β listed a w) {i : Nat} {o : Oper} (ho : ops[i]? = some o) (hlt : i < listed.size) {v : Value} :
    ∀ k, (∀ (j : Nat) (p : Oper), ops[j]? = some p → (listed.setIfInBounds i true)[j]? = some true → p.dst ≠ some k) → (a.put o.dst v).tmps[k]? = a0.tmps[k]? := by
  intro k hk
  have h1 : o.dst ≠ some k := hk i o ho (by simp [hlt])
  have h2 : a.tmps[k]? = a0.tmps[k]? := I.rest k (fun j p hp hl => hk j p hp (by
    rcases Nat.decEq j i with hne | rfl
    · rwa [Array.getElem?_setIfInBounds_ne (Ne.symm hne)]
    · simp [hlt]))
  cases hod : o.dst with
  | none => simpa [Act.put] using h2
  | some d => rw [put_other (fun e => h1 (by rw [hod, e])), h2]

theorem lookF {listed : Array Bool} {i j : Nat} (h : (listed.setIfInBounds i true)[j]? = some false) : j ≠ i ∧ listed[j]? = some false := by
  rcases Nat.decEq j i with hne | rfl
  · exact ⟨hne, by rwa [Array.getElem?_setIfInBounds_ne (Ne.symm hne)] at h⟩
  · rw [Array.getElem?_setIfInBounds_self] at h
    split at h <;> cases h

theorem mem_lt {i : Nat} {it : Item} (h : its[i]? = some it) : i < its.length := by
  rcases Nat.lt_or_ge i its.length with hlt | hge
  · exact hlt
  · rw [List.getElem?_eq_none hge] at h; cases h
theorem isOld_mem {b : Nat} {i k : Nat} {T : TypeId} {cs : Array Value} (h : its[i]? = some (.old b T cs)) (hw : waitsFor ops i k = false) : isOld ops its k b = true := by
  unfold isOld
  rw [List.any_eq_true]
  exact ⟨i, List.mem_range.2 (mem_lt h), by simp [h, hw]⟩
theorem waits_end (sh : Shape ops its a0.tmps.size) (j : Nat) : waitsFor ops j ops.size = false := by
  unfold waitsFor
  split
  · rename_i o ho
    rw [List.any_eq_false]
    intro e he
    rw [Array.mem_toList_iff] at he
    have h1 := sh.back j o ho e he
    have h2 := itm_lt ho
    cases hb : Region.binds .any e with
    | false => simp
    | true =>
      have h3 := h1 hb
      have : e.on ≠ ops.size := by omega
      simp [this]
  · rfl
/-- What an operation that may come up finds kept. -/
theorem Inv.keptAt (sh : Shape ops its a0.tmps.size) (I : Inv ops its a0 w0 β listed a w) {i : Nat} (hlf : listed[i]? = some false) : Kept (isOld ops its i) w0 w := by
  refine ⟨I.kept.os, I.kept.tape, I.kept.output, I.kept.size, fun b hb ho => ?_⟩
  by_cases hold : isOld ops its ops.size b = false
  · exact I.kept.block b hb hold
  · rw [Bool.not_eq_false] at hold
    unfold isOld at hold
    rw [List.any_eq_true] at hold
    obtain ⟨j, hj, hm⟩ := hold
    rw [List.mem_range] at hj
    split at hm
    · rename_i b' T cs hjt
      rw [Bool.and_eq_true, beq_iff_eq] at hm
      obtain ⟨rfl, _⟩ := hm
      have hw : waitsFor ops j i = true := by
        rcases hwt : waitsFor ops j i with _ | _
        · rw [isOld_mem hjt hwt] at ho; cases ho
        · rfl
      unfold waitsFor at hw
      split at hw
      · rename_i o hoj
        rw [List.any_eq_true] at hw
        obtain ⟨e, he, hb2⟩ := hw
        rw [Array.mem_toList_iff] at he
        rw [Bool.and_eq_true, beq_iff_eq] at hb2
        have hlj : listed[j]? = some (listed[j]'(by rw [I.len, ← sh.len]; exact hj)) := Array.getElem?_eq_getElem _
        cases hv : listed[j]'(by rw [I.len, ← sh.len]; exact hj) with
        | true =>
          rw [hv] at hlj
          have := I.closed j o hoj hlj e he hb2.1
          rw [hb2.2, hlf] at this
          cases this
        | false =>
          rw [hv] at hlj
          exact I.waits j b' T cs hjt hlj
      · cases hw
    · cases hm

theorem Inv.closedSet (I : Inv ops its a0 w0 β listed a w) {i : Nat} {o : Oper} (ho : ops[i]? = some o) (haft : ∀ e ∈ o.after, Region.binds .any e = true → listed[e.on]? = some true) :
    ∀ (j : Nat) (p : Oper), ops[j]? = some p → (listed.setIfInBounds i true)[j]? = some true → ∀ e ∈ p.after, Region.binds .any e = true → (listed.setIfInBounds i true)[e.on]? = some true := by
  intro j p hp hl e he hb
  rcases Nat.decEq j i with hne | rfl
  · exact listed_set (I.closed j p hp (lookL hl hne) e he hb)
  · rw [ho] at hp
    cases hp
    exact listed_set (haft e he hb)

/-- A step that yields a known value. -/
theorem Inv.val (sh : Shape ops its a0.tmps.size) (I : Inv ops its a0 w0 β listed a w) {i : Nat} {o : Oper} {v : Value} (ho : ops[i]? = some o) (hi : its[i]? = some (.val v)) (hlf : listed[i]? = some false) {w' : World} (hb : Below w.heap.size w w') (haft : ∀ e ∈ o.after, Region.binds .any e = true → listed[e.on]? = some true)
    (hold : ∀ (j b : Nat) (T : TypeId) (cs : Array Value), its[j]? = some (.old b T cs) → b < w0.heap.size) :
    Inv ops its a0 w0 β (listed.setIfInBounds i true) (a.put o.dst v) w' := by
  have hlt : i < listed.size := by rw [I.len]; exact itm_lt ho
  refine ⟨by simpa using I.len, by rw [put_defers]; exact I.defers, by rw [put_size]; exact I.tsize, I.frameDone sh ho hi hlf (fun _ _ => rfl) (fun _ _ => rfl), I.frameRest ho hlt, below_kept I.kept hb, I.closedSet ho haft, ?_, ?_, ?_, ?_, ?_, ?_⟩
  · intro j T z hj hl
    have hne : j ≠ i := by rintro rfl; rw [hi] at hj; cases hj
    obtain ⟨h1, h2, cs, h3, h4⟩ := I.news j T z hj (lookL hl hne)
    exact ⟨h1, Nat.lt_of_lt_of_le h2 hb.size, cs, (hb.block _ h2).trans h3, h4⟩
  · intro j k T T' z z' hj hk hl hl' hne
    have h1 : j ≠ i := by rintro rfl; rw [hi] at hj; cases hj
    have h2 : k ≠ i := by rintro rfl; rw [hi] at hk; cases hk
    exact I.apart j k T T' z z' hj hk (lookL hl h1) (lookL hl' h2) hne
  · intro j k cs T z hj hk hl hl'
    have h1 : j ≠ i := by rintro rfl; rw [hi] at hj; cases hj
    have h2 : k ≠ i := by rintro rfl; rw [hi] at hk; cases hk
    have h3 := I.puts j k cs T z hj hk (lookL hl h1) (lookL hl' h2)
    exact (hb.block _ (heap_lt h3)).trans h3
  · intro j b T cs hj hl
    have h1 : j ≠ i := by rintro rfl; rw [hi] at hj; cases hj
    have h3 := I.olds j b T cs hj (lookL hl h1)
    exact (hb.block _ (heap_lt h3)).trans h3
  · intro j k cs hj hl
    have h1 : j ≠ i := by rintro rfl; rw [hi] at hj; cases hj
    exact listed_set (I.behind j k cs hj (lookL hl h1))
  · intro j b T cs hj hl
    obtain ⟨h1, h2⟩ := lookF hl
    exact (hb.block _ (Nat.lt_of_lt_of_le (hold j b T cs hj) I.kept.size)).trans (I.waits j b T cs hj h2)

/-- A step whose guard says no. -/
theorem Inv.skip_ (sh : Shape ops its a0.tmps.size) (I : Inv ops its a0 w0 β listed a w) {i : Nat} {o : Oper} (ho : ops[i]? = some o) (hi : its[i]? = some .skip) (hlf : listed[i]? = some false) (haft : ∀ e ∈ o.after, Region.binds .any e = true → listed[e.on]? = some true)
    (hold : ∀ (j b : Nat) (T : TypeId) (cs : Array Value), its[j]? = some (.old b T cs) → b < w0.heap.size) :
    Inv ops its a0 w0 β (listed.setIfInBounds i true) (a.put o.dst undef) w := by
  have hb : Below w.heap.size w w := Below.refl _ _
  have hlt : i < listed.size := by rw [I.len]; exact itm_lt ho
  refine ⟨by simpa using I.len, by rw [put_defers]; exact I.defers, by rw [put_size]; exact I.tsize, I.frameDone sh ho hi hlf (fun _ _ => rfl) (fun _ _ => rfl), I.frameRest ho hlt, below_kept I.kept hb, I.closedSet ho haft, ?_, ?_, ?_, ?_, ?_, ?_⟩
  · intro j T z hj hl
    have hne : j ≠ i := by rintro rfl; rw [hi] at hj; cases hj
    obtain ⟨h1, h2, cs, h3, h4⟩ := I.news j T z hj (lookL hl hne)
    exact ⟨h1, Nat.lt_of_lt_of_le h2 hb.size, cs, (hb.block _ h2).trans h3, h4⟩
  · intro j k T T' z z' hj hk hl hl' hne
    have h1 : j ≠ i := by rintro rfl; rw [hi] at hj; cases hj
    have h2 : k ≠ i := by rintro rfl; rw [hi] at hk; cases hk
    exact I.apart j k T T' z z' hj hk (lookL hl h1) (lookL hl' h2) hne
  · intro j k cs T z hj hk hl hl'
    have h1 : j ≠ i := by rintro rfl; rw [hi] at hj; cases hj
    have h2 : k ≠ i := by rintro rfl; rw [hi] at hk; cases hk
    have h3 := I.puts j k cs T z hj hk (lookL hl h1) (lookL hl' h2)
    exact (hb.block _ (heap_lt h3)).trans h3
  · intro j b T cs hj hl
    have h1 : j ≠ i := by rintro rfl; rw [hi] at hj; cases hj
    have h3 := I.olds j b T cs hj (lookL hl h1)
    exact (hb.block _ (heap_lt h3)).trans h3
  · intro j k cs hj hl
    have h1 : j ≠ i := by rintro rfl; rw [hi] at hj; cases hj
    exact listed_set (I.behind j k cs hj (lookL hl h1))
  · intro j b T cs hj hl
    obtain ⟨h1, h2⟩ := lookF hl
    exact (hb.block _ (Nat.lt_of_lt_of_le (hold j b T cs hj) I.kept.size)).trans (I.waits j b T cs hj h2)

/-- A step that makes a block. -/
theorem Inv.new_ (sh : Shape ops its a0.tmps.size) (I : Inv ops its a0 w0 β listed a w) {i : Nat} {o : Oper} {T : TypeId} {z : Array Value} (ho : ops[i]? = some o) (hi : its[i]? = some (.new T z)) (hlf : listed[i]? = some false) (haft : ∀ e ∈ o.after, Region.binds .any e = true → listed[e.on]? = some true)
    (hold : ∀ (j b : Nat) (T : TypeId) (cs : Array Value), its[j]? = some (.old b T cs) → b < w0.heap.size) :
    Inv ops its a0 w0 (fun k => if k = i then w.heap.size else β k) (listed.setIfInBounds i true) (a.put o.dst (.pointer (some ⟨w.heap.size, 0, none⟩))) (w.alloc (.cells z T)) := by
  have hlt : i < listed.size := by rw [I.len]; exact itm_lt ho
  have hb : Below w.heap.size w (w.alloc (.cells z T)) := (Below.refl _ _).alloc (Nat.le_refl _) _
  have hne' : ∀ k, k ≠ i → (if k = i then w.heap.size else β k) = β k := fun k hk => if_neg hk
  refine ⟨by simpa using I.len, by rw [put_defers]; exact I.defers, by rw [put_size]; exact I.tsize, I.frameDone sh ho hi hlf hne' (fun _ _ => by simp [Item.value]), I.frameRest ho hlt, below_kept I.kept hb, I.closedSet ho haft, ?_, ?_, ?_, ?_, ?_, ?_⟩
  · intro j T' z' hj hl
    show _ ≤ (if j = i then w.heap.size else β j) ∧ (if j = i then w.heap.size else β j) < _ ∧ ∃ cs, _
    rcases Nat.decEq j i with hne | rfl
    · rw [if_neg hne]
      obtain ⟨h1, h2, cs, h3, h4⟩ := I.news j T' z' hj (lookL hl hne)
      exact ⟨h1, Nat.lt_of_lt_of_le h2 hb.size, cs, (hb.block _ h2).trans h3, h4⟩
    · rw [if_pos rfl]
      rw [hi] at hj
      cases hj
      exact ⟨I.kept.size, by simp, z, heap_alloc_new w _, rfl⟩
  · intro j k T1 T2 z1 z2 hj hk hl hl' hne
    show (if j = i then w.heap.size else β j) ≠ (if k = i then w.heap.size else β k)
    rcases Nat.decEq j i with h1 | rfl
    · rw [if_neg h1]
      obtain ⟨_, hj2, _⟩ := I.news j T1 z1 hj (lookL hl h1)
      rcases Nat.decEq k i with h2 | rfl
      · rw [if_neg h2]
        exact I.apart j k T1 T2 z1 z2 hj hk (lookL hl h1) (lookL hl' h2) hne
      · rw [if_pos rfl]; omega
    · rw [if_pos rfl, if_neg (Ne.symm hne)]
      obtain ⟨_, hk2, _⟩ := I.news k T2 z2 hk (lookL hl' (Ne.symm hne))
      omega
  · intro j k cs T1 z1 hj hk hl hl'
    show (w.alloc (.cells z T)).heap[(if k = i then w.heap.size else β k)]? = _
    have h1 : j ≠ i := by rintro rfl; rw [hi] at hj; cases hj
    have hlj := lookL hl h1
    rcases Nat.decEq k i with h2 | rfl
    · rw [if_neg h2]
      have h3 := I.puts j k cs T1 z1 hj hk hlj (lookL hl' h2)
      exact (hb.block _ (heap_lt h3)).trans h3
    · exact absurd (I.behind j k cs hj hlj) (by rw [hlf]; simp)
  · intro j b T1 cs hj hl
    have h1 : j ≠ i := by rintro rfl; rw [hi] at hj; cases hj
    have h3 := I.olds j b T1 cs hj (lookL hl h1)
    exact (hb.block _ (heap_lt h3)).trans h3
  · intro j k cs hj hl
    have h1 : j ≠ i := by rintro rfl; rw [hi] at hj; cases hj
    exact listed_set (I.behind j k cs hj (lookL hl h1))
  · intro j b T1 cs hj hl
    obtain ⟨h1, h2⟩ := lookF hl
    exact (hb.block _ (Nat.lt_of_lt_of_le (hold j b T1 cs hj) I.kept.size)).trans (I.waits j b T1 cs hj h2)

/-- A step that fills a new block. -/
theorem Inv.put_ (sh : Shape ops its a0.tmps.size) (I : Inv ops its a0 w0 β listed a w) {i k : Nat} {o : Oper} {cs : Array Value} {T : TypeId} {z : Array Value} (ho : ops[i]? = some o) (hi : its[i]? = some (.put k cs)) (hk : its[k]? = some (.new T z))
    (hlf : listed[i]? = some false) (hlk : listed[k]? = some true) (hsz : cs.size = z.size) {w' : World} (hr : Rewrites w w' (β k) T cs) (haft : ∀ e ∈ o.after, Region.binds .any e = true → listed[e.on]? = some true)
    (hold : ∀ (j b : Nat) (T : TypeId) (cs : Array Value), its[j]? = some (.old b T cs) → b < w0.heap.size) :
    Inv ops its a0 w0 β (listed.setIfInBounds i true) (a.put o.dst undef) w' := by
  have hlt : i < listed.size := by rw [I.len]; exact itm_lt ho
  obtain ⟨n1, n2, cs0, n3, n4⟩ := I.news k T z hk hlk
  have hd := (sh.putDst i o k cs ho hi).1
  refine ⟨by simpa using I.len, by rw [put_defers]; exact I.defers, by rw [put_size]; exact I.tsize, I.frameDone sh ho hi hlf (fun _ _ => rfl) (fun d h => by rw [hd] at h; cases h), I.frameRest ho hlt,
    ⟨hr.os.trans I.kept.os, hr.tape.trans I.kept.tape, hr.output.trans I.kept.output, by rw [hr.size]; exact I.kept.size, fun b hb hb2 => (hr.block b (by omega)).trans (I.kept.block b hb hb2)⟩, I.closedSet ho haft, ?_, ?_, ?_, ?_, ?_, ?_⟩
  · intro j T' z' hj hl
    have hne : j ≠ i := by rintro rfl; rw [hi] at hj; cases hj
    obtain ⟨h1, h2, c, h3, h4⟩ := I.news j T' z' hj (lookL hl hne)
    refine ⟨h1, by rw [hr.size]; exact h2, ?_⟩
    rcases Nat.decEq j k with hjk | rfl
    · exact ⟨c, (hr.block _ (I.apart j k _ _ _ _ hj hk (lookL hl hne) hlk hjk)).trans h3, h4⟩
    · rw [hk] at hj
      cases hj
      exact ⟨cs, hr.this, hsz⟩
  · intro j l T1 T2 z1 z2 hj hl hlj hll hne
    have h1 : j ≠ i := by rintro rfl; rw [hi] at hj; cases hj
    have h2 : l ≠ i := by rintro rfl; rw [hi] at hl; cases hl
    exact I.apart j l T1 T2 z1 z2 hj hl (lookL hlj h1) (lookL hll h2) hne
  · intro j l c T1 z1 hj hl hlj hll
    have h2 : l ≠ i := by rintro rfl; rw [hi] at hl; cases hl
    have hll' := lookL hll h2
    rcases Nat.decEq j i with h1 | rfl
    · have h3 := I.puts j l c T1 z1 hj hl (lookL hlj h1) hll'
      have hlk' : l ≠ k := by
        rintro rfl
        exact h1 (sh.putOnce j i l c cs hj hi)
      exact (hr.block _ (I.apart l k _ _ _ _ hl hk hll' hlk hlk')).trans h3
    · rw [hi] at hj
      cases hj
      rw [hk] at hl
      cases hl
      exact hr.this
  · intro j b T1 c hj hl
    have h1 : j ≠ i := by rintro rfl; rw [hi] at hj; cases hj
    have h3 := I.olds j b T1 c hj (lookL hl h1)
    have := hold j b T1 c hj
    exact (hr.block _ (by omega)).trans h3
  · intro j l c hj hl
    rcases Nat.decEq j i with h1 | rfl
    · exact listed_set (I.behind j l c hj (lookL hl h1))
    · rw [hi] at hj
      cases hj
      exact listed_set hlk
  · intro j b T1 c hj hl
    obtain ⟨h1, h2⟩ := lookF hl
    have := hold j b T1 c hj
    exact (hr.block _ (by omega)).trans (I.waits j b T1 c hj h2)

/-- A step that stores into a block that was there. -/
theorem Inv.old_ (sh : Shape ops its a0.tmps.size) (I : Inv ops its a0 w0 β listed a w) {i b : Nat} {o : Oper} {cs : Array Value} {T : TypeId} (ho : ops[i]? = some o) (hi : its[i]? = some (.old b T cs))
    (hlf : listed[i]? = some false) {w' : World} (hr : Rewrites w w' b T cs) (haft : ∀ e ∈ o.after, Region.binds .any e = true → listed[e.on]? = some true)
    (hold : ∀ (j b : Nat) (T : TypeId) (cs : Array Value), its[j]? = some (.old b T cs) → b < w0.heap.size) :
    Inv ops its a0 w0 β (listed.setIfInBounds i true) (a.put o.dst undef) w' := by
  have hlt : i < listed.size := by rw [I.len]; exact itm_lt ho
  have hd := sh.oldDst i o b T cs ho hi
  have hbs := hold i b T cs hi
  refine ⟨by simpa using I.len, by rw [put_defers]; exact I.defers, by rw [put_size]; exact I.tsize, I.frameDone sh ho hi hlf (fun _ _ => rfl) (fun d h => by rw [hd] at h; cases h), I.frameRest ho hlt,
    ⟨hr.os.trans I.kept.os, hr.tape.trans I.kept.tape, hr.output.trans I.kept.output, by rw [hr.size]; exact I.kept.size, fun c hc hc2 => (hr.block c (by rintro rfl; rw [isOld_mem hi (waits_end sh i)] at hc2; cases hc2)).trans (I.kept.block c hc hc2)⟩, I.closedSet ho haft, ?_, ?_, ?_, ?_, ?_, ?_⟩
  · intro j T' z' hj hl
    have hne : j ≠ i := by rintro rfl; rw [hi] at hj; cases hj
    obtain ⟨h1, h2, c, h3, h4⟩ := I.news j T' z' hj (lookL hl hne)
    exact ⟨h1, by rw [hr.size]; exact h2, c, (hr.block _ (by omega)).trans h3, h4⟩
  · intro j l T1 T2 z1 z2 hj hl hlj hll hne
    have h1 : j ≠ i := by rintro rfl; rw [hi] at hj; cases hj
    have h2 : l ≠ i := by rintro rfl; rw [hi] at hl; cases hl
    exact I.apart j l T1 T2 z1 z2 hj hl (lookL hlj h1) (lookL hll h2) hne
  · intro j l c T1 z1 hj hl hlj hll
    have h1 : j ≠ i := by rintro rfl; rw [hi] at hj; cases hj
    have h2 : l ≠ i := by rintro rfl; rw [hi] at hl; cases hl
    have h3 := I.puts j l c T1 z1 hj hl (lookL hlj h1) (lookL hll h2)
    obtain ⟨h4, _, _⟩ := I.news l T1 z1 hl (lookL hll h2)
    exact (hr.block _ (by omega)).trans h3
  · intro j c T1 cs1 hj hl
    rcases Nat.decEq j i with h1 | rfl
    · have h3 := I.olds j c T1 cs1 hj (lookL hl h1)
      refine (hr.block _ ?_).trans h3
      rintro rfl
      exact h1 (sh.oldOnce j i c T1 T cs1 cs hj hi)
    · rw [hi] at hj
      cases hj
      exact hr.this
  · intro j l c hj hl
    have h1 : j ≠ i := by rintro rfl; rw [hi] at hj; cases hj
    exact listed_set (I.behind j l c hj (lookL hl h1))
  · intro j c T1 cs1 hj hl
    obtain ⟨h1, h2⟩ := lookF hl
    refine (hr.block _ ?_).trans (I.waits j c T1 cs1 hj h2)
    rintro rfl
    exact h1 (sh.oldOnce j i c T1 T cs1 cs hj hi)

/-- What holds behind the region. -/
structure Fin (ops : Array Oper) (its : List Item) (w0 : World) (β : Nat → Nat) (w : World) : Prop where
  kept : Kept (isOld ops its ops.size) w0 w
  news : ∀ (i : Nat) (T : TypeId) (z : Array Value), its[i]? = some (.new T z) → w0.heap.size ≤ β i ∧ β i < w.heap.size ∧ ∃ cs, w.heap[β i]? = some (.cells cs T (0, 0)) ∧ cs.size = z.size
  apart : ∀ (i j : Nat) (T T' : TypeId) (z z' : Array Value), its[i]? = some (.new T z) → its[j]? = some (.new T' z') → i ≠ j → β i ≠ β j
  puts : ∀ (i k : Nat) (cs : Array Value) (T : TypeId) (z : Array Value), its[i]? = some (.put k cs) → its[k]? = some (.new T z) → w.heap[β k]? = some (.cells cs T (0, 0))
  olds : ∀ (i b : Nat) (T : TypeId) (cs : Array Value), its[i]? = some (.old b T cs) → w.heap[b]? = some (.cells cs T (0, 0))

/-- The frame behind the region. -/
def finAct (ops : Array Oper) (its : List Item) (β : Nat → Nat) : Nat → Act → Act
  | 0, a => a
  | m + 1, a => match ops[m]?, its[m]? with
    | some o, some it => match o.dst with
      | some d => (finAct ops its β m a).put (some d) (it.value β m)
      | none => finAct ops its β m a
    | _, _ => finAct ops its β m a

theorem finAct_size (m : Nat) : (finAct ops its β m a).tmps.size = a.tmps.size ∧ (finAct ops its β m a).defers = a.defers := by
  induction m with
  | zero => exact ⟨rfl, rfl⟩
  | succ m ih =>
    unfold finAct
    split
    · split
      · exact ⟨by rw [put_size]; exact ih.1, by rw [put_defers]; exact ih.2⟩
      · exact ih
    · exact ih

theorem finAct_rest (m k : Nat) (h : ∀ (i : Nat) (o : Oper), i < m → ops[i]? = some o → o.dst ≠ some k) : (finAct ops its β m a).tmps[k]? = a.tmps[k]? := by
  induction m with
  | zero => rfl
  | succ m ih =>
    have ih' := ih (fun i o hi => h i o (by omega))
    unfold finAct
    split
    · rename_i o it ho hi
      split
      · rename_i d hd
        rw [put_other (fun e => h m o (by omega) ho (by rw [hd, e]))]
        exact ih'
      · exact ih'
    · exact ih'

theorem finAct_done (sh : Shape ops its a.tmps.size) (m : Nat) {i : Nat} {o : Oper} {it : Item} {d : Nat} (him : i < m) (ho : ops[i]? = some o) (hi : its[i]? = some it) (hd : o.dst = some d) :
    (finAct ops its β m a).tmps[d]? = some (it.value β i) := by
  induction m with
  | zero => omega
  | succ m ih =>
    unfold finAct
    rcases Nat.decEq i m with hne | rfl
    · have ih' := ih (by omega)
      split
      · rename_i p jt hp hj
        split
        · rename_i d' hd'
          rw [put_other (fun e => hne (by subst e; exact sh.once i m o p d' ho hp hd hd'))]
          exact ih'
        · exact ih'
      · exact ih'
    · rw [ho, hi]
      simp only [hd]
      exact put_this (by rw [(finAct_size i).1]; exact sh.lt i o d ho hd)

theorem Inv.fin_act (sh : Shape ops its a0.tmps.size) (I : Inv ops its a0 w0 β listed a w) (hall : ∀ i, i < ops.size → listed[i]? = some true) : a = finAct ops its β ops.size a0 := by
  obtain ⟨h1, h2⟩ := finAct_size (ops := ops) (its := its) (β := β) (a := a0) ops.size
  have ht : a.tmps = (finAct ops its β ops.size a0).tmps := by
    apply Array.ext_getElem?
    intro k
    by_cases hk : ∃ (i : Nat) (o : Oper), ops[i]? = some o ∧ o.dst = some k
    · obtain ⟨i, o, ho, hd⟩ := hk
      have hlt := itm_lt ho
      have hi : its[i]? = some (its[i]'(by rw [sh.len]; exact hlt)) := List.getElem?_eq_getElem _
      rw [I.done i o _ k ho hi (hall i hlt) hd, finAct_done sh ops.size hlt ho hi hd]
    · rw [I.rest k (fun i o ho _ hd => hk ⟨i, o, ho, hd⟩), finAct_rest ops.size k (fun i o _ ho hd => hk ⟨i, o, ho, hd⟩)]
  cases a with
  | mk t d =>
    cases hf : finAct ops its β ops.size a0 with
    | mk t' d' =>
      rw [hf] at ht h2
      simp only at ht h2
      have := I.defers
      simp only at this
      rw [ht, this, h2]

theorem Inv.fin_ (I : Inv ops its a0 w0 β listed a w) (hlen : its.length = ops.size) (hall : ∀ i, i < ops.size → listed[i]? = some true) : Fin ops its w0 β w := by
  have lt : ∀ (i : Nat) (it : Item), its[i]? = some it → listed[i]? = some true := fun i it h => hall i (by
    rcases Nat.lt_or_ge i its.length with h' | h'
    · omega
    · rw [List.getElem?_eq_none h'] at h; cases h)
  exact ⟨I.kept, fun i T z h => I.news i T z h (lt _ _ h), fun i j T T' z z' h h' hne => I.apart i j T T' z z' h h' (lt _ _ h) (lt _ _ h') hne,
    fun i k cs T z h h' => I.puts i k cs T z h h' (lt _ _ h) (lt _ _ h'), fun i b T cs h => I.olds i b T cs h (lt _ _ h)⟩

/-- An operation runs, or is passed over, as its item says. -/
theorem Inv.wanted_ (I : Inv ops its a0 w0 β listed a w) {o : Oper} {it : Item} (haft : ∀ e ∈ o.after, Region.binds .any e = true → listed[e.on]? = some true) (hg : guardOk ops its o it = true) :
    Region.wanted o (yielded ops a.tmps) = !isSkip it := by
  unfold guardOk at hg
  unfold Region.wanted
  split at hg
  · rename_i hn
    rw [hn]
    simpa using hg.symm
  · rename_i j want hn
    rw [hn]
    rw [Bool.and_eq_true, List.any_eq_true] at hg
    obtain ⟨⟨e, he, hb⟩, hm⟩ := hg
    rw [Array.mem_toList_iff] at he
    rw [Bool.and_eq_true, beq_iff_eq] at hb
    have hl := haft e he hb.1
    rw [hb.2] at hl
    split at hm
    · rename_i q b hp hj
      rw [Bool.and_eq_true] at hm
      obtain ⟨hd, hx⟩ := hm
      obtain ⟨d, hd⟩ := Option.isSome_iff_exists.1 hd
      have hv := I.done j q _ d hp hj hl hd
      have hy : yielded ops a.tmps j = some b := by
        unfold yielded
        rw [hp]
        simp only [Option.bind_some, hd, hv, Item.value]
      simp only [hy]
      cases b <;> cases want <;> cases hs : isSkip it <;> simp_all
    · cases hm

/-- How many have not come up yet. -/
def left (listed : Array Bool) : Nat := listed.toList.count false

theorem left_set {i : Nat} (h : listed[i]? = some false) : left (listed.setIfInBounds i true) + 1 = left listed := by
  unfold left
  rw [Array.toList_setIfInBounds]
  obtain ⟨l⟩ := listed
  simp only [List.getElem?_toArray] at h
  show List.count false (l.set i true) + 1 = List.count false l
  induction l generalizing i with
  | nil => simp at h
  | cons x l ih =>
    cases i with
    | zero =>
      simp only [List.getElem?_cons_zero, Option.some.injEq] at h
      subst h
      simp
    | succ i =>
      simp only [List.getElem?_cons_succ] at h
      have := ih h
      simp only [List.set_cons_succ, List.count_cons]
      omega

theorem all_of_ready (sh : Shape ops its a0.tmps.size) (hlen : listed.size = ops.size) (h : Region.ready .any ops listed = []) : ∀ i, i < ops.size → listed[i]? = some true := by
  intro i
  induction i using Nat.strongRecOn with
  | ind i ih =>
    intro hlt
    have hl : listed[i]? = some (listed[i]'(by omega)) := Array.getElem?_eq_getElem _
    cases hv : listed[i]'(by omega) with
    | true => rw [hl, hv]
    | false =>
      exfalso
      have ho : ops[i]? = some (ops[i]'hlt) := Array.getElem?_eq_getElem hlt
      have hmem : i ∈ Region.ready .any ops listed := by
        unfold Region.ready
        rw [List.mem_filter, List.mem_range, Bool.and_eq_true]
        refine ⟨hlt, ?_, ?_⟩
        · have hl2 : i < listed.size := by omega
          simp [Array.getD, hl2, hv]
        · rw [ho]
          simp only [Option.map_some, Option.getD_some, Array.all_eq_true']
          intro e he
          cases hbind : Region.binds .any e with
          | false => simp
          | true =>
            have hb := sh.back i _ ho e he hbind
            have h3 := ih e.on hb (by omega)
            have hl3 : e.on < listed.size := by omega
            rw [Array.getElem?_eq_getElem hl3] at h3
            simp [Array.getD, hl3, Option.some.inj h3]
      rw [h] at hmem
      cases hmem

theorem wpAny_inv (sh : Shape ops its a0.tmps.size)
    (hold : ∀ (j b : Nat) (T : TypeId) (cs : Array Value), its[j]? = some (.old b T cs) → ∃ cs0, w0.heap[b]? = some (.cells cs0 T (0, 0)) ∧ cs0.size = cs.size)
    (hput : ∀ (i k : Nat) (cs : Array Value) (T : TypeId) (z : Array Value), its[i]? = some (.put k cs) → its[k]? = some (.new T z) → cs.size = z.size)
    (hstep : ∀ (i : Nat) (o : Oper) (it : Item), ops[i]? = some o → its[i]? = some it → StepOk P Q ops its a0 w0 i o it)
    (hend : ∀ β w, Fin ops its w0 β w → Q .normal (finAct ops its β ops.size a0) w) :
    ∀ (fuel : Nat) (β : Nat → Nat) (listed : Array Bool) (a : Act) (w : World), Inv ops its a0 w0 β listed a w → left listed ≤ fuel → wpAny P .any ops Q fuel listed a w := by
  have hold' : ∀ (j b : Nat) (T : TypeId) (cs : Array Value), its[j]? = some (.old b T cs) → b < w0.heap.size := fun j b T cs h => by
    obtain ⟨cs0, h1, _⟩ := hold j b T cs h
    exact heap_lt h1
  have done : ∀ (β : Nat → Nat) (listed : Array Bool) (a : Act) (w : World), Inv ops its a0 w0 β listed a w → Region.ready .any ops listed = [] → Q .normal a w := fun β listed a w I hr => by
    have hall := all_of_ready sh I.len hr
    rw [I.fin_act sh hall]
    exact hend β w (I.fin_ sh.len hall)
  intro fuel
  induction fuel with
  | zero =>
    intro β listed a w I hc
    have hr : Region.ready .any ops listed = [] := by
      rcases hrd : Region.ready .any ops listed with _ | ⟨i, l⟩
      · rfl
      · exfalso
        obtain ⟨o, ho, hf, _⟩ := ready_spec I.len (i := i) (by rw [hrd]; exact List.mem_cons_self)
        have := left_set hf
        omega
    exact ⟨hr, done β listed a w I hr⟩
  | succ fuel ih =>
    intro β listed a w I hc
    refine ⟨done β listed a w I, fun i hi => ?_⟩
    obtain ⟨o, ho, hf, haft⟩ := ready_spec I.len hi
    have hlt := itm_lt ho
    have hit : its[i]? = some (its[i]'(by rw [sh.len]; exact hlt)) := List.getElem?_eq_getElem _
    have E := I.env sh haft
    have hstep' := hstep i o _ ho hit
    have hkA := I.keptAt sh hf
    have hcount := left_set hf
    have next : ∀ (β' : Nat → Nat) (a' : Act) (w' : World), Inv ops its a0 w0 β' (listed.setIfInBounds i true) a' w' → wpAny P .any ops Q fuel (listed.setIfInBounds i true) a' w' := fun β' a' w' I' => ih β' _ a' w' I' (by omega)
    unfold wpOp
    rw [ho]
    have hg := sh.guard i o _ ho hit
    generalize its[i]'(by rw [sh.len]; exact hlt) = it at hit hstep' hg
    have hw : Region.wanted o (yielded ops a.tmps) = !isSkip it := I.wanted_ haft hg
    simp only [hw]
    by_cases hs : isSkip it = true
    · rw [hs]
      simp only [Bool.not_true, Bool.false_eq_true, if_false]
      cases it <;> simp only [isSkip, Bool.false_eq_true] at hs
      exact next β _ _ (I.skip_ sh ho hit hf haft hold')
    rw [Bool.not_eq_true] at hs
    rw [hs]
    simp only [Bool.not_false, if_true]
    refine .inl ?_
    cases it with
    | skip => simp [isSkip] at hs
    | val v => exact hstep' a w _ E hkA (fun w' hb => next β _ _ (I.val sh ho hit hf hb haft hold'))
    | new T z => exact hstep' a w _ E hkA (next _ _ _ (I.new_ sh ho hit hf haft hold'))
    | put k cs =>
      obtain ⟨hd, ⟨e, he, hb, hek⟩, T, z, hk⟩ := sh.putDst i o k cs ho hit
      have hlk : listed[k]? = some true := by rw [← hek]; exact haft e he hb
      obtain ⟨n1, n2, cs0, n3, n4⟩ := I.news k T z hk hlk
      have hkl : k < ops.size := by
        rcases Nat.lt_or_ge k its.length with h | h
        · rw [← sh.len]; exact h
        · rw [List.getElem?_eq_none h] at hk; cases hk
      have hok : ops[k]? = some (ops[k]'hkl) := Array.getElem?_eq_getElem hkl
      obtain ⟨d, hdk⟩ := sh.newDst k _ T z hok hk
      exact hstep' T z hk a w _ (β k) cs0 d E hkA (by rw [hok]; exact hdk) (I.done k _ _ d hok hk hlk hdk) n3 n4 (fun w' hr => next β _ _ (I.put_ sh ho hit hk hf hlk (hput i k cs T z hit hk) hr haft hold'))
    | old b T cs =>
      obtain ⟨cs0, h1, h2⟩ := hold i b T cs hit
      exact hstep' a w _ cs0 E hkA (I.waits i b T cs hit hf) ((I.waits i b T cs hit hf).trans h1) h2 (fun w' hr => next β _ _ (I.old_ sh ho hit hf hr haft hold'))

theorem inv_start : Inv ops its a0 w0 β (Array.replicate ops.size false) a0 w0 := by
  have no : ∀ i, (Array.replicate ops.size false)[i]? ≠ some true := fun i h => by
    rw [Array.getElem?_replicate] at h
    split at h <;> cases h
  exact ⟨by simp, rfl, rfl, fun i _ _ _ _ _ h => absurd h (no i), fun _ _ => rfl, ⟨rfl, rfl, rfl, Nat.le_refl _, fun _ _ _ => rfl⟩, fun i _ _ h => absurd h (no i), fun i _ _ _ h => absurd h (no i), fun i _ _ _ _ _ _ _ h => absurd h (no i),
    fun i _ _ _ _ _ _ h => absurd h (no i), fun i _ _ _ _ h => absurd h (no i), fun i _ _ _ h => absurd h (no i), fun _ _ _ _ _ _ => rfl⟩

/-- THE LAW. -/
theorem wp_region_grow {id : Nat} {ops : Array Oper} {a0 : Act} {w : World} (its : List Item) (hm : P.follows .mixedOrders = true) (sh : shape ops its a0.tmps.size = true) (hg : ∀ (i : Nat) (o : Oper) (it : Item), ops[i]? = some o → its[i]? = some it → guardOk ops its o it = true) (hnd : (olds its).Nodup)
    (hold : ∀ (j b : Nat) (T : TypeId) (cs : Array Value), its[j]? = some (.old b T cs) → ∃ cs0, w.drew.heap[b]? = some (.cells cs0 T (0, 0)) ∧ cs0.size = cs.size)
    (hput : ∀ (i k : Nat) (cs : Array Value) (T : TypeId) (z : Array Value), its[i]? = some (.put k cs) → its[k]? = some (.new T z) → cs.size = z.size)
    (hstep : ∀ (i : Nat) (o : Oper) (it : Item), ops[i]? = some o → its[i]? = some it → StepOk P Q ops its a0 w.drew i o it)
    (hend : ∀ β w', Fin ops its w.drew β w' → Q .normal (finAct ops its β ops.size a0) w') : (Code.region id ops true).wp P Q a0 w :=
  wp_region_any hm (wpAny_inv (Shape.of sh hg hnd) hold hput hstep hend _ (fun _ => 0) _ _ _ inv_start (by simp [left]))

def noOlds (its : List Item) : Bool := its.all fun | .old _ _ _ => false | _ => true
theorem noOlds_spec (h : noOlds its = true) : ∀ (j b : Nat) (T : TypeId) (cs : Array Value), its[j]? ≠ some (.old b T cs) := fun j b T cs hj => by
  unfold noOlds at h
  rw [List.all_eq_true] at h
  have := h _ (List.mem_of_getElem? hj)
  cases this
theorem noOlds_nodup : ∀ {its : List Item}, noOlds its = true → (olds its).Nodup
  | [], _ => List.nodup_nil
  | x :: l, h => by
    unfold noOlds at h
    rw [List.all_cons, Bool.and_eq_true] at h
    have := noOlds_nodup (its := l) h.2
    cases x <;> simp_all [olds]
def putsFit (its : List Item) : Bool := its.all fun | .put k cs => (match its[k]? with | some (.new _ z) => cs.size == z.size | _ => false) | _ => true
theorem putsFit_spec (h : putsFit its = true) : ∀ (i k : Nat) (cs : Array Value) (T : TypeId) (z : Array Value), its[i]? = some (.put k cs) → its[k]? = some (.new T z) → cs.size = z.size := fun i k cs T z hi hk => by
  unfold putsFit at h
  rw [List.all_eq_true] at h
  have := h _ (List.mem_of_getElem? hi)
  simp only [hk, beq_iff_eq] at this
  exact this

theorem noOlds_isOld (hno : noOlds its = true) (i b : Nat) : isOld ops its i b = false := by
  unfold isOld
  rw [List.any_eq_false]
  intro j hj
  split
  · rename_i b' T cs h
    exact absurd h (noOlds_spec hno j b' T cs)
  · simp
theorem Kept.cells {i : Nat} (h : Kept (isOld ops its i) w0 w) (hno : noOlds its = true) : (∀ b o, b < w0.heap.size → w.cell? ⟨b, o, none⟩ = w0.cell? ⟨b, o, none⟩) ∧ (∀ b o, b < w0.heap.size → w.frozen? ⟨b, o, none⟩ = w0.frozen? ⟨b, o, none⟩) :=
  ⟨fun b o hb => World.cell?_of_block (w := w0) (h.block b hb (noOlds_isOld hno i b)), fun b o hb => World.frozen?_of_block (w := w0) (h.block b hb (noOlds_isOld hno i b))⟩
/-- What a store into an old block asks of the world at the region's head. -/
def OldsOk (w : World) : List Item → Prop
  | [] => True
  | .old b T cs :: r => (∃ cs0, w.heap[b]? = some (.cells cs0 T (0, 0)) ∧ cs0.size = cs.size) ∧ OldsOk w r
  | .val _ :: r => OldsOk w r
  | .new _ _ :: r => OldsOk w r
  | .put _ _ :: r => OldsOk w r
  | .skip :: r => OldsOk w r
theorem olds_of {w : World} : ∀ {its : List Item}, OldsOk w its → ∀ (j b : Nat) (T : TypeId) (cs : Array Value), its[j]? = some (.old b T cs) → ∃ cs0, w.heap[b]? = some (.cells cs0 T (0, 0)) ∧ cs0.size = cs.size
  | [], _, _, _, _, _, hj => by simp at hj
  | x :: r, h, j, b, T, cs, hj => by
    have hr : OldsOk w r := by cases x <;> first | exact h.2 | exact h
    cases j with
    | zero =>
      simp only [List.getElem?_cons_zero, Option.some.injEq] at hj
      subst hj
      exact h.1
    | succ j => exact olds_of hr j b T cs (by simpa using hj)
theorem isOld_olds {i b : Nat} (h : ¬ b ∈ olds its) : isOld ops its i b = false := by
  unfold isOld
  rw [List.any_eq_false]
  intro j hj
  split
  · rename_i b' T cs hh
    rw [Bool.and_eq_true, beq_iff_eq]
    rintro ⟨rfl, _⟩
    exact h (olds_mem its j T cs hh)
  · simp
theorem Kept.cellsOld {i : Nat} (h : Kept (isOld ops its i) w0 w) : (∀ b o, b < w0.heap.size → ¬ b ∈ olds its → w.cell? ⟨b, o, none⟩ = w0.cell? ⟨b, o, none⟩) ∧ (∀ b o, b < w0.heap.size → ¬ b ∈ olds its → w.frozen? ⟨b, o, none⟩ = w0.frozen? ⟨b, o, none⟩) :=
  ⟨fun b o hb hn => World.cell?_of_block (w := w0) (h.block b hb (isOld_olds hn)), fun b o hb hn => World.frozen?_of_block (w := w0) (h.block b hb (isOld_olds hn))⟩
/-- All that lay below B is kept if the old blocks lie from B on. -/
theorem Kept.belowOld {i B : Nat} (h : Kept (isOld ops its i) w0 w) (hB : B ≤ w0.heap.size) (ho : ∀ b ∈ olds its, B ≤ b) : Below B w0 w :=
  ⟨h.os, h.tape, h.output, h.size, fun b hb => h.block b (by omega) (isOld_olds (fun hm => by have := ho b hm; omega))⟩

/-- Two stores into one block of two cells. -/
theorem rewrites2 {b : Nat} {T : TypeId} {c0 c1 v0 v1 : Value} (h : w.heap[b]? = some (.cells #[c0, c1] T (0, 0))) :
    Rewrites w ((w.setCell ⟨b, 0, none⟩ v0).setCell ⟨b, 1, none⟩ v1) b T #[v0, v1] := by
  have hlt := heap_lt h
  refine ⟨rfl, rfl, rfl, by simp [World.setCell], fun k hk => ?_, ?_⟩
  · simp [World.setCell, Array.getElem?_modify, Ne.symm hk]
  · simp [World.setCell, Array.getElem?_modify, h]
theorem of_size2 {cs : Array Value} {c0 c1 : Value} (h : cs.size = #[c0, c1].size) : ∃ x y, cs = #[x, y] := by
  obtain ⟨l⟩ := cs
  match l, h with
  | [x, y], _ => exact ⟨x, y, rfl⟩
theorem of_size1 {cs : Array Value} {c0 : Value} (h : cs.size = #[c0].size) : ∃ x, cs = #[x] := by
  obtain ⟨l⟩ := cs
  match l, h with
  | [x], _ => exact ⟨x, rfl⟩
theorem of_size3 {cs : Array Value} {c0 c1 c2 : Value} (h : cs.size = #[c0, c1, c2].size) : ∃ x y z, cs = #[x, y, z] := by
  obtain ⟨l⟩ := cs
  match l, h with
  | [x, y, z], _ => exact ⟨x, y, z, rfl⟩
theorem of_size4 {cs : Array Value} {c0 c1 c2 c3 : Value} (h : cs.size = #[c0, c1, c2, c3].size) : ∃ x y z u, cs = #[x, y, z, u] := by
  obtain ⟨l⟩ := cs
  match l, h with
  | [x, y, z, u], _ => exact ⟨x, y, z, u, rfl⟩
theorem rewrites1 {b : Nat} {T : TypeId} {c0 v0 : Value} (h : w.heap[b]? = some (.cells #[c0] T (0, 0))) :
    Rewrites w (w.setCell ⟨b, 0, none⟩ v0) b T #[v0] := by
  have hlt := heap_lt h
  refine ⟨rfl, rfl, rfl, by simp [World.setCell], fun k hk => ?_, ?_⟩
  · simp [World.setCell, Array.getElem?_modify, Ne.symm hk]
  · simp [World.setCell, Array.getElem?_modify, h]
theorem rewrites3 {b : Nat} {T : TypeId} {c0 c1 c2 v0 v1 v2 : Value} (h : w.heap[b]? = some (.cells #[c0, c1, c2] T (0, 0))) :
    Rewrites w (((w.setCell ⟨b, 0, none⟩ v0).setCell ⟨b, 1, none⟩ v1).setCell ⟨b, 2, none⟩ v2) b T #[v0, v1, v2] := by
  have hlt := heap_lt h
  refine ⟨rfl, rfl, rfl, by simp [World.setCell], fun k hk => ?_, ?_⟩
  · simp [World.setCell, Array.getElem?_modify, Ne.symm hk]
  · simp [World.setCell, Array.getElem?_modify, h]
theorem rewrites4 {b : Nat} {T : TypeId} {c0 c1 c2 c3 v0 v1 v2 v3 : Value} (h : w.heap[b]? = some (.cells #[c0, c1, c2, c3] T (0, 0))) :
    Rewrites w ((((w.setCell ⟨b, 0, none⟩ v0).setCell ⟨b, 1, none⟩ v1).setCell ⟨b, 2, none⟩ v2).setCell ⟨b, 3, none⟩ v3) b T #[v0, v1, v2, v3] := by
  have hlt := heap_lt h
  refine ⟨rfl, rfl, rfl, by simp [World.setCell], fun k hk => ?_, ?_⟩
  · simp [World.setCell, Array.getElem?_modify, Ne.symm hk]
  · simp [World.setCell, Array.getElem?_modify, h]
theorem cell_blk {b : Nat} {T : TypeId} {cs : Array Value} (h : w.heap[b]? = some (.cells cs T (0, 0))) (i : Nat) : w.cell? ⟨b, i, none⟩ = cs[i]? := cell_of_row w b i cs T (0, 0) h
theorem free_blk {b : Nat} {T : TypeId} {cs : Array Value} (h : w.heap[b]? = some (.cells cs T (0, 0))) (i : Nat) : w.frozen? ⟨b, i, none⟩ = false := by
  simp [World.frozen?, h]
/-- With no store into what was there, all that was there is kept. -/
theorem Kept.below {i : Nat} (h : Kept (isOld ops its i) w0 w) (hno : noOlds its = true) : Below w0.heap.size w0 w :=
  ⟨h.os, h.tape, h.output, h.size, fun b hb => h.block b hb (noOlds_isOld hno i b)⟩
theorem cell_same {b : Nat} {w' : World} (h : w'.heap[b]? = w.heap[b]?) : (∀ o, w'.cell? ⟨b, o, none⟩ = w.cell? ⟨b, o, none⟩) ∧ (∀ o, w'.frozen? ⟨b, o, none⟩ = w.frozen? ⟨b, o, none⟩) :=
  ⟨fun o => World.cell?_of_block (w := w) h, fun o => World.frozen?_of_block (w := w) h⟩
end
end Go.Proofs.Ytlgabdamgalngaa.E.R
