/-
  Part of a claim: the reckoner and contracts.
-/
import Derived.Test.YteefjegampdpoaaDoorTTc
set_option linter.unusedVariables false
set_option linter.unusedSimpArgs false
set_option maxRecDepth 100000
section
namespace Go.Proofs.YteefjegampdpoaaDoor.R
open Go Go.RowKit
inductive Item where
  | val (v : Value)
  | new (T : TypeId) (z : Array Value)
  | put (k : Nat) (cs : Array Value)
  | old (b : Nat) (T : TypeId) (cs : Array Value)
  | skip
def Item.value (β : Nat → Nat) (i : Nat) : Item → Value
  | .val v => v
  | .new _ _ => .pointer (some ⟨β i, 0, none⟩)
  | _ => undef
structure Rewrites (w w' : World) (b : Nat) (T : TypeId) (cs : Array Value) : Prop where
  os : w'.os = w.os
  tape : w'.tape = w.tape
  output : w'.output = w.output
  size : w'.heap.size = w.heap.size
  block : ∀ k, k ≠ b → w'.heap[k]? = w.heap[k]?
  this : w'.heap[b]? = some (.cells cs T (0, 0))
def known (ops : Array Oper) (its : List Item) (a0 : Act) (o : Oper) (s : Nat) : Option Value :=
  match (List.range ops.size).find? (fun j => (ops[j]?.bind (·.dst)) == some s) with
  | none => a0.tmps[s]?
  | some j => if o.after.toList.any (fun e => Region.binds .any e && e.on == j) then (match its[j]? with | some (.val v) => some v | _ => none) else none
def Env (ops : Array Oper) (its : List Item) (a0 : Act) (o : Oper) (a : Act) : Prop := ∀ s v, known ops its a0 o s = some v → a.tmps[s]? = some v
def waitsFor (ops : Array Oper) (j i : Nat) : Bool := match ops[j]? with | some o => o.after.toList.any (fun e => Region.binds .any e && e.on == i) | none => false
def isOld (ops : Array Oper) (its : List Item) (i b : Nat) : Bool := (List.range its.length).any fun j => match its[j]? with | some (.old b' _ _) => b' == b && !waitsFor ops j i | _ => false
structure Kept (blk : Nat → Bool) (w0 w : World) : Prop where
  os : w.os = w0.os
  tape : w.tape = w0.tape
  output : w.output = w0.output
  size : w0.heap.size ≤ w.heap.size
  block : ∀ b, b < w0.heap.size → blk b = false → w.heap[b]? = w0.heap[b]?
def StepOk (P : Program) (Q : Exit → Act → World → Prop) (ops : Array Oper) (its : List Item) (a0 : Act) (w0 : World) (i : Nat) (o : Oper) : Item → Prop
  | .val v => ∀ (a : Act) (w : World) (K : Act → World → Prop), Env ops its a0 o a → Kept (isOld ops its i) w0 w → (∀ w', Below w.heap.size w w' → K (a.put o.dst v) w') → o.wp P a w K Q
  | .new T z => ∀ (a : Act) (w : World) (K : Act → World → Prop), K (a.put o.dst (.pointer (some ⟨w.heap.size, 0, none⟩))) (w.alloc (.cells z T)) → o.wp P a w K Q
  | .put k cs => ∀ (T : TypeId) (z : Array Value), its[k]? = some (.new T z) → ∀ (a : Act) (w : World) (K : Act → World → Prop) (b : Nat) (cs0 : Array Value) (d : Nat), Env ops its a0 o a → Kept (isOld ops its i) w0 w →
      (ops[k]?.bind (·.dst)) = some d → a.tmps[d]? = some (.pointer (some ⟨b, 0, none⟩)) → w.heap[b]? = some (.cells cs0 T (0, 0)) → cs0.size = z.size →
      (∀ w', Rewrites w w' b T cs → K (a.put o.dst undef) w') → o.wp P a w K Q
  | .skip => True
  | .old b T cs => ∀ (a : Act) (w : World) (K : Act → World → Prop) (cs0 : Array Value), Env ops its a0 o a → Kept (isOld ops its i) w0 w →
      w.heap[b]? = some (.cells cs0 T (0, 0)) → cs0.size = cs.size →
      (∀ w', Rewrites w w' b T cs → K (a.put o.dst undef) w') → o.wp P a w K Q
def isSkip : Item → Bool
  | .skip => true
  | _ => false
def guardOk (ops : Array Oper) (its : List Item) (o : Oper) (it : Item) : Bool :=
  match o.guard with
  | none => !isSkip it
  | some (j, want) => o.after.toList.any (fun e => Region.binds .any e && e.on == j) &&
    (match ops[j]?, its[j]? with
      | some p, some (.val (.bool b)) => p.dst.isSome && ((b == want) != isSkip it)
      | _, _ => false)
def shape (ops : Array Oper) (its : List Item) (n : Nat) : Bool :=
  (its.length == ops.size) &&
  ((List.range ops.size).all fun i => match ops[i]?, its[i]? with
    | some o, some it => (guardOk ops its o it && o.after.all fun e => !Region.binds .any e || decide (e.on < i)) &&
      (match it with
        | .val _ => true
        | .skip => true
        | .new _ _ => o.dst.isSome
        | .put k _ => o.dst.isNone && o.after.any (fun e => Region.binds .any e && e.on == k) && (match its[k]? with | some (.new _ _) => true | _ => false)
        | .old _ _ _ => o.dst.isNone) &&
      (match o.dst with | some d => decide (d < n) | none => true) &&
      ((List.range ops.size).all fun j => i == j || match ops[j]?, its[j]? with
        | some p, some jt => (o.dst.isNone || o.dst != p.dst) &&
          (match it, jt with
            | .put k _, .put k' _ => k != k'
            | _, _ => true)
        | _, _ => false)
    | _, _ => false)
structure Inv (ops : Array Oper) (its : List Item) (a0 : Act) (w0 : World) (β : Nat → Nat) (listed : Array Bool) (a : Act) (w : World) : Prop where
  len : listed.size = ops.size
  defers : a.defers = a0.defers
  tsize : a.tmps.size = a0.tmps.size
  done : ∀ (i : Nat) (o : Oper) (it : Item) (d : Nat), ops[i]? = some o → its[i]? = some it → listed[i]? = some true → o.dst = some d → a.tmps[d]? = some (it.value β i)
  rest : ∀ k, (∀ (i : Nat) (o : Oper), ops[i]? = some o → listed[i]? = some true → o.dst ≠ some k) → a.tmps[k]? = a0.tmps[k]?
  kept : Kept (isOld ops its ops.size) w0 w
  closed : ∀ (i : Nat) (o : Oper), ops[i]? = some o → listed[i]? = some true → ∀ e ∈ o.after, Region.binds .any e = true → listed[e.on]? = some true
  news : ∀ (i : Nat) (T : TypeId) (z : Array Value), its[i]? = some (.new T z) → listed[i]? = some true → w0.heap.size ≤ β i ∧ β i < w.heap.size ∧ ∃ cs, w.heap[β i]? = some (.cells cs T (0, 0)) ∧ cs.size = z.size
  apart : ∀ (i j : Nat) (T T' : TypeId) (z z' : Array Value), its[i]? = some (.new T z) → its[j]? = some (.new T' z') → listed[i]? = some true → listed[j]? = some true → i ≠ j → β i ≠ β j
  puts : ∀ (i k : Nat) (cs : Array Value) (T : TypeId) (z : Array Value), its[i]? = some (.put k cs) → its[k]? = some (.new T z) → listed[i]? = some true → listed[k]? = some true → w.heap[β k]? = some (.cells cs T (0, 0))
  olds : ∀ (i b : Nat) (T : TypeId) (cs : Array Value), its[i]? = some (.old b T cs) → listed[i]? = some true → w.heap[b]? = some (.cells cs T (0, 0))
  behind : ∀ (i k : Nat) (cs : Array Value), its[i]? = some (.put k cs) → listed[i]? = some true → listed[k]? = some true
  waits : ∀ (i b : Nat) (T : TypeId) (cs : Array Value), its[i]? = some (.old b T cs) → listed[i]? = some false → w.heap[b]? = w0.heap[b]?
theorem lookL {listed : Array Bool} {i j : Nat} (h : (listed.setIfInBounds i true)[j]? = some true) (hne : j ≠ i) : listed[j]? = some true := by
  rwa [Array.getElem?_setIfInBounds_ne (Ne.symm hne)] at h
theorem listed_set {listed : Array Bool} {i j : Nat} (h : listed[j]? = some true) : (listed.setIfInBounds i true)[j]? = some true := by
  rcases Nat.decEq j i with hne | rfl
  · rwa [Array.getElem?_setIfInBounds_ne (Ne.symm hne)]
  · have : j < listed.size := by
      rcases Nat.lt_or_ge j listed.size with hlt | hge
      · exact hlt
      · rw [Array.getElem?_eq_none hge] at h; cases h
    simp [this]
theorem put_other {a : Act} {d k : Nat} {v : Value} (h : d ≠ k) : (a.put (some d) v).tmps[k]? = a.tmps[k]? := by
  simp [Act.put, Array.getElem?_setIfInBounds_ne h]
theorem put_this {a : Act} {d : Nat} {v : Value} (h : d < a.tmps.size) : (a.put (some d) v).tmps[d]? = some v := by
  simp [Act.put, h]
theorem put_size {a : Act} {d : Option Tmp} {v : Value} : (a.put d v).tmps.size = a.tmps.size := by
  cases d <;> simp [Act.put]
theorem put_defers {a : Act} {d : Option Tmp} {v : Value} : (a.put d v).defers = a.defers := by
  cases d <;> simp [Act.put]
def olds : List Item → List Nat
  | [] => []
  | .old b _ _ :: r => b :: olds r
  | _ :: r => olds r
theorem olds_mem {b : Nat} : ∀ (its : List Item) (j : Nat) (T : TypeId) (cs : Array Value), its[j]? = some (.old b T cs) → b ∈ olds its := by
  intro its
  induction its with
  | nil => intro j T cs h; simp at h
  | cons x l ih =>
    intro j T cs h
    cases j with
    | zero =>
      simp only [List.getElem?_cons_zero, Option.some.injEq] at h
      subst h
      simp [olds]
    | succ j =>
      simp only [List.getElem?_cons_succ] at h
      have := ih j T cs h
      cases x <;> simp [olds, this]
theorem olds_once {b : Nat} : ∀ (its : List Item), (olds its).Nodup → ∀ (i j : Nat) (T T' : TypeId) (cs cs' : Array Value), its[i]? = some (.old b T cs) → its[j]? = some (.old b T' cs') → i = j := by
  intro its
  induction its with
  | nil => intro _ i j T T' cs cs' h; simp at h
  | cons x l ih =>
    intro hn i j T T' cs cs' hi hj
    have hl : (olds l).Nodup := by
      cases x <;> simp only [olds, List.nodup_cons] at hn <;> first | exact hn | exact hn.2
    cases i with
    | zero =>
      cases j with
      | zero => rfl
      | succ j =>
        simp only [List.getElem?_cons_zero, Option.some.injEq] at hi
        subst hi
        simp only [olds, List.nodup_cons] at hn
        exact absurd (olds_mem l j T' cs' (by simpa using hj)) hn.1
    | succ i =>
      cases j with
      | zero =>
        simp only [List.getElem?_cons_zero, Option.some.injEq] at hj
        subst hj
        simp only [olds, List.nodup_cons] at hn
        exact absurd (olds_mem l i T cs (by simpa using hi)) hn.1
      | succ j => rw [ih hl i j T T' cs cs' (by simpa using hi) (by simpa using hj)]
structure Shape (ops : Array Oper) (its : List Item) (n : Nat) : Prop where
  len : its.length = ops.size
  guard : ∀ (i : Nat) (o : Oper) (it : Item), ops[i]? = some o → its[i]? = some it → guardOk ops its o it = true
  back : ∀ (i : Nat) (o : Oper), ops[i]? = some o → ∀ e ∈ o.after, Region.binds .any e = true → e.on < i
  lt : ∀ (i : Nat) (o : Oper) (d : Nat), ops[i]? = some o → o.dst = some d → d < n
  once : ∀ (i j : Nat) (o p : Oper) (d : Nat), ops[i]? = some o → ops[j]? = some p → o.dst = some d → p.dst = some d → i = j
  newDst : ∀ (i : Nat) (o : Oper) (T : TypeId) (z : Array Value), ops[i]? = some o → its[i]? = some (.new T z) → ∃ d, o.dst = some d
  putDst : ∀ (i : Nat) (o : Oper) (k : Nat) (cs : Array Value), ops[i]? = some o → its[i]? = some (.put k cs) → o.dst = none ∧ (∃ e ∈ o.after, Region.binds .any e = true ∧ e.on = k) ∧ ∃ T z, its[k]? = some (.new T z)
  oldDst : ∀ (i : Nat) (o : Oper) (b : Nat) (T : TypeId) (cs : Array Value), ops[i]? = some o → its[i]? = some (.old b T cs) → o.dst = none
  putOnce : ∀ (i j k : Nat) (cs cs' : Array Value), its[i]? = some (.put k cs) → its[j]? = some (.put k cs') → i = j
  oldOnce : ∀ (i j b : Nat) (T T' : TypeId) (cs cs' : Array Value), its[i]? = some (.old b T cs) → its[j]? = some (.old b T' cs') → i = j
theorem Shape.of {ops : Array Oper} {its : List Item} {n : Nat} (h : shape ops its n = true) (hnd : (olds its).Nodup) : Shape ops its n := by
  unfold shape at h
  rw [Bool.and_eq_true, beq_iff_eq, List.all_eq_true] at h
  obtain ⟨hl, ha⟩ := h
  have key : ∀ (i : Nat) (o : Oper) (it : Item), ops[i]? = some o → its[i]? = some it → _ := fun i o it ho hi => by
    have hlt : i < ops.size := by
      rcases Nat.lt_or_ge i ops.size with h | h
      · exact h
      · rw [Array.getElem?_eq_none h] at ho; cases ho
    have := ha i (List.mem_range.2 hlt)
    simp only [ho, hi] at this
    exact this
  have itm : ∀ (i : Nat) (o : Oper), ops[i]? = some o → ∃ it, its[i]? = some it := fun i o ho => by
    have hlt : i < ops.size := by
      rcases Nat.lt_or_ge i ops.size with h | h
      · exact h
      · rw [Array.getElem?_eq_none h] at ho; cases ho
    exact ⟨its[i]'(by omega), List.getElem?_eq_getElem (by omega)⟩
  have opm : ∀ (i : Nat) (it : Item), its[i]? = some it → ∃ o, ops[i]? = some o := fun i it hi => by
    have hlt : i < its.length := by
      rcases Nat.lt_or_ge i its.length with h | h
      · exact h
      · rw [List.getElem?_eq_none h] at hi; cases hi
    exact ⟨ops[i]'(by omega), Array.getElem?_eq_getElem (by omega)⟩
  have pair : ∀ (i j : Nat) (o p : Oper) (it jt : Item), ops[i]? = some o → its[i]? = some it → ops[j]? = some p → its[j]? = some jt → i ≠ j →
      ((o.dst.isNone || o.dst != p.dst) && (match it, jt with
            | .put k _, .put k' _ => k != k'
            | _, _ => true)) = true := fun i j o p it jt ho hi hp hj hne => by
    have h1 := key i o it ho hi
    rw [Bool.and_eq_true, List.all_eq_true] at h1
    have hlt : j < ops.size := by
      rcases Nat.lt_or_ge j ops.size with h | h
      · exact h
      · rw [Array.getElem?_eq_none h] at hp; cases hp
    have h2 := h1.2 j (List.mem_range.2 hlt)
    rw [Bool.or_eq_true, beq_iff_eq] at h2
    rcases h2 with h2 | h2
    · exact absurd h2 hne
    · simp only [hp, hj] at h2
      exact h2
  refine ⟨hl, fun i o it ho hi => ?_, fun i o ho e he hbind => ?_, fun i o d ho hd => ?_, fun i j o p d ho hp hd hd' => ?_, fun i o T z ho hi => ?_, fun i o k cs ho hi => ?_, fun i o b T cs ho hi => ?_, fun i j k cs cs' hi hj => ?_, fun i j b T T' cs cs' hi hj => ?_⟩
  · have := key i o it ho hi
    simp only [Bool.and_eq_true] at this
    exact this.1.1.1.1
  · obtain ⟨it, hi⟩ := itm i o ho
    have := key i o it ho hi
    simp only [Bool.and_eq_true] at this
    have h2 := this.1.1.1.2
    rw [Array.all_eq_true'] at h2
    have h3 := h2 e he
    rw [hbind] at h3
    simpa using h3
  · obtain ⟨it, hi⟩ := itm i o ho
    have := key i o it ho hi
    simp only [Bool.and_eq_true, hd, decide_eq_true_eq] at this
    exact this.1.2
  · obtain ⟨it, hi⟩ := itm i o ho
    obtain ⟨jt, hj⟩ := itm j p hp
    rcases Nat.decEq i j with hne | he
    · have := pair i j o p it jt ho hi hp hj hne
      simp [hd, hd'] at this
    · exact he
  · have := key i o _ ho hi
    simp only [Bool.and_eq_true] at this
    exact Option.isSome_iff_exists.1 this.1.1.2
  · have := key i o _ ho hi
    simp only [Bool.and_eq_true, Option.isNone_iff_eq_none] at this
    obtain ⟨⟨⟨_, ⟨h1, h2⟩, h3⟩, _⟩, _⟩ := this
    refine ⟨h1, ?_, ?_⟩
    · rw [Array.any_eq_true'] at h2
      obtain ⟨e, he, h2⟩ := h2
      rw [Bool.and_eq_true, beq_iff_eq] at h2
      exact ⟨e, he, h2.1, h2.2⟩
    · cases hk : its[k]? with
      | none => simp [hk] at h3
      | some it => cases it <;> simp [hk] at h3; exact ⟨_, _, rfl⟩
  · have := key i o _ ho hi
    simp only [Bool.and_eq_true, Option.isNone_iff_eq_none] at this
    exact this.1.1.2
  · obtain ⟨o, ho⟩ := opm i _ hi
    obtain ⟨p, hp⟩ := opm j _ hj
    rcases Nat.decEq i j with hne | he
    · have := pair i j o p _ _ ho hi hp hj hne
      simp at this
    · exact he
  · exact olds_once its hnd i j T T' cs cs' hi hj
theorem itm_lt {ops : Array Oper} {i : Nat} {o : Oper} (h : ops[i]? = some o) : i < ops.size := by
  rcases Nat.lt_or_ge i ops.size with hlt | hge
  · exact hlt
  · rw [Array.getElem?_eq_none hge] at h; cases h
theorem ready_spec {ops : Array Oper} {listed : Array Bool} {i : Nat} (hlen : listed.size = ops.size) (h : i ∈ Region.ready .any ops listed) :
    ∃ o, ops[i]? = some o ∧ listed[i]? = some false ∧ ∀ e ∈ o.after, Region.binds .any e = true → listed[e.on]? = some true := by
  unfold Region.ready at h
  rw [List.mem_filter, List.mem_range, Bool.and_eq_true] at h
  obtain ⟨hlt, hl, ha⟩ := h
  have ho : ops[i]? = some (ops[i]'hlt) := Array.getElem?_eq_getElem hlt
  refine ⟨_, ho, ?_, fun e he hb => ?_⟩
  · have hl2 : i < listed.size := by omega
    rw [Array.getElem?_eq_getElem hl2]
    simp [Array.getD, hl2] at hl
    rw [hl]
  · rw [ho] at ha
    simp only [Option.map_some, Option.getD_some, Array.all_eq_true'] at ha
    have := ha e he
    rw [hb] at this
    simp [Array.getD] at this
    obtain ⟨h1, h2⟩ := this
    rw [Array.getElem?_eq_getElem h1, h2]
theorem Inv.env {ops : Array Oper} {its : List Item} {a0 : Act} {w0 : World} {β : Nat → Nat} {listed : Array Bool} {a : Act} {w : World} {n : Nat} (sh : Shape ops its n) (I : Inv ops its a0 w0 β listed a w)
    {o : Oper} (hr : ∀ e ∈ o.after, Region.binds .any e = true → listed[e.on]? = some true) : Env ops its a0 o a := by
  intro s v hk
  unfold known at hk
  split at hk
  · rename_i hf
    rw [I.rest s (fun i p hp hl hd => ?_)]
    · exact hk
    · rw [List.find?_eq_none] at hf
      have := hf i (List.mem_range.2 (itm_lt hp))
      simp [hp, hd] at this
  · rename_i j hf
    have h1 := List.find?_some hf
    rw [beq_iff_eq, Option.bind_eq_some_iff] at h1
    obtain ⟨p, hp, hd⟩ := h1
    split at hk
    · rename_i hany
      rw [List.any_eq_true] at hany
      obtain ⟨e, he, hb⟩ := hany
      rw [Array.mem_toList_iff] at he
      rw [Bool.and_eq_true, beq_iff_eq] at hb
      have hl := hr e he hb.1
      rw [hb.2] at hl
      split at hk
      · rename_i v' hv
        rw [I.done j p _ s hp hv hl hd]
        exact hk
      · cases hk
    · cases hk
theorem below_kept {blk : Nat → Bool} {w0 w w' : World} (k : Kept blk w0 w) (h : Below w.heap.size w w') : Kept blk w0 w' :=
  ⟨h.os.trans k.os, h.tape.trans k.tape, h.output.trans k.output, Nat.le_trans k.size h.size, fun b hb ho => (h.block b (Nat.lt_of_lt_of_le hb k.size)).trans (k.block b hb ho)⟩
section
variable {P : Program} {Q : Exit → Act → World → Prop} {ops : Array Oper} {its : List Item} {a0 : Act} {w0 : World} {β : Nat → Nat} {listed : Array Bool} {a : Act} {w : World}
theorem heap_lt {w : World} {b : Nat} {x : Obj} (h : w.heap[b]? = some x) : b < w.heap.size := by
  rcases Nat.lt_or_ge b w.heap.size with hlt | hge
  · exact hlt
  · rw [Array.getElem?_eq_none hge] at h; cases h
theorem Inv.frameDone (sh : Shape ops its a0.tmps.size) (I : Inv ops its a0 w0 β listed a w) {i : Nat} {o : Oper} {it : Item} (ho : ops[i]? = some o) (hi : its[i]? = some it) (hlf : listed[i]? = some false) {β' : Nat → Nat}
    (hβ : ∀ k, k ≠ i → β' k = β k) {v : Value} (hv : ∀ d, o.dst = some d → v = it.value β' i) :
    ∀ (j : Nat) (p : Oper) (jt : Item) (d : Nat), ops[j]? = some p → its[j]? = some jt → (listed.setIfInBounds i true)[j]? = some true → p.dst = some d → (a.put o.dst v).tmps[d]? = some (jt.value β' j) := by
  intro j p jt d hp hj hl hd
  rcases Nat.decEq j i with hne | rfl
  · have hl' := lookL hl hne
    have h1 := I.done j p jt d hp hj hl' hd
    have e1 : jt.value β' j = jt.value β j := by cases jt <;> simp [Item.value, hβ j hne]
    rw [e1, ← h1]
    cases hod : o.dst with
    | none => rfl
    | some d' =>
      refine put_other (fun e => hne ?_)
      subst e
      exact sh.once j i p o d' hp ho hd hod
  · rw [ho] at hp
    cases hp
    rw [hi] at hj
    cases hj
    rw [hd, put_this (by rw [I.tsize]; exact sh.lt j o d ho hd)]
    exact congrArg some (hv d hd)
theorem Inv.frameRest (I : Inv ops its a0 w0 β listed a w) {i : Nat} {o : Oper} (ho : ops[i]? = some o) (hlt : i < listed.size) {v : Value} :
    ∀ k, (∀ (j : Nat) (p : Oper), ops[j]? = some p → (listed.setIfInBounds i true)[j]? = some true → p.dst ≠ some k) → (a.put o.dst v).tmps[k]? = a0.tmps[k]? := by
  intro k hk
  have h1 : o.dst ≠ some k := hk i o ho (by simp [hlt])
  have h2 : a.tmps[k]? = a0.tmps[k]? := I.rest k (fun j p hp hl => hk j p hp (by
    rcases Nat.decEq j i with hne | rfl
    · rwa [Array.getElem?_setIfInBounds_ne (Ne.symm hne)]
    · simp [hlt]))
  cases hod : o.dst with
  | none => simpa [Act.put] using h2
  | some d => rw [put_other (fun e => h1 (by rw [hod, e])), h2]
theorem lookF {listed : Array Bool} {i j : Nat} (h : (listed.setIfInBounds i true)[j]? = some false) : j ≠ i ∧ listed[j]? = some false := by
  rcases Nat.decEq j i with hne | rfl
  · exact ⟨hne, by rwa [Array.getElem?_setIfInBounds_ne (Ne.symm hne)] at h⟩
  · rw [Array.getElem?_setIfInBounds_self] at h
    split at h <;> cases h
theorem mem_lt {i : Nat} {it : Item} (h : its[i]? = some it) : i < its.length := by
  rcases Nat.lt_or_ge i its.length with hlt | hge
  · exact hlt
  · rw [List.getElem?_eq_none hge] at h; cases h
theorem isOld_mem {b : Nat} {i k : Nat} {T : TypeId} {cs : Array Value} (h : its[i]? = some (.old b T cs)) (hw : waitsFor ops i k = false) : isOld ops its k b = true := by
  unfold isOld
  rw [List.any_eq_true]
  exact ⟨i, List.mem_range.2 (mem_lt h), by simp [h, hw]⟩
theorem waits_end (sh : Shape ops its a0.tmps.size) (j : Nat) : waitsFor ops j ops.size = false := by
  unfold waitsFor
  split
  · rename_i o ho
    rw [List.any_eq_false]
    intro e he
    rw [Array.mem_toList_iff] at he
    have h1 := sh.back j o ho e he
    have h2 := itm_lt ho
    cases hb : Region.binds .any e with
    | false => simp
    | true =>
      have h3 := h1 hb
      have : e.on ≠ ops.size := by omega
      simp [this]
  · rfl
theorem Inv.keptAt (sh : Shape ops its a0.tmps.size) (I : Inv ops its a0 w0 β listed a w) {i : Nat} (hlf : listed[i]? = some false) : Kept (isOld ops its i) w0 w := by
  refine ⟨I.kept.os, I.kept.tape, I.kept.output, I.kept.size, fun b hb ho => ?_⟩
  by_cases hold : isOld ops its ops.size b = false
  · exact I.kept.block b hb hold
  · rw [Bool.not_eq_false] at hold
    unfold isOld at hold
    rw [List.any_eq_true] at hold
    obtain ⟨j, hj, hm⟩ := hold
    rw [List.mem_range] at hj
    split at hm
    · rename_i b' T cs hjt
      rw [Bool.and_eq_true, beq_iff_eq] at hm
      obtain ⟨rfl, _⟩ := hm
      have hw : waitsFor ops j i = true := by
        rcases hwt : waitsFor ops j i with _ | _
        · rw [isOld_mem hjt hwt] at ho; cases ho
        · rfl
      unfold waitsFor at hw
      split at hw
      · rename_i o hoj
        rw [List.any_eq_true] at hw
        obtain ⟨e, he, hb2⟩ := hw
        rw [Array.mem_toList_iff] at he
        rw [Bool.and_eq_true, beq_iff_eq] at hb2
        have hlj : listed[j]? = some (listed[j]'(by rw [I.len, ← sh.len]; exact hj)) := Array.getElem?_eq_getElem _
        cases hv : listed[j]'(by rw [I.len, ← sh.len]; exact hj) with
        | true =>
          rw [hv] at hlj
          have := I.closed j o hoj hlj e he hb2.1
          rw [hb2.2, hlf] at this
          cases this
        | false =>
          rw [hv] at hlj
          exact I.waits j b' T cs hjt hlj
      · cases hw
    · cases hm
theorem Inv.closedSet (I : Inv ops its a0 w0 β listed a w) {i : Nat} {o : Oper} (ho : ops[i]? = some o) (haft : ∀ e ∈ o.after, Region.binds .any e = true → listed[e.on]? = some true) :
    ∀ (j : Nat) (p : Oper), ops[j]? = some p → (listed.setIfInBounds i true)[j]? = some true → ∀ e ∈ p.after, Region.binds .any e = true → (listed.setIfInBounds i true)[e.on]? = some true := by
  intro j p hp hl e he hb
  rcases Nat.decEq j i with hne | rfl
  · exact listed_set (I.closed j p hp (lookL hl hne) e he hb)
  · rw [ho] at hp
    cases hp
    exact listed_set (haft e he hb)
theorem Inv.val (sh : Shape ops its a0.tmps.size) (I : Inv ops its a0 w0 β listed a w) {i : Nat} {o : Oper} {v : Value} (ho : ops[i]? = some o) (hi : its[i]? = some (.val v)) (hlf : listed[i]? = some false) {w' : World} (hb : Below w.heap.size w w') (haft : ∀ e ∈ o.after, Region.binds .any e = true → listed[e.on]? = some true)
    (hold : ∀ (j b : Nat) (T : TypeId) (cs : Array Value), its[j]? = some (.old b T cs) → b < w0.heap.size) :
    Inv ops its a0 w0 β (listed.setIfInBounds i true) (a.put o.dst v) w' := by
  have hlt : i < listed.size := by rw [I.len]; exact itm_lt ho
  refine ⟨by simpa using I.len, by rw [put_defers]; exact I.defers, by rw [put_size]; exact I.tsize, I.frameDone sh ho hi hlf (fun _ _ => rfl) (fun _ _ => rfl), I.frameRest ho hlt, below_kept I.kept hb, I.closedSet ho haft, ?_, ?_, ?_, ?_, ?_, ?_⟩
  · intro j T z hj hl
    have hne : j ≠ i := by rintro rfl; rw [hi] at hj; cases hj
    obtain ⟨h1, h2, cs, h3, h4⟩ := I.news j T z hj (lookL hl hne)
    exact ⟨h1, Nat.lt_of_lt_of_le h2 hb.size, cs, (hb.block _ h2).trans h3, h4⟩
  · intro j k T T' z z' hj hk hl hl' hne
    have h1 : j ≠ i := by rintro rfl; rw [hi] at hj; cases hj
    have h2 : k ≠ i := by rintro rfl; rw [hi] at hk; cases hk
    exact I.apart j k T T' z z' hj hk (lookL hl h1) (lookL hl' h2) hne
  · intro j k cs T z hj hk hl hl'
    have h1 : j ≠ i := by rintro rfl; rw [hi] at hj; cases hj
    have h2 : k ≠ i := by rintro rfl; rw [hi] at hk; cases hk
    have h3 := I.puts j k cs T z hj hk (lookL hl h1) (lookL hl' h2)
    exact (hb.block _ (heap_lt h3)).trans h3
  · intro j b T cs hj hl
    have h1 : j ≠ i := by rintro rfl; rw [hi] at hj; cases hj
    have h3 := I.olds j b T cs hj (lookL hl h1)
    exact (hb.block _ (heap_lt h3)).trans h3
  · intro j k cs hj hl
    have h1 : j ≠ i := by rintro rfl; rw [hi] at hj; cases hj
    exact listed_set (I.behind j k cs hj (lookL hl h1))
  · intro j b T cs hj hl
    obtain ⟨h1, h2⟩ := lookF hl
    exact (hb.block _ (Nat.lt_of_lt_of_le (hold j b T cs hj) I.kept.size)).trans (I.waits j b T cs hj h2)
theorem Inv.skip_ (sh : Shape ops its a0.tmps.size) (I : Inv ops its a0 w0 β listed a w) {i : Nat} {o : Oper} (ho : ops[i]? = some o) (hi : its[i]? = some .skip) (hlf : listed[i]? = some false) (haft : ∀ e ∈ o.after, Region.binds .any e = true → listed[e.on]? = some true)
    (hold : ∀ (j b : Nat) (T : TypeId) (cs : Array Value), its[j]? = some (.old b T cs) → b < w0.heap.size) :
    Inv ops its a0 w0 β (listed.setIfInBounds i true) (a.put o.dst undef) w := by
  have hb : Below w.heap.size w w := Below.refl _ _
  have hlt : i < listed.size := by rw [I.len]; exact itm_lt ho
  refine ⟨by simpa using I.len, by rw [put_defers]; exact I.defers, by rw [put_size]; exact I.tsize, I.frameDone sh ho hi hlf (fun _ _ => rfl) (fun _ _ => rfl), I.frameRest ho hlt, below_kept I.kept hb, I.closedSet ho haft, ?_, ?_, ?_, ?_, ?_, ?_⟩
  · intro j T z hj hl
    have hne : j ≠ i := by rintro rfl; rw [hi] at hj; cases hj
    obtain ⟨h1, h2, cs, h3, h4⟩ := I.news j T z hj (lookL hl hne)
    exact ⟨h1, Nat.lt_of_lt_of_le h2 hb.size, cs, (hb.block _ h2).trans h3, h4⟩
  · intro j k T T' z z' hj hk hl hl' hne
    have h1 : j ≠ i := by rintro rfl; rw [hi] at hj; cases hj
    have h2 : k ≠ i := by rintro rfl; rw [hi] at hk; cases hk
    exact I.apart j k T T' z z' hj hk (lookL hl h1) (lookL hl' h2) hne
  · intro j k cs T z hj hk hl hl'
    have h1 : j ≠ i := by rintro rfl; rw [hi] at hj; cases hj
    have h2 : k ≠ i := by rintro rfl; rw [hi] at hk; cases hk
    have h3 := I.puts j k cs T z hj hk (lookL hl h1) (lookL hl' h2)
    exact (hb.block _ (heap_lt h3)).trans h3
  · intro j b T cs hj hl
    have h1 : j ≠ i := by rintro rfl; rw [hi] at hj; cases hj
    have h3 := I.olds j b T cs hj (lookL hl h1)
    exact (hb.block _ (heap_lt h3)).trans h3
  · intro j k cs hj hl
    have h1 : j ≠ i := by rintro rfl; rw [hi] at hj; cases hj
    exact listed_set (I.behind j k cs hj (lookL hl h1))
  · intro j b T cs hj hl
    obtain ⟨h1, h2⟩ := lookF hl
    exact (hb.block _ (Nat.lt_of_lt_of_le (hold j b T cs hj) I.kept.size)).trans (I.waits j b T cs hj h2)
theorem Inv.new_ (sh : Shape ops its a0.tmps.size) (I : Inv ops its a0 w0 β listed a w) {i : Nat} {o : Oper} {T : TypeId} {z : Array Value} (ho : ops[i]? = some o) (hi : its[i]? = some (.new T z)) (hlf : listed[i]? = some false) (haft : ∀ e ∈ o.after, Region.binds .any e = true → listed[e.on]? = some true)
    (hold : ∀ (j b : Nat) (T : TypeId) (cs : Array Value), its[j]? = some (.old b T cs) → b < w0.heap.size) :
    Inv ops its a0 w0 (fun k => if k = i then w.heap.size else β k) (listed.setIfInBounds i true) (a.put o.dst (.pointer (some ⟨w.heap.size, 0, none⟩))) (w.alloc (.cells z T)) := by
  have hlt : i < listed.size := by rw [I.len]; exact itm_lt ho
  have hb : Below w.heap.size w (w.alloc (.cells z T)) := (Below.refl _ _).alloc (Nat.le_refl _) _
  have hne' : ∀ k, k ≠ i → (if k = i then w.heap.size else β k) = β k := fun k hk => if_neg hk
  refine ⟨by simpa using I.len, by rw [put_defers]; exact I.defers, by rw [put_size]; exact I.tsize, I.frameDone sh ho hi hlf hne' (fun _ _ => by simp [Item.value]), I.frameRest ho hlt, below_kept I.kept hb, I.closedSet ho haft, ?_, ?_, ?_, ?_, ?_, ?_⟩
  · intro j T' z' hj hl
    show _ ≤ (if j = i then w.heap.size else β j) ∧ (if j = i then w.heap.size else β j) < _ ∧ ∃ cs, _
    rcases Nat.decEq j i with hne | rfl
    · rw [if_neg hne]
      obtain ⟨h1, h2, cs, h3, h4⟩ := I.news j T' z' hj (lookL hl hne)
      exact ⟨h1, Nat.lt_of_lt_of_le h2 hb.size, cs, (hb.block _ h2).trans h3, h4⟩
    · rw [if_pos rfl]
      rw [hi] at hj
      cases hj
      exact ⟨I.kept.size, by simp, z, heap_alloc_new w _, rfl⟩
  · intro j k T1 T2 z1 z2 hj hk hl hl' hne
    show (if j = i then w.heap.size else β j) ≠ (if k = i then w.heap.size else β k)
    rcases Nat.decEq j i with h1 | rfl
    · rw [if_neg h1]
      obtain ⟨_, hj2, _⟩ := I.news j T1 z1 hj (lookL hl h1)
      rcases Nat.decEq k i with h2 | rfl
      · rw [if_neg h2]
        exact I.apart j k T1 T2 z1 z2 hj hk (lookL hl h1) (lookL hl' h2) hne
      · rw [if_pos rfl]; omega
    · rw [if_pos rfl, if_neg (Ne.symm hne)]
      obtain ⟨_, hk2, _⟩ := I.news k T2 z2 hk (lookL hl' (Ne.symm hne))
      omega
  · intro j k cs T1 z1 hj hk hl hl'
    show (w.alloc (.cells z T)).heap[(if k = i then w.heap.size else β k)]? = _
    have h1 : j ≠ i := by rintro rfl; rw [hi] at hj; cases hj
    have hlj := lookL hl h1
    rcases Nat.decEq k i with h2 | rfl
    · rw [if_neg h2]
      have h3 := I.puts j k cs T1 z1 hj hk hlj (lookL hl' h2)
      exact (hb.block _ (heap_lt h3)).trans h3
    · exact absurd (I.behind j k cs hj hlj) (by rw [hlf]; simp)
  · intro j b T1 cs hj hl
    have h1 : j ≠ i := by rintro rfl; rw [hi] at hj; cases hj
    have h3 := I.olds j b T1 cs hj (lookL hl h1)
    exact (hb.block _ (heap_lt h3)).trans h3
  · intro j k cs hj hl
    have h1 : j ≠ i := by rintro rfl; rw [hi] at hj; cases hj
    exact listed_set (I.behind j k cs hj (lookL hl h1))
  · intro j b T1 cs hj hl
    obtain ⟨h1, h2⟩ := lookF hl
    exact (hb.block _ (Nat.lt_of_lt_of_le (hold j b T1 cs hj) I.kept.size)).trans (I.waits j b T1 cs hj h2)
theorem Inv.put_ (sh : Shape ops its a0.tmps.size) (I : Inv ops its a0 w0 β listed a w) {i k : Nat} {o : Oper} {cs : Array Value} {T : TypeId} {z : Array Value} (ho : ops[i]? = some o) (hi : its[i]? = some (.put k cs)) (hk : its[k]? = some (.new T z))
    (hlf : listed[i]? = some false) (hlk : listed[k]? = some true) (hsz : cs.size = z.size) {w' : World} (hr : Rewrites w w' (β k) T cs) (haft : ∀ e ∈ o.after, Region.binds .any e = true → listed[e.on]? = some true)
    (hold : ∀ (j b : Nat) (T : TypeId) (cs : Array Value), its[j]? = some (.old b T cs) → b < w0.heap.size) :
    Inv ops its a0 w0 β (listed.setIfInBounds i true) (a.put o.dst undef) w' := by
  have hlt : i < listed.size := by rw [I.len]; exact itm_lt ho
  obtain ⟨n1, n2, cs0, n3, n4⟩ := I.news k T z hk hlk
  have hd := (sh.putDst i o k cs ho hi).1
  refine ⟨by simpa using I.len, by rw [put_defers]; exact I.defers, by rw [put_size]; exact I.tsize, I.frameDone sh ho hi hlf (fun _ _ => rfl) (fun d h => by rw [hd] at h; cases h), I.frameRest ho hlt,
    ⟨hr.os.trans I.kept.os, hr.tape.trans I.kept.tape, hr.output.trans I.kept.output, by rw [hr.size]; exact I.kept.size, fun b hb hb2 => (hr.block b (by omega)).trans (I.kept.block b hb hb2)⟩, I.closedSet ho haft, ?_, ?_, ?_, ?_, ?_, ?_⟩
  · intro j T' z' hj hl
    have hne : j ≠ i := by rintro rfl; rw [hi] at hj; cases hj
    obtain ⟨h1, h2, c, h3, h4⟩ := I.news j T' z' hj (lookL hl hne)
    refine ⟨h1, by rw [hr.size]; exact h2, ?_⟩
    rcases Nat.decEq j k with hjk | rfl
    · exact ⟨c, (hr.block _ (I.apart j k _ _ _ _ hj hk (lookL hl hne) hlk hjk)).trans h3, h4⟩
    · rw [hk] at hj
      cases hj
      exact ⟨cs, hr.this, hsz⟩
  · intro j l T1 T2 z1 z2 hj hl hlj hll hne
    have h1 : j ≠ i := by rintro rfl; rw [hi] at hj; cases hj
    have h2 : l ≠ i := by rintro rfl; rw [hi] at hl; cases hl
    exact I.apart j l T1 T2 z1 z2 hj hl (lookL hlj h1) (lookL hll h2) hne
  · intro j l c T1 z1 hj hl hlj hll
    have h2 : l ≠ i := by rintro rfl; rw [hi] at hl; cases hl
    have hll' := lookL hll h2
    rcases Nat.decEq j i with h1 | rfl
    · have h3 := I.puts j l c T1 z1 hj hl (lookL hlj h1) hll'
      have hlk' : l ≠ k := by
        rintro rfl
        exact h1 (sh.putOnce j i l c cs hj hi)
      exact (hr.block _ (I.apart l k _ _ _ _ hl hk hll' hlk hlk')).trans h3
    · rw [hi] at hj
      cases hj
      rw [hk] at hl
      cases hl
      exact hr.this
  · intro j b T1 c hj hl
    have h1 : j ≠ i := by rintro rfl; rw [hi] at hj; cases hj
    have h3 := I.olds j b T1 c hj (lookL hl h1)
    have := hold j b T1 c hj
    exact (hr.block _ (by omega)).trans h3
  · intro j l c hj hl
    rcases Nat.decEq j i with h1 | rfl
    · exact listed_set (I.behind j l c hj (lookL hl h1))
    · rw [hi] at hj
      cases hj
      exact listed_set hlk
  · intro j b T1 c hj hl
    obtain ⟨h1, h2⟩ := lookF hl
    have := hold j b T1 c hj
    exact (hr.block _ (by omega)).trans (I.waits j b T1 c hj h2)
theorem Inv.old_ (sh : Shape ops its a0.tmps.size) (I : Inv ops its a0 w0 β listed a w) {i b : Nat} {o : Oper} {cs : Array Value} {T : TypeId} (ho : ops[i]? = some o) (hi : its[i]? = some (.old b T cs))
    (hlf : listed[i]? = some false) {w' : World} (hr : Rewrites w w' b T cs) (haft : ∀ e ∈ o.after, Region.binds .any e = true → listed[e.on]? = some true)
    (hold : ∀ (j b : Nat) (T : TypeId) (cs : Array Value), its[j]? = some (.old b T cs) → b < w0.heap.size) :
    Inv ops its a0 w0 β (listed.setIfInBounds i true) (a.put o.dst undef) w' := by
  have hlt : i < listed.size := by rw [I.len]; exact itm_lt ho
  have hd := sh.oldDst i o b T cs ho hi
  have hbs := hold i b T cs hi
  refine ⟨by simpa using I.len, by rw [put_defers]; exact I.defers, by rw [put_size]; exact I.tsize, I.frameDone sh ho hi hlf (fun _ _ => rfl) (fun d h => by rw [hd] at h; cases h), I.frameRest ho hlt,
    ⟨hr.os.trans I.kept.os, hr.tape.trans I.kept.tape, hr.output.trans I.kept.output, by rw [hr.size]; exact I.kept.size, fun c hc hc2 => (hr.block c (by rintro rfl; rw [isOld_mem hi (waits_end sh i)] at hc2; cases hc2)).trans (I.kept.block c hc hc2)⟩, I.closedSet ho haft, ?_, ?_, ?_, ?_, ?_, ?_⟩
  · intro j T' z' hj hl
    have hne : j ≠ i := by rintro rfl; rw [hi] at hj; cases hj
    obtain ⟨h1, h2, c, h3, h4⟩ := I.news j T' z' hj (lookL hl hne)
    exact ⟨h1, by rw [hr.size]; exact h2, c, (hr.block _ (by omega)).trans h3, h4⟩
  · intro j l T1 T2 z1 z2 hj hl hlj hll hne
    have h1 : j ≠ i := by rintro rfl; rw [hi] at hj; cases hj
    have h2 : l ≠ i := by rintro rfl; rw [hi] at hl; cases hl
    exact I.apart j l T1 T2 z1 z2 hj hl (lookL hlj h1) (lookL hll h2) hne
  · intro j l c T1 z1 hj hl hlj hll
    have h1 : j ≠ i := by rintro rfl; rw [hi] at hj; cases hj
    have h2 : l ≠ i := by rintro rfl; rw [hi] at hl; cases hl
    have h3 := I.puts j l c T1 z1 hj hl (lookL hlj h1) (lookL hll h2)
    obtain ⟨h4, _, _⟩ := I.news l T1 z1 hl (lookL hll h2)
    exact (hr.block _ (by omega)).trans h3
  · intro j c T1 cs1 hj hl
    rcases Nat.decEq j i with h1 | rfl
    · have h3 := I.olds j c T1 cs1 hj (lookL hl h1)
      refine (hr.block _ ?_).trans h3
      rintro rfl
      exact h1 (sh.oldOnce j i c T1 T cs1 cs hj hi)
    · rw [hi] at hj
      cases hj
      exact hr.this
  · intro j l c hj hl
    have h1 : j ≠ i := by rintro rfl; rw [hi] at hj; cases hj
    exact listed_set (I.behind j l c hj (lookL hl h1))
  · intro j c T1 cs1 hj hl
    obtain ⟨h1, h2⟩ := lookF hl
    refine (hr.block _ ?_).trans (I.waits j c T1 cs1 hj h2)
    rintro rfl
    exact h1 (sh.oldOnce j i c T1 T cs1 cs hj hi)
structure Fin (ops : Array Oper) (its : List Item) (w0 : World) (β : Nat → Nat) (w : World) : Prop where
  kept : Kept (isOld ops its ops.size) w0 w
  news : ∀ (i : Nat) (T : TypeId) (z : Array Value), its[i]? = some (.new T z) → w0.heap.size ≤ β i ∧ β i < w.heap.size ∧ ∃ cs, w.heap[β i]? = some (.cells cs T (0, 0)) ∧ cs.size = z.size
  apart : ∀ (i j : Nat) (T T' : TypeId) (z z' : Array Value), its[i]? = some (.new T z) → its[j]? = some (.new T' z') → i ≠ j → β i ≠ β j
  puts : ∀ (i k : Nat) (cs : Array Value) (T : TypeId) (z : Array Value), its[i]? = some (.put k cs) → its[k]? = some (.new T z) → w.heap[β k]? = some (.cells cs T (0, 0))
  olds : ∀ (i b : Nat) (T : TypeId) (cs : Array Value), its[i]? = some (.old b T cs) → w.heap[b]? = some (.cells cs T (0, 0))
def finAct (ops : Array Oper) (its : List Item) (β : Nat → Nat) : Nat → Act → Act
  | 0, a => a
  | m + 1, a => match ops[m]?, its[m]? with
    | some o, some it => match o.dst with
      | some d => (finAct ops its β m a).put (some d) (it.value β m)
      | none => finAct ops its β m a
    | _, _ => finAct ops its β m a
theorem finAct_size (m : Nat) : (finAct ops its β m a).tmps.size = a.tmps.size ∧ (finAct ops its β m a).defers = a.defers := by
  induction m with
  | zero => exact ⟨rfl, rfl⟩
  | succ m ih =>
    unfold finAct
    split
    · split
      · exact ⟨by rw [put_size]; exact ih.1, by rw [put_defers]; exact ih.2⟩
      · exact ih
    · exact ih
theorem finAct_rest (m k : Nat) (h : ∀ (i : Nat) (o : Oper), i < m → ops[i]? = some o → o.dst ≠ some k) : (finAct ops its β m a).tmps[k]? = a.tmps[k]? := by
  induction m with
  | zero => rfl
  | succ m ih =>
    have ih' := ih (fun i o hi => h i o (by omega))
    unfold finAct
    split
    · rename_i o it ho hi
      split
      · rename_i d hd
        rw [put_other (fun e => h m o (by omega) ho (by rw [hd, e]))]
        exact ih'
      · exact ih'
    · exact ih'
theorem finAct_done (sh : Shape ops its a.tmps.size) (m : Nat) {i : Nat} {o : Oper} {it : Item} {d : Nat} (him : i < m) (ho : ops[i]? = some o) (hi : its[i]? = some it) (hd : o.dst = some d) :
    (finAct ops its β m a).tmps[d]? = some (it.value β i) := by
  induction m with
  | zero => omega
  | succ m ih =>
    unfold finAct
    rcases Nat.decEq i m with hne | rfl
    · have ih' := ih (by omega)
      split
      · rename_i p jt hp hj
        split
        · rename_i d' hd'
          rw [put_other (fun e => hne (by subst e; exact sh.once i m o p d' ho hp hd hd'))]
          exact ih'
        · exact ih'
      · exact ih'
    · rw [ho, hi]
      simp only [hd]
      exact put_this (by rw [(finAct_size i).1]; exact sh.lt i o d ho hd)
theorem Inv.fin_act (sh : Shape ops its a0.tmps.size) (I : Inv ops its a0 w0 β listed a w) (hall : ∀ i, i < ops.size → listed[i]? = some true) : a = finAct ops its β ops.size a0 := by
  obtain ⟨h1, h2⟩ := finAct_size (ops := ops) (its := its) (β := β) (a := a0) ops.size
  have ht : a.tmps = (finAct ops its β ops.size a0).tmps := by
    apply Array.ext_getElem?
    intro k
    by_cases hk : ∃ (i : Nat) (o : Oper), ops[i]? = some o ∧ o.dst = some k
    · obtain ⟨i, o, ho, hd⟩ := hk
      have hlt := itm_lt ho
      have hi : its[i]? = some (its[i]'(by rw [sh.len]; exact hlt)) := List.getElem?_eq_getElem _
      rw [I.done i o _ k ho hi (hall i hlt) hd, finAct_done sh ops.size hlt ho hi hd]
    · rw [I.rest k (fun i o ho _ hd => hk ⟨i, o, ho, hd⟩), finAct_rest ops.size k (fun i o _ ho hd => hk ⟨i, o, ho, hd⟩)]
  cases a with
  | mk t d =>
    cases hf : finAct ops its β ops.size a0 with
    | mk t' d' =>
      rw [hf] at ht h2
      simp only at ht h2
      have := I.defers
      simp only at this
      rw [ht, this, h2]
theorem Inv.fin_ (I : Inv ops its a0 w0 β listed a w) (hlen : its.length = ops.size) (hall : ∀ i, i < ops.size → listed[i]? = some true) : Fin ops its w0 β w := by
  have lt : ∀ (i : Nat) (it : Item), its[i]? = some it → listed[i]? = some true := fun i it h => hall i (by
    rcases Nat.lt_or_ge i its.length with h' | h'
    · omega
    · rw [List.getElem?_eq_none h'] at h; cases h)
  exact ⟨I.kept, fun i T z h => I.news i T z h (lt _ _ h), fun i j T T' z z' h h' hne => I.apart i j T T' z z' h h' (lt _ _ h) (lt _ _ h') hne,
    fun i k cs T z h h' => I.puts i k cs T z h h' (lt _ _ h) (lt _ _ h'), fun i b T cs h => I.olds i b T cs h (lt _ _ h)⟩
theorem Inv.wanted_ (I : Inv ops its a0 w0 β listed a w) {o : Oper} {it : Item} (haft : ∀ e ∈ o.after, Region.binds .any e = true → listed[e.on]? = some true) (hg : guardOk ops its o it = true) :
    Region.wanted o (yielded ops a.tmps) = !isSkip it := by
  unfold guardOk at hg
  unfold Region.wanted
  split at hg
  · rename_i hn
    rw [hn]
    simpa using hg.symm
  · rename_i j want hn
    rw [hn]
    rw [Bool.and_eq_true, List.any_eq_true] at hg
    obtain ⟨⟨e, he, hb⟩, hm⟩ := hg
    rw [Array.mem_toList_iff] at he
    rw [Bool.and_eq_true, beq_iff_eq] at hb
    have hl := haft e he hb.1
    rw [hb.2] at hl
    split at hm
    · rename_i q b hp hj
      rw [Bool.and_eq_true] at hm
      obtain ⟨hd, hx⟩ := hm
      obtain ⟨d, hd⟩ := Option.isSome_iff_exists.1 hd
      have hv := I.done j q _ d hp hj hl hd
      have hy : yielded ops a.tmps j = some b := by
        unfold yielded
        rw [hp]
        simp only [Option.bind_some, hd, hv, Item.value]
      simp only [hy]
      cases b <;> cases want <;> cases hs : isSkip it <;> simp_all
    · cases hm
def left (listed : Array Bool) : Nat := listed.toList.count false
theorem left_set {i : Nat} (h : listed[i]? = some false) : left (listed.setIfInBounds i true) + 1 = left listed := by
  unfold left
  rw [Array.toList_setIfInBounds]
  obtain ⟨l⟩ := listed
  simp only [List.getElem?_toArray] at h
  show List.count false (l.set i true) + 1 = List.count false l
  induction l generalizing i with
  | nil => simp at h
  | cons x l ih =>
    cases i with
    | zero =>
      simp only [List.getElem?_cons_zero, Option.some.injEq] at h
      subst h
      simp
    | succ i =>
      simp only [List.getElem?_cons_succ] at h
      have := ih h
      simp only [List.set_cons_succ, List.count_cons]
      omega
theorem all_of_ready (sh : Shape ops its a0.tmps.size) (hlen : listed.size = ops.size) (h : Region.ready .any ops listed = []) : ∀ i, i < ops.size → listed[i]? = some true := by
  intro i
  induction i using Nat.strongRecOn with
  | ind i ih =>
    intro hlt
    have hl : listed[i]? = some (listed[i]'(by omega)) := Array.getElem?_eq_getElem _
    cases hv : listed[i]'(by omega) with
    | true => rw [hl, hv]
    | false =>
      exfalso
      have ho : ops[i]? = some (ops[i]'hlt) := Array.getElem?_eq_getElem hlt
      have hmem : i ∈ Region.ready .any ops listed := by
        unfold Region.ready
        rw [List.mem_filter, List.mem_range, Bool.and_eq_true]
        refine ⟨hlt, ?_, ?_⟩
        · have hl2 : i < listed.size := by omega
          simp [Array.getD, hl2, hv]
        · rw [ho]
          simp only [Option.map_some, Option.getD_some, Array.all_eq_true']
          intro e he
          cases hbind : Region.binds .any e with
          | false => simp
          | true =>
            have hb := sh.back i _ ho e he hbind
            have h3 := ih e.on hb (by omega)
            have hl3 : e.on < listed.size := by omega
            rw [Array.getElem?_eq_getElem hl3] at h3
            simp [Array.getD, hl3, Option.some.inj h3]
      rw [h] at hmem
      cases hmem
theorem wpAny_inv (sh : Shape ops its a0.tmps.size)
    (hold : ∀ (j b : Nat) (T : TypeId) (cs : Array Value), its[j]? = some (.old b T cs) → ∃ cs0, w0.heap[b]? = some (.cells cs0 T (0, 0)) ∧ cs0.size = cs.size)
    (hput : ∀ (i k : Nat) (cs : Array Value) (T : TypeId) (z : Array Value), its[i]? = some (.put k cs) → its[k]? = some (.new T z) → cs.size = z.size)
    (hstep : ∀ (i : Nat) (o : Oper) (it : Item), ops[i]? = some o → its[i]? = some it → StepOk P Q ops its a0 w0 i o it)
    (hend : ∀ β w, Fin ops its w0 β w → Q .normal (finAct ops its β ops.size a0) w) :
    ∀ (fuel : Nat) (β : Nat → Nat) (listed : Array Bool) (a : Act) (w : World), Inv ops its a0 w0 β listed a w → left listed ≤ fuel → wpAny P .any ops Q fuel listed a w := by
  have hold' : ∀ (j b : Nat) (T : TypeId) (cs : Array Value), its[j]? = some (.old b T cs) → b < w0.heap.size := fun j b T cs h => by
    obtain ⟨cs0, h1, _⟩ := hold j b T cs h
    exact heap_lt h1
  have done : ∀ (β : Nat → Nat) (listed : Array Bool) (a : Act) (w : World), Inv ops its a0 w0 β listed a w → Region.ready .any ops listed = [] → Q .normal a w := fun β listed a w I hr => by
    have hall := all_of_ready sh I.len hr
    rw [I.fin_act sh hall]
    exact hend β w (I.fin_ sh.len hall)
  intro fuel
  induction fuel with
  | zero =>
    intro β listed a w I hc
    have hr : Region.ready .any ops listed = [] := by
      rcases hrd : Region.ready .any ops listed with _ | ⟨i, l⟩
      · rfl
      · exfalso
        obtain ⟨o, ho, hf, _⟩ := ready_spec I.len (i := i) (by rw [hrd]; exact List.mem_cons_self)
        have := left_set hf
        omega
    exact ⟨hr, done β listed a w I hr⟩
  | succ fuel ih =>
    intro β listed a w I hc
    refine ⟨done β listed a w I, fun i hi => ?_⟩
    obtain ⟨o, ho, hf, haft⟩ := ready_spec I.len hi
    have hlt := itm_lt ho
    have hit : its[i]? = some (its[i]'(by rw [sh.len]; exact hlt)) := List.getElem?_eq_getElem _
    have E := I.env sh haft
    have hstep' := hstep i o _ ho hit
    have hkA := I.keptAt sh hf
    have hcount := left_set hf
    have next : ∀ (β' : Nat → Nat) (a' : Act) (w' : World), Inv ops its a0 w0 β' (listed.setIfInBounds i true) a' w' → wpAny P .any ops Q fuel (listed.setIfInBounds i true) a' w' := fun β' a' w' I' => ih β' _ a' w' I' (by omega)
    unfold wpOp
    rw [ho]
    have hg := sh.guard i o _ ho hit
    generalize its[i]'(by rw [sh.len]; exact hlt) = it at hit hstep' hg
    have hw : Region.wanted o (yielded ops a.tmps) = !isSkip it := I.wanted_ haft hg
    simp only [hw]
    by_cases hs : isSkip it = true
    · rw [hs]
      simp only [Bool.not_true, Bool.false_eq_true, if_false]
      cases it <;> simp only [isSkip, Bool.false_eq_true] at hs
      exact next β _ _ (I.skip_ sh ho hit hf haft hold')
    rw [Bool.not_eq_true] at hs
    rw [hs]
    simp only [Bool.not_false, if_true]
    refine .inl ?_
    cases it with
    | skip => simp [isSkip] at hs
    | val v => exact hstep' a w _ E hkA (fun w' hb => next β _ _ (I.val sh ho hit hf hb haft hold'))
    | new T z => exact hstep' a w _ (next _ _ _ (I.new_ sh ho hit hf haft hold'))
    | put k cs =>
      obtain ⟨hd, ⟨e, he, hb, hek⟩, T, z, hk⟩ := sh.putDst i o k cs ho hit
      have hlk : listed[k]? = some true := by rw [← hek]; exact haft e he hb
      obtain ⟨n1, n2, cs0, n3, n4⟩ := I.news k T z hk hlk
      have hkl : k < ops.size := by
        rcases Nat.lt_or_ge k its.length with h | h
        · rw [← sh.len]; exact h
        · rw [List.getElem?_eq_none h] at hk; cases hk
      have hok : ops[k]? = some (ops[k]'hkl) := Array.getElem?_eq_getElem hkl
      obtain ⟨d, hdk⟩ := sh.newDst k _ T z hok hk
      exact hstep' T z hk a w _ (β k) cs0 d E hkA (by rw [hok]; exact hdk) (I.done k _ _ d hok hk hlk hdk) n3 n4 (fun w' hr => next β _ _ (I.put_ sh ho hit hk hf hlk (hput i k cs T z hit hk) hr haft hold'))
    | old b T cs =>
      obtain ⟨cs0, h1, h2⟩ := hold i b T cs hit
      exact hstep' a w _ cs0 E hkA ((I.waits i b T cs hit hf).trans h1) h2 (fun w' hr => next β _ _ (I.old_ sh ho hit hf hr haft hold'))
theorem inv_start : Inv ops its a0 w0 β (Array.replicate ops.size false) a0 w0 := by
  have no : ∀ i, (Array.replicate ops.size false)[i]? ≠ some true := fun i h => by
    rw [Array.getElem?_replicate] at h
    split at h <;> cases h
  exact ⟨by simp, rfl, rfl, fun i _ _ _ _ _ h => absurd h (no i), fun _ _ => rfl, ⟨rfl, rfl, rfl, Nat.le_refl _, fun _ _ _ => rfl⟩, fun i _ _ h => absurd h (no i), fun i _ _ _ h => absurd h (no i), fun i _ _ _ _ _ _ _ h => absurd h (no i),
    fun i _ _ _ _ _ _ h => absurd h (no i), fun i _ _ _ _ h => absurd h (no i), fun i _ _ _ h => absurd h (no i), fun _ _ _ _ _ _ => rfl⟩
theorem wp_region_grow {id : Nat} {ops : Array Oper} {a0 : Act} {w : World} (its : List Item) (hm : P.follows .mixedOrders = true) (sh : shape ops its a0.tmps.size = true) (hnd : (olds its).Nodup)
    (hold : ∀ (j b : Nat) (T : TypeId) (cs : Array Value), its[j]? = some (.old b T cs) → ∃ cs0, w.drew.heap[b]? = some (.cells cs0 T (0, 0)) ∧ cs0.size = cs.size)
    (hput : ∀ (i k : Nat) (cs : Array Value) (T : TypeId) (z : Array Value), its[i]? = some (.put k cs) → its[k]? = some (.new T z) → cs.size = z.size)
    (hstep : ∀ (i : Nat) (o : Oper) (it : Item), ops[i]? = some o → its[i]? = some it → StepOk P Q ops its a0 w.drew i o it)
    (hend : ∀ β w', Fin ops its w.drew β w' → Q .normal (finAct ops its β ops.size a0) w') : (Code.region id ops true).wp P Q a0 w :=
  wp_region_any hm (wpAny_inv (Shape.of sh hnd) hold hput hstep hend _ (fun _ => 0) _ _ _ inv_start (by simp [left]))
def noOlds (its : List Item) : Bool := its.all fun | .old _ _ _ => false | _ => true
theorem noOlds_spec (h : noOlds its = true) : ∀ (j b : Nat) (T : TypeId) (cs : Array Value), its[j]? ≠ some (.old b T cs) := fun j b T cs hj => by
  unfold noOlds at h
  rw [List.all_eq_true] at h
  have := h _ (List.mem_of_getElem? hj)
  cases this
theorem noOlds_isOld (hno : noOlds its = true) (i b : Nat) : isOld ops its i b = false := by
  unfold isOld
  rw [List.any_eq_false]
  intro j hj
  split
  · rename_i b' T cs h
    exact absurd h (noOlds_spec hno j b' T cs)
  · simp
theorem Kept.cells {i : Nat} (h : Kept (isOld ops its i) w0 w) (hno : noOlds its = true) : (∀ b o, b < w0.heap.size → w.cell? ⟨b, o, none⟩ = w0.cell? ⟨b, o, none⟩) ∧ (∀ b o, b < w0.heap.size → w.frozen? ⟨b, o, none⟩ = w0.frozen? ⟨b, o, none⟩) :=
  ⟨fun b o hb => World.cell?_of_block (w := w0) (h.block b hb (noOlds_isOld hno i b)), fun b o hb => World.frozen?_of_block (w := w0) (h.block b hb (noOlds_isOld hno i b))⟩
theorem cell_blk {b : Nat} {T : TypeId} {cs : Array Value} (h : w.heap[b]? = some (.cells cs T (0, 0))) (i : Nat) : w.cell? ⟨b, i, none⟩ = cs[i]? := cell_of_row w b i cs T (0, 0) h
theorem free_blk {b : Nat} {T : TypeId} {cs : Array Value} (h : w.heap[b]? = some (.cells cs T (0, 0))) (i : Nat) : w.frozen? ⟨b, i, none⟩ = false := by
  simp [World.frozen?, h]
theorem Kept.below {i : Nat} (h : Kept (isOld ops its i) w0 w) (hno : noOlds its = true) : Below w0.heap.size w0 w :=
  ⟨h.os, h.tape, h.output, h.size, fun b hb => h.block b hb (noOlds_isOld hno i b)⟩
end
end Go.Proofs.YteefjegampdpoaaDoor.R
end
section
namespace Go.Proofs.YteefjegampdpoaaDoor
open Go.ChangeShapes Go.WideShapes Go.ChangeAt Go.RowKit
def Pts (w : World) (b : Nat) (ps : List (Int × Int)) : Prop :=
  ∀ j, j < ps.length → w.cell? ⟨b, j * 2, none⟩ = some (.int .i64 (ps.getD j (0, 0)).1) ∧ w.cell? ⟨b, j * 2 + 1, none⟩ = some (.int .i64 (ps.getD j (0, 0)).2)
theorem Pts.below {w w' : World} {b B : Nat} {ps : List (Int × Int)} (h : Pts w b ps) (hb : Below B w w') (hB : b < B) : Pts w' b ps := fun j hj => by
  obtain ⟨h1, h2⟩ := h j hj
  exact ⟨(hb.cell (p := ⟨b, j * 2, none⟩) hB).trans h1, (hb.cell (p := ⟨b, j * 2 + 1, none⟩) hB).trans h2⟩
set_option maxHeartbeats 1000000 in
theorem checkAll_any (ps : List (Int × Int)) (b c : Nat) (w : World) (hb : b < w.heap.size) (hn : ps.length ≤ 1000000) (hp : Pts w b ps) :
    Calls Tryd.prog 95 #[.slice (some ⟨b, 0, none⟩) ps.length c] w fun e w' => e = .returned (.int .i64 (M.chk ps)) ∧ Below w.heap.size w w' := by
  have HP := Lib.hid hp
  clear hp
  go_enter Tryd.func95, Tryd.ntmps95
  go_wp2
  generalize hl : ps.length = n at *
  have HL := Lib.hid hl
  clear hl
  go_loopw [7] (fun i wr => ∃ k : Nat, k ≤ n ∧ i = .int .i64 k ∧ M.okAll (ps.take k) = true ∧ Below w.heap.size w wr) (fun i _ => n - (intOf i).toNat)
  case atStart => exact ⟨0, Nat.zero_le _, rfl, rfl, Below.refl _ _⟩
  case round =>
    obtain ⟨k, hk, rfl, hok, hB⟩ := hrel
    have HO := Lib.hid hok
    clear hok
    by_cases hlt : k < n
    · obtain ⟨c1, c2⟩ := (HP.out.below hB hb) k (by have := HL.out; omega)
      have hs := M.okAll_take_succ ps k (by have := HL.out; omega)
      rw [HO.out] at hs
      have HS := Lib.hid hs
      clear hs
      have hzr := hB.size
      generalize (ps.getD k (0, 0)).1 = x at *
      generalize (ps.getD k (0, 0)).2 = y at *
      have fin2 : M.okAll (ps.take (k + 1)) = false → Ending.returned (.int .i64 2) = Ending.returned (.int .i64 (M.chk ps)) := fun h => by
        unfold M.chk
        rw [M.okAll_of_take ps (k + 1) h]
        rfl
      have FIN := Lib.hid fin2
      clear fin2
      cases hx : M.fits x
      · go_wp2_with (go_at_call 124; refine (fits_any _ _).mono ?_; rintro e w' ⟨rfl, rfl⟩)
        go_returns
        exact ⟨FIN.out (by rw [HS.out, hx]; rfl), by go_grown⟩
      · cases hy : M.fits y
        · go_wp2_with (go_at_call 124; refine (fits_any _ _).mono ?_; rintro e w' ⟨rfl, rfl⟩)
          go_returns
          exact ⟨FIN.out (by rw [HS.out, hx, hy]; rfl), by go_grown⟩
        · go_wp2_with (go_at_call 124; refine (fits_any _ _).mono ?_; rintro e w' ⟨rfl, rfl⟩)
          exact ⟨⟨k + 1, by omega, by go_num, by rw [HS.out, hx, hy]; rfl, by go_grown⟩, by simp [intOf]; omega⟩
    · go_wp2
      go_returns
      refine ⟨?_, hB⟩
      have e : k = ps.length := by have := HL.out; omega
      have h := HO.out
      rw [e, List.take_length] at h
      unfold M.chk
      rw [h]
      rfl
theorem checkAll_one (x y : Int) (b c : Nat) (w : World) (hb : b < w.heap.size) (h0 : w.cell? ⟨b, 0, none⟩ = some (.int .i64 x)) (h1 : w.cell? ⟨b, 1, none⟩ = some (.int .i64 y)) :
    Calls Tryd.prog 95 #[.slice (some ⟨b, 0, none⟩) 1 c] w fun e w' => e = .returned (.int .i64 (M.chk [(x, y)])) ∧ Below w.heap.size w w' :=
  checkAll_any [(x, y)] b c w hb (by simp) (fun j hj => by
    obtain rfl : j = 0 := by simpa using hj
    exact ⟨h0, h1⟩)
theorem checkAll_two (x y u v : Int) (b c : Nat) (w : World) (hb : b < w.heap.size) (h0 : w.cell? ⟨b, 0, none⟩ = some (.int .i64 x)) (h1 : w.cell? ⟨b, 1, none⟩ = some (.int .i64 y)) (h2 : w.cell? ⟨b, 2, none⟩ = some (.int .i64 u)) (h3 : w.cell? ⟨b, 3, none⟩ = some (.int .i64 v)) :
    Calls Tryd.prog 95 #[.slice (some ⟨b, 0, none⟩) 2 c] w fun e w' => e = .returned (.int .i64 (M.chk [(x, y), (u, v)])) ∧ Below w.heap.size w w' :=
  checkAll_any [(x, y), (u, v)] b c w hb (by simp) (fun j hj => by
    have hj' : j < 2 := hj
    match j, hj' with
    | 0, _ => exact ⟨h0, h1⟩
    | 1, _ => exact ⟨h2, h3⟩)
theorem Check_any (x y : Int) (w : World) :
    Calls Tryd.prog 67 #[.agg #[.int .i64 x, .int .i64 y]] w fun e w' => e = .returned (.int .i64 (M.chk [(x, y)])) ∧ Below w.heap.size w w' := by
  go_enter Tryd.func67, Tryd.ntmps67
  go_wp2_with (go_at_call 95; refine (checkAll_one x y _ _ _ (by go_size) (by go_cell) (by go_cell)).mono ?_; rintro e w1 ⟨rfl, hb1⟩; obtain ⟨hB1, hz1, hc1, hf1⟩ := grow4 (w := w) (by go_grown) hb1; (try simp only [World.size_alloc, World.size_setCell, World.size_drew] at hz1); (try have hy1 := Nat.lt_of_succ_le hz1); (try have hx1 := Nat.lt_of_succ_lt hy1); (try have hw1 := Nat.lt_of_succ_lt hx1); (try have hv1 := Nat.lt_of_succ_lt hw1); (try have ha1 : w.heap.size < w1.heap.size := (by omega)); (try have hi1 : w.heap.size + 1 < w1.heap.size := (by omega)); (try have hj1 : w.heap.size + 1 + 1 < w1.heap.size := (by omega)); (try have hk1 : w.heap.size + 1 + 1 + 1 < w1.heap.size := (by omega)); (try have hl1 : w.heap.size + 1 + 1 + 1 + 1 < w1.heap.size := (by omega)))
  go_returns
  exact ⟨rfl, hB1⟩
def chkDisc (x y r : Int) : Int := if r < 1 ∨ 65536 < r then 2 else M.chk [(x, y)]
theorem CheckDisc_any (x y r : Int) (w : World) :
    Calls Tryd.prog 55 #[.agg #[.int .i64 x, .int .i64 y, .int .i64 r]] w fun e w' => e = .returned (.int .i64 (chkDisc x y r)) ∧ Below w.heap.size w w' := by
  unfold chkDisc
  by_cases h : r < 1 ∨ 65536 < r
  · rw [if_pos h]
    by_cases h1 : r < 1
    all_goals
      go_enter Tryd.func55, Tryd.ntmps55
      go_wp2_with fail
      all_goals first | (exfalso; omega) | (go_returns; exact ⟨rfl, by go_grown⟩)
  · rw [if_neg h]
    have h1 : 1 ≤ r := by omega
    have h2 : r ≤ 65536 := by omega
    clear h
    go_enter Tryd.func55, Tryd.ntmps55
    go_wp2_with (go_at_call 95; refine (checkAll_one x y _ _ _ (by go_size) (by go_cell) (by go_cell)).mono ?_; rintro e w1 ⟨rfl, hb1⟩; obtain ⟨hB1, hz1, hc1, hf1⟩ := grow4 (w := w) (by go_grown) hb1; (try simp only [World.size_alloc, World.size_setCell, World.size_drew] at hz1); (try have hy1 := Nat.lt_of_succ_le hz1); (try have hx1 := Nat.lt_of_succ_lt hy1); (try have hw1 := Nat.lt_of_succ_lt hx1); (try have hv1 := Nat.lt_of_succ_lt hw1); (try have ha1 : w.heap.size < w1.heap.size := (by omega)); (try have hi1 : w.heap.size + 1 < w1.heap.size := (by omega)); (try have hj1 : w.heap.size + 1 + 1 < w1.heap.size := (by omega)); (try have hk1 : w.heap.size + 1 + 1 + 1 < w1.heap.size := (by omega)); (try have hl1 : w.heap.size + 1 + 1 + 1 + 1 < w1.heap.size := (by omega)))
    go_returns
    exact ⟨rfl, hB1⟩
end Go.Proofs.YteefjegampdpoaaDoor
end
section
namespace Go.Proofs.YteefjegampdpoaaDoor
open Go.ChangeShapes Go.WideShapes Go.ChangeAt Go.RowKit
theorem sq_call (x y u v : Int) (w : World) (h1 : M.In x y) (h2 : M.In u v) :
    Calls Tryd.prog 57 #[.agg #[.int .i64 x, .int .i64 y], .agg #[.int .i64 u, .int .i64 v]] w fun e w' => e = .returned (.int .i64 (M.sq x y u v)) ∧ Below w.heap.size w w' := by
  unfold M.In at h1 h2
  exact square_any x y u v w (by omega) (by omega) (by omega) (by omega) (by omega) (by omega) (by omega) (by omega)
end Go.Proofs.YteefjegampdpoaaDoor
end
section
namespace Go.Proofs.YteefjegampdpoaaDoor
open Go.ChangeShapes Go.WideShapes Go.ChangeAt Go.RowKit
theorem chk2 {x y u v : Int} : (M.chk [(x, y), (u, v)] = 0 ∧ M.In x y ∧ M.In u v) ∨ (M.chk [(x, y), (u, v)] = 2 ∧ ¬ (M.In x y ∧ M.In u v)) := by
  rcases M.chk_cases [(x, y), (u, v)] with ⟨h, k⟩ | ⟨h, p, hp, hn⟩
  · exact .inl ⟨h, k (x, y) (by simp), k (u, v) (by simp)⟩
  · refine .inr ⟨h, fun ⟨a, b⟩ => hn ?_⟩
    simp at hp
    rcases hp with rfl | rfl
    · exact a
    · exact b
theorem Square_ok (x y u v : Int) (w : World) (h1 : M.In x y) (h2 : M.In u v) :
    Calls Tryd.prog 136 #[.agg #[.int .i64 x, .int .i64 y], .agg #[.int .i64 u, .int .i64 v]] w fun e w' => e = .returned (.tuple #[.int .i64 (M.sq x y u v), .int .i64 0]) ∧ Below w.heap.size w w' := by
  rcases chk2 (x := x) (y := y) (u := u) (v := v) with ⟨hc, _⟩ | ⟨_, hn⟩
  · have H1 := Lib.hid h1
    have H2 := Lib.hid h2
    clear h1 h2
    go_enter Tryd.func136, Tryd.ntmps136
    go_wp2_with (first | (go_at_call 95; refine (checkAll_two x y u v _ _ _ (by go_size) (by go_cell) (by go_cell) (by go_cell) (by go_cell)).mono ?_; rintro e w1 ⟨rfl, hb1⟩; obtain ⟨hB1, hz1, hc1, hf1⟩ := grow4 (w := w) (by go_grown) hb1; (try simp only [World.size_alloc, World.size_setCell, World.size_drew] at hz1); (try have hy1 := Nat.lt_of_succ_le hz1); (try have hx1 := Nat.lt_of_succ_lt hy1); (try have hw1 := Nat.lt_of_succ_lt hx1); (try have hv1 := Nat.lt_of_succ_lt hw1); (try have ha1 : w.heap.size < w1.heap.size := (by omega)); (try have hi1 : w.heap.size + 1 < w1.heap.size := (by omega)); (try have hj1 : w.heap.size + 1 + 1 < w1.heap.size := (by omega)); (try have hk1 : w.heap.size + 1 + 1 + 1 < w1.heap.size := (by omega)); (try have hl1 : w.heap.size + 1 + 1 + 1 + 1 < w1.heap.size := (by omega))) | (go_at_call 57; refine (sq_call x y u v _ H1.out H2.out).mono ?_; rintro e w2 ⟨rfl, hb2⟩; obtain ⟨hB2, hz2, hc2, hf2⟩ := grow4 (w := w) (by go_grown) hb2; (try simp only [World.size_alloc, World.size_setCell, World.size_drew] at hz2); (try have hy2 := Nat.lt_of_succ_le hz2); (try have hx2 := Nat.lt_of_succ_lt hy2); (try have hw2 := Nat.lt_of_succ_lt hx2); (try have hv2 := Nat.lt_of_succ_lt hw2); (try have ha2 : w.heap.size < w2.heap.size := (by omega)); (try have hi2 : w.heap.size + 1 < w2.heap.size := (by omega)); (try have hj2 : w.heap.size + 1 + 1 < w2.heap.size := (by omega)); (try have hk2 : w.heap.size + 1 + 1 + 1 < w2.heap.size := (by omega)); (try have hl2 : w.heap.size + 1 + 1 + 1 + 1 < w2.heap.size := (by omega))))
    go_returns
    exact ⟨rfl, hB2⟩
  · exact absurd ⟨h1, h2⟩ hn
theorem chkDisc_in {x y r : Int} (h : chkDisc x y r = 0) : M.In x y ∧ 1 ≤ r ∧ r ≤ 65536 := by
  unfold chkDisc at h
  split at h
  · omega
  · rcases M.chk_cases [(x, y)] with ⟨_, k⟩ | ⟨k, _⟩
    · exact ⟨k (x, y) (by simp), by omega, by omega⟩
    · omega
end Go.Proofs.YteefjegampdpoaaDoor
end
section
namespace Go.Proofs.YteefjegampdpoaaDoor
open Go.ChangeShapes Go.WideShapes Go.ChangeAt Go.RowKit
structure Tab (w : World) : Prop where
  size : 0 < w.heap.size
  c0 : w.cell? ⟨0, 0, none⟩ = some (.int .i64 4096)
  c1 : w.cell? ⟨0, 1, none⟩ = some (.int .i64 0)
  c2 : w.cell? ⟨0, 2, none⟩ = some (.int .i64 3784)
  c3 : w.cell? ⟨0, 3, none⟩ = some (.int .i64 1567)
  c4 : w.cell? ⟨0, 4, none⟩ = some (.int .i64 2896)
  c5 : w.cell? ⟨0, 5, none⟩ = some (.int .i64 2896)
  c6 : w.cell? ⟨0, 6, none⟩ = some (.int .i64 1567)
  c7 : w.cell? ⟨0, 7, none⟩ = some (.int .i64 3784)
theorem Tab.below {B : Nat} {w w' : World} (h : Tab w) (hb : Below B w w') (hB : 0 < B) : Tab w' :=
  ⟨Nat.lt_of_lt_of_le h.size hb.size, (hb.cell (p := ⟨0, 0, none⟩) hB).trans h.c0, (hb.cell (p := ⟨0, 1, none⟩) hB).trans h.c1, (hb.cell (p := ⟨0, 2, none⟩) hB).trans h.c2, (hb.cell (p := ⟨0, 3, none⟩) hB).trans h.c3,
    (hb.cell (p := ⟨0, 4, none⟩) hB).trans h.c4, (hb.cell (p := ⟨0, 5, none⟩) hB).trans h.c5, (hb.cell (p := ⟨0, 6, none⟩) hB).trans h.c6, (hb.cell (p := ⟨0, 7, none⟩) hB).trans h.c7⟩
def pairs : List (Int × Int) := [(4096, 0), (3784, 1567), (2896, 2896), (1567, 3784), (0, 4096), (-1567, 3784), (-2896, 2896), (-3784, 1567), (-4096, 0), (-3784, -1567), (-2896, -2896), (-1567, -3784), (0, -4096), (1567, -3784), (2896, -2896), (3784, -1567)]
def pc (k : Nat) : Int := (pairs.getD k (0, 0)).1
def ps (k : Nat) : Int := (pairs.getD k (0, 0)).2
end Go.Proofs.YteefjegampdpoaaDoor
end
section
namespace Go.Proofs.YteefjegampdpoaaDoor
open Go.ChangeShapes Go.WideShapes Go.ChangeAt Go.RowKit
def rpt (x y r : Int) (k : Nat) : Int × Int := (x + (r * pc k).tdiv 4096, y + (r * ps k).tdiv 4096)
def Row (w : World) (g : Nat) (x y r : Int) (k : Nat) : Prop :=
  ∃ cs : Array Value, w.heap[g]? = some (.cells cs 24 (0, 0)) ∧ cs.size = 32 ∧ ∀ j, j < k → cs[j * 2]? = some (.int .i64 (rpt x y r j).1) ∧ cs[j * 2 + 1]? = some (.int .i64 (rpt x y r j).2)
theorem Row.below {w w' : World} {g k B : Nat} {x y r : Int} (h : Row w g x y r k) (hb : Below B w w') (hg : g < B) : Row w' g x y r k := by
  obtain ⟨cs, h1, h2, h3⟩ := h
  exact ⟨cs, (hb.block g hg).trans h1, h2, h3⟩
theorem Row.cells {w : World} {g k : Nat} {x y r : Int} (h : Row w g x y r k) (i : Nat) (hi : i < 32) : (∃ v, w.cell? ⟨g, i, none⟩ = some v) ∧ w.frozen? ⟨g, i, none⟩ = false := by
  obtain ⟨cs, h1, h2, h3⟩ := h
  exact ⟨⟨cs[i], by rw [R.cell_blk h1 i]; exact Array.getElem?_eq_getElem (by omega)⟩, R.free_blk h1 i⟩
theorem Row.store {w : World} {g k : Nat} {x y r : Int} (h : Row w g x y r k) (hk : k < 16) :
    Row ((w.setCell ⟨g, k * 2, none⟩ (.int .i64 (rpt x y r k).1)).setCell ⟨g, k * 2 + 1, none⟩ (.int .i64 (rpt x y r k).2)) g x y r (k + 1) := by
  obtain ⟨cs, h1, h2, h3⟩ := h
  refine ⟨(cs.setIfInBounds (k * 2) (.int .i64 (rpt x y r k).1)).setIfInBounds (k * 2 + 1) (.int .i64 (rpt x y r k).2), ?_, by simp [h2], fun j hj => ?_⟩
  · simp [World.setCell, Array.getElem?_modify, h1]
  · rcases Nat.decEq j k with hne | rfl
    · have hlt : j < k := by omega
      rw [Array.getElem?_setIfInBounds_ne (by omega), Array.getElem?_setIfInBounds_ne (by omega), Array.getElem?_setIfInBounds_ne (by omega), Array.getElem?_setIfInBounds_ne (by omega)]
      exact h3 j hlt
    · have hk1 : j * 2 < cs.size := by omega
      have hk2 : j * 2 + 1 < cs.size := by omega
      constructor
      · rw [Array.getElem?_setIfInBounds_ne (by omega)]
        simp [hk1]
      · simp [hk2]
end Go.Proofs.YteefjegampdpoaaDoor
end
section
namespace Go.Proofs.YteefjegampdpoaaDoor
open Go.ChangeShapes Go.WideShapes Go.ChangeAt Go.RowKit
set_option maxHeartbeats 1000000 in
theorem Touch_ok (x y r u v s : Int) (w : World) (h1 : chkDisc x y r = 0) (h2 : chkDisc u v s = 0) :
    Calls Tryd.prog 17 #[.agg #[.int .i64 x, .int .i64 y, .int .i64 r], .agg #[.int .i64 u, .int .i64 v, .int .i64 s]] w fun e w' => e = .returned (.tuple #[.int .i64 (M.cmp (M.sq x y u v) ((r + s) * (r + s))), .int .i64 0]) ∧ Below w.heap.size w w' := by
  obtain ⟨k1, r1, r2⟩ := chkDisc_in h1
  obtain ⟨k2, s1, s2⟩ := chkDisc_in h2
  obtain ⟨m1, m2⟩ := M.mul_range (r + s) (r + s) 131072 131072 (by omega) (by omega) (by omega) (by omega)
  have K1 := Lib.hid k1
  have K2 := Lib.hid k2
  clear k1 k2
  have i0 : ∀ w, (Instr.index 151 (.agg #[.int .i64 x, .int .i64 y, .int .i64 r, .int .i64 u, .int .i64 v, .int .i64 s]) (.int .i64 0)).run Tryd.prog w = .ok (.agg #[.int .i64 x, .int .i64 y, .int .i64 r]) w := fun _ => by kernel_rfl
  have i1 : ∀ w, (Instr.index 151 (.agg #[.int .i64 x, .int .i64 y, .int .i64 r, .int .i64 u, .int .i64 v, .int .i64 s]) (.int .i64 1)).run Tryd.prog w = .ok (.agg #[.int .i64 u, .int .i64 v, .int .i64 s]) w := fun _ => by kernel_rfl
  go_enter Tryd.func17, Tryd.ntmps17
  go_wp2
  refine wp_loop_rounds 3 ?_
  rw [rounds_succ]
  go_wp2_with (go_at_call 55; refine (CheckDisc_any _ _ _ _).mono ?_; rintro e w1 ⟨rfl, hb1⟩; obtain ⟨hB1, hz1, hc1, hf1⟩ := grow4 (w := w) (by go_grown) hb1; (try simp only [World.size_alloc, World.size_setCell, World.size_drew] at hz1); (try have hy1 := Nat.lt_of_succ_le hz1); (try have hx1 := Nat.lt_of_succ_lt hy1); (try have hw1 := Nat.lt_of_succ_lt hx1); (try have hv1 := Nat.lt_of_succ_lt hw1); (try have ha1 : w.heap.size < w1.heap.size := (by omega)); (try have hi1 : w.heap.size + 1 < w1.heap.size := (by omega)); (try have hj1 : w.heap.size + 1 + 1 < w1.heap.size := (by omega)); (try have hk1 : w.heap.size + 1 + 1 + 1 < w1.heap.size := (by omega)); (try have hl1 : w.heap.size + 1 + 1 + 1 + 1 < w1.heap.size := (by omega)))
  rw [rounds_succ]
  go_wp2_with (go_at_call 55; refine (CheckDisc_any _ _ _ _).mono ?_; rintro e w2 ⟨rfl, hb2⟩; obtain ⟨hB2, hz2, hc2, hf2⟩ := grow4 (w := w) (by go_grown) hb2; (try simp only [World.size_alloc, World.size_setCell, World.size_drew] at hz2); (try have hy2 := Nat.lt_of_succ_le hz2); (try have hx2 := Nat.lt_of_succ_lt hy2); (try have hw2 := Nat.lt_of_succ_lt hx2); (try have hv2 := Nat.lt_of_succ_lt hw2); (try have ha2 : w.heap.size < w2.heap.size := (by omega)); (try have hi2 : w.heap.size + 1 < w2.heap.size := (by omega)); (try have hj2 : w.heap.size + 1 + 1 < w2.heap.size := (by omega)); (try have hk2 : w.heap.size + 1 + 1 + 1 < w2.heap.size := (by omega)); (try have hl2 : w.heap.size + 1 + 1 + 1 + 1 < w2.heap.size := (by omega)))
  rw [rounds_succ]
  go_wp2_with (first | (go_at_call 57; refine (sq_call x y u v _ K1.out K2.out).mono ?_; rintro e w3 ⟨rfl, hb3⟩; obtain ⟨hB3, hz3, hc3, hf3⟩ := grow4 (w := w) (by go_grown) hb3; (try simp only [World.size_alloc, World.size_setCell, World.size_drew] at hz3); (try have hy3 := Nat.lt_of_succ_le hz3); (try have hx3 := Nat.lt_of_succ_lt hy3); (try have hw3 := Nat.lt_of_succ_lt hx3); (try have hv3 := Nat.lt_of_succ_lt hw3); (try have ha3 : w.heap.size < w3.heap.size := (by omega)); (try have hi3 : w.heap.size + 1 < w3.heap.size := (by omega)); (try have hj3 : w.heap.size + 1 + 1 < w3.heap.size := (by omega)); (try have hk3 : w.heap.size + 1 + 1 + 1 < w3.heap.size := (by omega)); (try have hl3 : w.heap.size + 1 + 1 + 1 + 1 < w3.heap.size := (by omega))) | (go_at_call 56; refine (cmp64 _ _ _).mono ?_; rintro e w' ⟨rfl, rfl⟩))
  go_returns
  exact ⟨rfl, hB3⟩
end Go.Proofs.YteefjegampdpoaaDoor
end
section
namespace Go.Proofs.YteefjegampdpoaaDoor
open Go Go.RowKit Go.Proofs.YteefjegampdpoaaDoor.E
theorem chk_place (x y : Int) : M.chk [(x, y)] = M.err (M.placeB x y) := by
  unfold M.chk M.okAll M.err M.placeB M.btw
  simp only [List.all_cons, List.all_nil, Bool.and_true, M.fits, Bool.decide_and]
theorem turfCheckC (x y : Int) : Ret cfg 67 [.raw (.agg #[.int .i64 x, .int .i64 y])] (.raw (.int .i64 (M.err (M.placeB x y)))) := by
  rw [← chk_place]
  exact fn_of_calls (args := [.agg #[.int .i64 x, .int .i64 y]]) fun w => Check_any x y w
theorem between_1 (n l h : Int) (f0 : l ≤ n) : Ret cfg 80 [.raw (.int .i64 n), .raw (.int .i64 l), .raw (.int .i64 h)] (V.raw (.bool (decide (n ≤ h)))) := by
  exact fn_of cfg_mixed cfg_call cfg_base.1 cfg_base.2.1 cfg_base.2.2 (n := 40) (ans := [Ans.go, Ans.br true, Ans.br true]) (cons := [(decide (l ≤ n) = true), (true = true)]) (by kernel_rfl) rfl rfl
    ⟨(by first | assumption | omega | (simp_all; done) | (simp_all; omega)), rfl, trivial⟩
theorem between_2 (n l h : Int) (f0 : ¬l ≤ n) : Ret cfg 80 [.raw (.int .i64 n), .raw (.int .i64 l), .raw (.int .i64 h)] (V.raw (.bool false)) := by
  exact fn_of cfg_mixed cfg_call cfg_base.1 cfg_base.2.1 cfg_base.2.2 (n := 40) (ans := [Ans.go, Ans.br false, Ans.br false]) (cons := [(decide (l ≤ n) = false), (false = false)]) (by kernel_rfl) rfl rfl
    ⟨(by first | assumption | omega | (simp_all; done) | (simp_all; omega)), rfl, trivial⟩
theorem between (n l h : Int) : Ret cfg 80 [.raw (.int .i64 n), .raw (.int .i64 l), .raw (.int .i64 h)] (.raw (.bool (M.btw n l h))) := by
  by_cases f0 : l ≤ n
  ·
    have e : (.raw (.bool (M.btw n l h)) : V) = V.raw (.bool (decide (n ≤ h))) := by (simp [M.btw]; omega)
    rw [e]
    exact between_1 n l h f0
  ·
    have e : (.raw (.bool (M.btw n l h)) : V) = V.raw (.bool false) := by (simp [M.btw]; omega)
    rw [e]
    exact between_2 n l h f0
end Go.Proofs.YteefjegampdpoaaDoor
end
section
namespace Go.Proofs.YteefjegampdpoaaDoor
open Go Go.RowKit Go.Proofs.YteefjegampdpoaaDoor.E
theorem checkBall_1 (m r : Int) (f0 : M.btw m 400 500 = false) : Ret cfg 115 [.raw (.agg #[.int .i64 m, .int .i64 r])] (V.raw (.int .i64 2)) := by
  exact fn_of cfg_mixed cfg_call cfg_base.1 cfg_base.2.1 cfg_base.2.2 (n := 40) (ans := [Ans.go, Ans.ret (V.raw (.bool (M.btw m 400 500))), Ans.br true, Ans.br true, Ans.br true]) (cons := [(Ret cfg 80 [V.raw (.int .i64 m), V.raw (.int .i64 400), V.raw (.int .i64 500)] (V.raw (.bool (M.btw m 400 500)))), ((!M.btw m 400 500) = true), (true = true), (true = true)]) (by kernel_rfl) rfl rfl
    ⟨(between _ _ _), (by first | assumption | omega | (simp_all; done) | (simp_all; omega)), rfl, rfl, trivial⟩
theorem checkBall_2 (m r : Int) (f0 : M.btw m 400 500 = true) (f1 : M.btw r 1000 4096 = false) : Ret cfg 115 [.raw (.agg #[.int .i64 m, .int .i64 r])] (V.raw (.int .i64 2)) := by
  exact fn_of cfg_mixed cfg_call cfg_base.1 cfg_base.2.1 cfg_base.2.2 (n := 40) (ans := [Ans.go, Ans.ret (V.raw (.bool (M.btw m 400 500))), Ans.br false, Ans.ret (V.raw (.bool (M.btw r 1000 4096))), Ans.br false, Ans.br true]) (cons := [(Ret cfg 80 [V.raw (.int .i64 m), V.raw (.int .i64 400), V.raw (.int .i64 500)] (V.raw (.bool (M.btw m 400 500)))), ((!M.btw m 400 500) = false), (Ret cfg 80 [V.raw (.int .i64 r), V.raw (.int .i64 1000), V.raw (.int .i64 4096)] (V.raw (.bool (M.btw r 1000 4096)))), (false = false), ((!M.btw r 1000 4096) = true)]) (by kernel_rfl) rfl rfl
    ⟨(between _ _ _), (by first | assumption | omega | (simp_all; done) | (simp_all; omega)), (between _ _ _), rfl, (by first | assumption | omega | (simp_all; done) | (simp_all; omega)), trivial⟩
theorem checkBall_3 (m r : Int) (f0 : M.btw m 400 500 = true) (f1 : M.btw r 1000 4096 = true) : Ret cfg 115 [.raw (.agg #[.int .i64 m, .int .i64 r])] (V.raw (.int .i64 0)) := by
  exact fn_of cfg_mixed cfg_call cfg_base.1 cfg_base.2.1 cfg_base.2.2 (n := 40) (ans := [Ans.go, Ans.ret (V.raw (.bool (M.btw m 400 500))), Ans.br false, Ans.ret (V.raw (.bool (M.btw r 1000 4096))), Ans.br false, Ans.br false]) (cons := [(Ret cfg 80 [V.raw (.int .i64 m), V.raw (.int .i64 400), V.raw (.int .i64 500)] (V.raw (.bool (M.btw m 400 500)))), ((!M.btw m 400 500) = false), (Ret cfg 80 [V.raw (.int .i64 r), V.raw (.int .i64 1000), V.raw (.int .i64 4096)] (V.raw (.bool (M.btw r 1000 4096)))), (false = false), ((!M.btw r 1000 4096) = false)]) (by kernel_rfl) rfl rfl
    ⟨(between _ _ _), (by first | assumption | omega | (simp_all; done) | (simp_all; omega)), (between _ _ _), rfl, (by first | assumption | omega | (simp_all; done) | (simp_all; omega)), trivial⟩
theorem checkBall (m r : Int) : Ret cfg 115 [.raw (.agg #[.int .i64 m, .int .i64 r])] (.raw (.int .i64 (M.err (M.ballB m r)))) := by
  by_cases f0 : M.btw m 400 500 = false
  ·
    have e : (.raw (.int .i64 (M.err (M.ballB m r))) : V) = V.raw (.int .i64 2) := by (simp_all [M.ballB])
    rw [e]
    exact checkBall_1 m r f0
  ·
    replace f0 : M.btw m 400 500 = true := by simpa using f0
    by_cases f1 : M.btw r 1000 4096 = false
    ·
      have e : (.raw (.int .i64 (M.err (M.ballB m r))) : V) = V.raw (.int .i64 2) := by (simp_all [M.ballB])
      rw [e]
      exact checkBall_2 m r f0 f1
    ·
      replace f1 : M.btw r 1000 4096 = true := by simpa using f1
      have e : (.raw (.int .i64 (M.err (M.ballB m r))) : V) = V.raw (.int .i64 0) := by (simp_all [M.ballB])
      rw [e]
      exact checkBall_3 m r f0 f1
theorem isMomentum_1 (m r : Int) (f0 : M.btw m (-16777216 : Int) 16777216 = true) : Ret cfg 85 [.raw (.agg #[.int .i64 m, .int .i64 r])] (V.raw (.bool (M.btw r (-16777216 : Int) 16777216))) := by
  exact fn_of cfg_mixed cfg_call cfg_base.1 cfg_base.2.1 cfg_base.2.2 (n := 40) (ans := [Ans.go, Ans.ret (V.raw (.bool (M.btw m (-16777216 : Int) 16777216))), Ans.br true, Ans.ret (V.raw (.bool (M.btw r (-16777216 : Int) 16777216))), Ans.br true]) (cons := [(Ret cfg 80 [V.raw (.int .i64 m), V.raw (.int .i64 (-16777216)), V.raw (.int .i64 16777216)] (V.raw (.bool (M.btw m (-16777216 : Int) 16777216)))), (M.btw m (-16777216 : Int) 16777216 = true), (Ret cfg 80 [V.raw (.int .i64 r), V.raw (.int .i64 (-16777216)), V.raw (.int .i64 16777216)] (V.raw (.bool (M.btw r (-16777216 : Int) 16777216)))), (true = true)]) (by kernel_rfl) rfl rfl
    ⟨(between _ _ _), (by first | assumption | omega | (simp_all; done) | (simp_all; omega)), (between _ _ _), rfl, trivial⟩
theorem isMomentum_2 (m r : Int) (f0 : M.btw m (-16777216 : Int) 16777216 = false) : Ret cfg 85 [.raw (.agg #[.int .i64 m, .int .i64 r])] (V.raw (.bool false)) := by
  exact fn_of cfg_mixed cfg_call cfg_base.1 cfg_base.2.1 cfg_base.2.2 (n := 40) (ans := [Ans.go, Ans.ret (V.raw (.bool (M.btw m (-16777216 : Int) 16777216))), Ans.br false, Ans.br false]) (cons := [(Ret cfg 80 [V.raw (.int .i64 m), V.raw (.int .i64 (-16777216)), V.raw (.int .i64 16777216)] (V.raw (.bool (M.btw m (-16777216 : Int) 16777216)))), (M.btw m (-16777216 : Int) 16777216 = false), (false = false)]) (by kernel_rfl) rfl rfl
    ⟨(between _ _ _), (by first | assumption | omega | (simp_all; done) | (simp_all; omega)), rfl, trivial⟩
theorem isMomentum (m r : Int) : Ret cfg 85 [.raw (.agg #[.int .i64 m, .int .i64 r])] (.raw (.bool (M.momB m r))) := by
  by_cases f0 : M.btw m (-16777216 : Int) 16777216 = true
  ·
    have e : (.raw (.bool (M.momB m r)) : V) = V.raw (.bool (M.btw r (-16777216 : Int) 16777216)) := by (simp_all [M.momB])
    rw [e]
    exact isMomentum_1 m r f0
  ·
    replace f0 : M.btw m (-16777216 : Int) 16777216 = false := by simpa using f0
    have e : (.raw (.bool (M.momB m r)) : V) = V.raw (.bool false) := by (simp_all [M.momB])
    rw [e]
    exact isMomentum_2 m r f0
theorem isRest_1 (x y m : Int) (h1 : 400 ≤ m) (h2 : m ≤ 500) (f0 : M.btw x (-(64 * m).tdiv 2) ((64 * m).tdiv 2 - 1) = true) : Ret cfg 116 [.raw (.agg #[.int .i64 x, .int .i64 y]), .raw (.int .i64 m)] (V.raw (.bool (M.btw y (-(64 * m).tdiv 2) ((64 * m).tdiv 2 - 1)))) := by
  have e : (64 * m).tdiv 2 = 32 * m := by rw [Int.tdiv_eq_ediv_of_nonneg (by omega)]; omega
  exact fn_of cfg_mixed cfg_call cfg_base.1 cfg_base.2.1 cfg_base.2.2 (n := 40) (ans := [Ans.go, Ans.go, Ans.ret (V.raw (.bool (M.btw x (-(64 * m).tdiv 2) ((64 * m).tdiv 2 - 1)))), Ans.br true, Ans.ret (V.raw (.bool (M.btw y (-(64 * m).tdiv 2) ((64 * m).tdiv 2 - 1)))), Ans.br true]) (cons := [(inR IntKind.i64 (64 * m)), ((2 : Int) ≠ (0 : Int)), (inR IntKind.i64 ((64 * m).tdiv 2)), (inR IntKind.i64 (-(64 * m).tdiv 2)), (inR IntKind.i64 ((64 * m).tdiv 2 - 1)), (Ret cfg 80 [V.raw (.int .i64 x), V.raw (.int .i64 (-(64 * m).tdiv 2)), V.raw (.int .i64 ((64 * m).tdiv 2 - 1))] (V.raw (.bool (M.btw x (-(64 * m).tdiv 2) ((64 * m).tdiv 2 - 1))))), (M.btw x (-(64 * m).tdiv 2) ((64 * m).tdiv 2 - 1) = true), (inR IntKind.i64 (-(64 * m).tdiv 2)), (inR IntKind.i64 ((64 * m).tdiv 2 - 1)), (Ret cfg 80 [V.raw (.int .i64 y), V.raw (.int .i64 (-(64 * m).tdiv 2)), V.raw (.int .i64 ((64 * m).tdiv 2 - 1))] (V.raw (.bool (M.btw y (-(64 * m).tdiv 2) ((64 * m).tdiv 2 - 1))))), (true = true)]) (by kernel_rfl) rfl rfl
    ⟨inR_i64 (by omega) (by omega), (by first | assumption | omega | (simp_all; done) | (simp_all; omega)), inR_i64 (by omega) (by omega), inR_i64 (by omega) (by omega), inR_i64 (by omega) (by omega), (between _ _ _), (by first | assumption | omega | (simp_all; done) | (simp_all; omega)), inR_i64 (by omega) (by omega), inR_i64 (by omega) (by omega), (between _ _ _), rfl, trivial⟩
theorem isRest_2 (x y m : Int) (h1 : 400 ≤ m) (h2 : m ≤ 500) (f0 : M.btw x (-(64 * m).tdiv 2) ((64 * m).tdiv 2 - 1) = false) : Ret cfg 116 [.raw (.agg #[.int .i64 x, .int .i64 y]), .raw (.int .i64 m)] (V.raw (.bool false)) := by
  have e : (64 * m).tdiv 2 = 32 * m := by rw [Int.tdiv_eq_ediv_of_nonneg (by omega)]; omega
  exact fn_of cfg_mixed cfg_call cfg_base.1 cfg_base.2.1 cfg_base.2.2 (n := 40) (ans := [Ans.go, Ans.go, Ans.ret (V.raw (.bool (M.btw x (-(64 * m).tdiv 2) ((64 * m).tdiv 2 - 1)))), Ans.br false, Ans.br false]) (cons := [(inR IntKind.i64 (64 * m)), ((2 : Int) ≠ (0 : Int)), (inR IntKind.i64 ((64 * m).tdiv 2)), (inR IntKind.i64 (-(64 * m).tdiv 2)), (inR IntKind.i64 ((64 * m).tdiv 2 - 1)), (Ret cfg 80 [V.raw (.int .i64 x), V.raw (.int .i64 (-(64 * m).tdiv 2)), V.raw (.int .i64 ((64 * m).tdiv 2 - 1))] (V.raw (.bool (M.btw x (-(64 * m).tdiv 2) ((64 * m).tdiv 2 - 1))))), (M.btw x (-(64 * m).tdiv 2) ((64 * m).tdiv 2 - 1) = false), (false = false)]) (by kernel_rfl) rfl rfl
    ⟨inR_i64 (by omega) (by omega), (by first | assumption | omega | (simp_all; done) | (simp_all; omega)), inR_i64 (by omega) (by omega), inR_i64 (by omega) (by omega), inR_i64 (by omega) (by omega), (between _ _ _), (by first | assumption | omega | (simp_all; done) | (simp_all; omega)), rfl, trivial⟩
theorem isRest (x y m : Int) (h1 : 400 ≤ m) (h2 : m ≤ 500) : Ret cfg 116 [.raw (.agg #[.int .i64 x, .int .i64 y]), .raw (.int .i64 m)] (.raw (.bool (M.restB x y m))) := by
  have e : (64 * m).tdiv 2 = 32 * m := by rw [Int.tdiv_eq_ediv_of_nonneg (by omega)]; omega
  by_cases f0 : M.btw x (-(64 * m).tdiv 2) ((64 * m).tdiv 2 - 1) = true
  ·
    have e : (.raw (.bool (M.restB x y m)) : V) = V.raw (.bool (M.btw y (-(64 * m).tdiv 2) ((64 * m).tdiv 2 - 1))) := by (simp_all [M.restB])
    rw [e]
    exact isRest_1 x y m h1 h2 f0
  ·
    replace f0 : M.btw x (-(64 * m).tdiv 2) ((64 * m).tdiv 2 - 1) = false := by simpa using f0
    have e : (.raw (.bool (M.restB x y m)) : V) = V.raw (.bool false) := by (simp_all [M.restB])
    rw [e]
    exact isRest_2 x y m h1 h2 f0
theorem checkMotion_1 (m r a b u v p q : Int) (f0 : ¬M.err (M.ballB m r) = 0) : Ret cfg 87 [.raw (.agg #[.int .i64 m, .int .i64 r]), .raw (.agg #[.int .i64 a, .int .i64 b, .int .i64 u, .int .i64 v, .int .i64 p, .int .i64 q])] (V.raw (.int .i64 2)) := by
  exact fn_of cfg_mixed cfg_call cfg_base.1 cfg_base.2.1 cfg_base.2.2 (n := 40) (ans := [Ans.go, Ans.ret (V.raw (.int .i64 (M.err (M.ballB m r)))), Ans.br true, Ans.br true, Ans.br true, Ans.br true, Ans.br true, Ans.br true, Ans.br true]) (cons := [(Ret cfg 115 [V.raw (.agg { toList := [.int .i64 m, .int .i64 r] })] (V.raw (.int .i64 (M.err (M.ballB m r))))), ((!decide (M.err (M.ballB m r) = 0)) = true), (true = true), (true = true), (true = true), (true = true), (true = true), (true = true)]) (by kernel_rfl) rfl rfl
    ⟨(checkBall _ _), (by first | assumption | omega | (simp_all; done) | (simp_all; omega)), rfl, rfl, rfl, rfl, rfl, rfl, trivial⟩
theorem checkMotion_2 (m r a b u v p q : Int) (f0 : M.err (M.ballB m r) = 0) (f1 : ¬M.err (M.placeB a b) = 0) : Ret cfg 87 [.raw (.agg #[.int .i64 m, .int .i64 r]), .raw (.agg #[.int .i64 a, .int .i64 b, .int .i64 u, .int .i64 v, .int .i64 p, .int .i64 q])] (V.raw (.int .i64 2)) := by
  exact fn_of cfg_mixed cfg_call cfg_base.1 cfg_base.2.1 cfg_base.2.2 (n := 40) (ans := [Ans.go, Ans.ret (V.raw (.int .i64 (M.err (M.ballB m r)))), Ans.br false, Ans.ret (V.raw (.int .i64 (M.err (M.placeB a b)))), Ans.br false, Ans.br true, Ans.br true, Ans.br true, Ans.br true, Ans.br true]) (cons := [(Ret cfg 115 [V.raw (.agg { toList := [.int .i64 m, .int .i64 r] })] (V.raw (.int .i64 (M.err (M.ballB m r))))), ((!decide (M.err (M.ballB m r) = 0)) = false), (Ret cfg 67 [V.raw (.agg { toList := [.int .i64 a, .int .i64 b] })] (V.raw (.int .i64 (M.err (M.placeB a b))))), (false = false), ((!decide (M.err (M.placeB a b) = 0)) = true), (true = true), (true = true), (true = true), (true = true)]) (by kernel_rfl) rfl rfl
    ⟨(checkBall _ _), (by first | assumption | omega | (simp_all; done) | (simp_all; omega)), (turfCheckC _ _), rfl, (by first | assumption | omega | (simp_all; done) | (simp_all; omega)), rfl, rfl, rfl, rfl, trivial⟩
theorem checkMotion_3 (m r a b u v p q : Int) (f0 : M.err (M.ballB m r) = 0) (f1 : M.err (M.placeB a b) = 0) (f2 : M.momB u v = false) : Ret cfg 87 [.raw (.agg #[.int .i64 m, .int .i64 r]), .raw (.agg #[.int .i64 a, .int .i64 b, .int .i64 u, .int .i64 v, .int .i64 p, .int .i64 q])] (V.raw (.int .i64 2)) := by
  exact fn_of cfg_mixed cfg_call cfg_base.1 cfg_base.2.1 cfg_base.2.2 (n := 40) (ans := [Ans.go, Ans.ret (V.raw (.int .i64 (M.err (M.ballB m r)))), Ans.br false, Ans.ret (V.raw (.int .i64 (M.err (M.placeB a b)))), Ans.br false, Ans.br false, Ans.ret (V.raw (.bool (M.momB u v))), Ans.br false, Ans.br true, Ans.br true, Ans.br true]) (cons := [(Ret cfg 115 [V.raw (.agg { toList := [.int .i64 m, .int .i64 r] })] (V.raw (.int .i64 (M.err (M.ballB m r))))), ((!decide (M.err (M.ballB m r) = 0)) = false), (Ret cfg 67 [V.raw (.agg { toList := [.int .i64 a, .int .i64 b] })] (V.raw (.int .i64 (M.err (M.placeB a b))))), (false = false), ((!decide (M.err (M.placeB a b) = 0)) = false), (Ret cfg 85 [V.raw (.agg { toList := [.int .i64 u, .int .i64 v] })] (V.raw (.bool (M.momB u v)))), (false = false), ((!M.momB u v) = true), (true = true), (true = true)]) (by kernel_rfl) rfl rfl
    ⟨(checkBall _ _), (by first | assumption | omega | (simp_all; done) | (simp_all; omega)), (turfCheckC _ _), rfl, (by first | assumption | omega | (simp_all; done) | (simp_all; omega)), (isMomentum _ _), rfl, (by first | assumption | omega | (simp_all; done) | (simp_all; omega)), rfl, rfl, trivial⟩
theorem checkMotion_4 (m r a b u v p q : Int) (f0 : M.err (M.ballB m r) = 0) (f1 : M.err (M.placeB a b) = 0) (f2 : M.momB u v = true) (f3 : M.restB p q m = false) : Ret cfg 87 [.raw (.agg #[.int .i64 m, .int .i64 r]), .raw (.agg #[.int .i64 a, .int .i64 b, .int .i64 u, .int .i64 v, .int .i64 p, .int .i64 q])] (V.raw (.int .i64 2)) := by
  exact fn_of cfg_mixed cfg_call cfg_base.1 cfg_base.2.1 cfg_base.2.2 (n := 40) (ans := [Ans.go, Ans.ret (V.raw (.int .i64 (M.err (M.ballB m r)))), Ans.br false, Ans.ret (V.raw (.int .i64 (M.err (M.placeB a b)))), Ans.br false, Ans.br false, Ans.ret (V.raw (.bool (M.momB u v))), Ans.br false, Ans.br false, Ans.ret (V.raw (.bool (M.restB p q m))), Ans.br false, Ans.br true]) (cons := [(Ret cfg 115 [V.raw (.agg { toList := [.int .i64 m, .int .i64 r] })] (V.raw (.int .i64 (M.err (M.ballB m r))))), ((!decide (M.err (M.ballB m r) = 0)) = false), (Ret cfg 67 [V.raw (.agg { toList := [.int .i64 a, .int .i64 b] })] (V.raw (.int .i64 (M.err (M.placeB a b))))), (false = false), ((!decide (M.err (M.placeB a b) = 0)) = false), (Ret cfg 85 [V.raw (.agg { toList := [.int .i64 u, .int .i64 v] })] (V.raw (.bool (M.momB u v)))), (false = false), ((!M.momB u v) = false), (Ret cfg 116 [V.raw (.agg { toList := [.int .i64 p, .int .i64 q] }), V.raw (.int .i64 m)] (V.raw (.bool (M.restB p q m)))), (false = false), ((!M.restB p q m) = true)]) (by kernel_rfl) rfl rfl
    ⟨(checkBall _ _), (by first | assumption | omega | (simp_all; done) | (simp_all; omega)), (turfCheckC _ _), rfl, (by first | assumption | omega | (simp_all; done) | (simp_all; omega)), (isMomentum _ _), rfl, (by first | assumption | omega | (simp_all; done) | (simp_all; omega)), (isRest _ _ _ (M.ballB_lo f0) (M.ballB_hi f0)), rfl, (by first | assumption | omega | (simp_all; done) | (simp_all; omega)), trivial⟩
theorem checkMotion_5 (m r a b u v p q : Int) (f0 : M.err (M.ballB m r) = 0) (f1 : M.err (M.placeB a b) = 0) (f2 : M.momB u v = true) (f3 : M.restB p q m = true) : Ret cfg 87 [.raw (.agg #[.int .i64 m, .int .i64 r]), .raw (.agg #[.int .i64 a, .int .i64 b, .int .i64 u, .int .i64 v, .int .i64 p, .int .i64 q])] (V.raw (.int .i64 0)) := by
  exact fn_of cfg_mixed cfg_call cfg_base.1 cfg_base.2.1 cfg_base.2.2 (n := 40) (ans := [Ans.go, Ans.ret (V.raw (.int .i64 (M.err (M.ballB m r)))), Ans.br false, Ans.ret (V.raw (.int .i64 (M.err (M.placeB a b)))), Ans.br false, Ans.br false, Ans.ret (V.raw (.bool (M.momB u v))), Ans.br false, Ans.br false, Ans.ret (V.raw (.bool (M.restB p q m))), Ans.br false, Ans.br false]) (cons := [(Ret cfg 115 [V.raw (.agg { toList := [.int .i64 m, .int .i64 r] })] (V.raw (.int .i64 (M.err (M.ballB m r))))), ((!decide (M.err (M.ballB m r) = 0)) = false), (Ret cfg 67 [V.raw (.agg { toList := [.int .i64 a, .int .i64 b] })] (V.raw (.int .i64 (M.err (M.placeB a b))))), (false = false), ((!decide (M.err (M.placeB a b) = 0)) = false), (Ret cfg 85 [V.raw (.agg { toList := [.int .i64 u, .int .i64 v] })] (V.raw (.bool (M.momB u v)))), (false = false), ((!M.momB u v) = false), (Ret cfg 116 [V.raw (.agg { toList := [.int .i64 p, .int .i64 q] }), V.raw (.int .i64 m)] (V.raw (.bool (M.restB p q m)))), (false = false), ((!M.restB p q m) = false)]) (by kernel_rfl) rfl rfl
    ⟨(checkBall _ _), (by first | assumption | omega | (simp_all; done) | (simp_all; omega)), (turfCheckC _ _), rfl, (by first | assumption | omega | (simp_all; done) | (simp_all; omega)), (isMomentum _ _), rfl, (by first | assumption | omega | (simp_all; done) | (simp_all; omega)), (isRest _ _ _ (M.ballB_lo f0) (M.ballB_hi f0)), rfl, (by first | assumption | omega | (simp_all; done) | (simp_all; omega)), trivial⟩
theorem checkMotion (m r a b u v p q : Int) : Ret cfg 87 [.raw (.agg #[.int .i64 m, .int .i64 r]), .raw (.agg #[.int .i64 a, .int .i64 b, .int .i64 u, .int .i64 v, .int .i64 p, .int .i64 q])] (.raw (.int .i64 (M.err (M.motB m r a b u v p q)))) := by
  by_cases f0 : ¬M.err (M.ballB m r) = 0
  ·
    have e : (.raw (.int .i64 (M.err (M.motB m r a b u v p q))) : V) = V.raw (.int .i64 2) := by (simp_all [M.motB, M.err_eq])
    rw [e]
    exact checkMotion_1 m r a b u v p q f0
  ·
    replace f0 : M.err (M.ballB m r) = 0 := by simpa using f0
    by_cases f1 : ¬M.err (M.placeB a b) = 0
    ·
      have e : (.raw (.int .i64 (M.err (M.motB m r a b u v p q))) : V) = V.raw (.int .i64 2) := by (simp_all [M.motB, M.err_eq])
      rw [e]
      exact checkMotion_2 m r a b u v p q f0 f1
    ·
      replace f1 : M.err (M.placeB a b) = 0 := by simpa using f1
      by_cases f2 : M.momB u v = false
      ·
        have e : (.raw (.int .i64 (M.err (M.motB m r a b u v p q))) : V) = V.raw (.int .i64 2) := by (simp_all [M.motB, M.err_eq])
        rw [e]
        exact checkMotion_3 m r a b u v p q f0 f1 f2
      ·
        replace f2 : M.momB u v = true := by simpa using f2
        by_cases f3 : M.restB p q m = false
        ·
          have e : (.raw (.int .i64 (M.err (M.motB m r a b u v p q))) : V) = V.raw (.int .i64 2) := by (simp_all [M.motB, M.err_eq])
          rw [e]
          exact checkMotion_4 m r a b u v p q f0 f1 f2 f3
        ·
          replace f3 : M.restB p q m = true := by simpa using f3
          have e : (.raw (.int .i64 (M.err (M.motB m r a b u v p q))) : V) = V.raw (.int .i64 0) := by (simp_all [M.motB, M.err_eq])
          rw [e]
          exact checkMotion_5 m r a b u v p q f0 f1 f2 f3
theorem checkBounce_1 (m r : Int) (f0 : M.btw m 0 950 = false) : Ret cfg 45 [.raw (.agg #[.int .i64 m, .int .i64 r])] (V.raw (.int .i64 2)) := by
  exact fn_of cfg_mixed cfg_call cfg_base.1 cfg_base.2.1 cfg_base.2.2 (n := 40) (ans := [Ans.go, Ans.ret (V.raw (.bool (M.btw m 0 950))), Ans.br true, Ans.br true, Ans.br true]) (cons := [(Ret cfg 80 [V.raw (.int .i64 m), V.raw (.int .i64 0), V.raw (.int .i64 950)] (V.raw (.bool (M.btw m 0 950)))), ((!M.btw m 0 950) = true), (true = true), (true = true)]) (by kernel_rfl) rfl rfl
    ⟨(between _ _ _), (by first | assumption | omega | (simp_all; done) | (simp_all; omega)), rfl, rfl, trivial⟩
theorem checkBounce_2 (m r : Int) (f0 : M.btw m 0 950 = true) (f1 : M.btw r 0 300 = false) : Ret cfg 45 [.raw (.agg #[.int .i64 m, .int .i64 r])] (V.raw (.int .i64 2)) := by
  exact fn_of cfg_mixed cfg_call cfg_base.1 cfg_base.2.1 cfg_base.2.2 (n := 40) (ans := [Ans.go, Ans.ret (V.raw (.bool (M.btw m 0 950))), Ans.br false, Ans.ret (V.raw (.bool (M.btw r 0 300))), Ans.br false, Ans.br true]) (cons := [(Ret cfg 80 [V.raw (.int .i64 m), V.raw (.int .i64 0), V.raw (.int .i64 950)] (V.raw (.bool (M.btw m 0 950)))), ((!M.btw m 0 950) = false), (Ret cfg 80 [V.raw (.int .i64 r), V.raw (.int .i64 0), V.raw (.int .i64 300)] (V.raw (.bool (M.btw r 0 300)))), (false = false), ((!M.btw r 0 300) = true)]) (by kernel_rfl) rfl rfl
    ⟨(between _ _ _), (by first | assumption | omega | (simp_all; done) | (simp_all; omega)), (between _ _ _), rfl, (by first | assumption | omega | (simp_all; done) | (simp_all; omega)), trivial⟩
theorem checkBounce_3 (m r : Int) (f0 : M.btw m 0 950 = true) (f1 : M.btw r 0 300 = true) : Ret cfg 45 [.raw (.agg #[.int .i64 m, .int .i64 r])] (V.raw (.int .i64 0)) := by
  exact fn_of cfg_mixed cfg_call cfg_base.1 cfg_base.2.1 cfg_base.2.2 (n := 40) (ans := [Ans.go, Ans.ret (V.raw (.bool (M.btw m 0 950))), Ans.br false, Ans.ret (V.raw (.bool (M.btw r 0 300))), Ans.br false, Ans.br false]) (cons := [(Ret cfg 80 [V.raw (.int .i64 m), V.raw (.int .i64 0), V.raw (.int .i64 950)] (V.raw (.bool (M.btw m 0 950)))), ((!M.btw m 0 950) = false), (Ret cfg 80 [V.raw (.int .i64 r), V.raw (.int .i64 0), V.raw (.int .i64 300)] (V.raw (.bool (M.btw r 0 300)))), (false = false), ((!M.btw r 0 300) = false)]) (by kernel_rfl) rfl rfl
    ⟨(between _ _ _), (by first | assumption | omega | (simp_all; done) | (simp_all; omega)), (between _ _ _), rfl, (by first | assumption | omega | (simp_all; done) | (simp_all; omega)), trivial⟩
theorem checkBounce (m r : Int) : Ret cfg 45 [.raw (.agg #[.int .i64 m, .int .i64 r])] (.raw (.int .i64 (M.err (M.bncB m r)))) := by
  by_cases f0 : M.btw m 0 950 = false
  ·
    have e : (.raw (.int .i64 (M.err (M.bncB m r))) : V) = V.raw (.int .i64 2) := by (simp_all [M.bncB])
    rw [e]
    exact checkBounce_1 m r f0
  ·
    replace f0 : M.btw m 0 950 = true := by simpa using f0
    by_cases f1 : M.btw r 0 300 = false
    ·
      have e : (.raw (.int .i64 (M.err (M.bncB m r))) : V) = V.raw (.int .i64 2) := by (simp_all [M.bncB])
      rw [e]
      exact checkBounce_2 m r f0 f1
    ·
      replace f1 : M.btw r 0 300 = true := by simpa using f1
      have e : (.raw (.int .i64 (M.err (M.bncB m r))) : V) = V.raw (.int .i64 0) := by (simp_all [M.bncB])
      rw [e]
      exact checkBounce_3 m r f0 f1
end Go.Proofs.YteefjegampdpoaaDoor
end
section
namespace Go.Proofs.YteefjegampdpoaaDoor
open Go Go.RowKit Go.Proofs.YteefjegampdpoaaDoor.E2
def chk_T (zs : List Int) (n : Nat) (T : Nat) (i : Int) : List V := [.slo 0 n, uV, iV 0, uV, .any 4, .slo 0 n, iV (↑n : Int), iV i, .any 8, .any 9, .any 10, .any 11, .any 12, .any 13, .any 14, .any 15, .any 16, .any 17]
def chk_H (zs : List Int) (n : Nat) (T : Nat) (i : Int) : Heap := [some (.cells (ints zs) T .ro)]
def chk_T1 (zs : List Int) (n : Nat) (T : Nat) (i : Int) : List V := [.slo 0 n, uV, iV 2, uV, .any 4, .slo 0 n, iV (↑n : Int), iV i, .any 8, .any 9, .any 10, .any 11, .any 12, .any 13, .any 14, .any 15, .any 16, .any 17]
def chk_H1 (zs : List Int) (n : Nat) (T : Nat) (i : Int) : Heap := [some (.cells (ints zs) T .ro)]
theorem chk_1 (zs : List Int) (n : Nat) (T : Nat) (hz : 8 * n ≤ zs.length) (hn : n ≤ 8) (i : Int) (hi1 : 0 ≤ i) (f0 : i < (↑n : Int)) (f1 : ¬M.err (M.motB (at' zs (i.toNat * 8)) (at' zs (i.toNat * 8 + 1)) (at' zs (i.toNat * 8 + 2)) (at' zs (i.toNat * 8 + 3)) (at' zs (i.toNat * 8 + 4)) (at' zs (i.toNat * 8 + 5)) (at' zs (i.toNat * 8 + 6)) (at' zs (i.toNat * 8 + 7))) = 0) : Runs cfx 0 1 none (loopOf cfx.P 79 0) (chk_T zs n T i) (chk_H zs n T i) (Ex.ret) (chk_T1 zs n T i) (chk_H1 zs n T i) := by
  refine Runs.post (t1 := [.slo 0 n, uV, iV 2, uV, .ptr 1 0, .slo 0 n, iV (↑n : Int), iV i, V.raw (.bool (decide (i < (↑n : Int)))), V.ptr 0 (i.toNat * 8), (rowV zs (i.toNat * 8) 8), .ptr 1 0, (rowV zs (i.toNat * 8) 2), .ptr 1 2, (rowV zs (i.toNat * 8 + 2) 6), iV (M.err (M.motB (at' zs (i.toNat * 8)) (at' zs (i.toNat * 8 + 1)) (at' zs (i.toNat * 8 + 2)) (at' zs (i.toNat * 8 + 3)) (at' zs (i.toNat * 8 + 4)) (at' zs (i.toNat * 8 + 5)) (at' zs (i.toNat * 8 + 6)) (at' zs (i.toNat * 8 + 7)))), V.raw (.bool !decide (M.err (M.motB (at' zs (i.toNat * 8)) (at' zs (i.toNat * 8 + 1)) (at' zs (i.toNat * 8 + 2)) (at' zs (i.toNat * 8 + 3)) (at' zs (i.toNat * 8 + 4)) (at' zs (i.toNat * 8 + 5)) (at' zs (i.toNat * 8 + 6)) (at' zs (i.toNat * 8 + 7))) = 0)), .any 17]) (h1 := [some (.cells (ints zs) T .ro), some (.cells [iV (at' zs (i.toNat * 8)), iV (at' zs (i.toNat * 8 + 1)), iV (at' zs (i.toNat * 8 + 2)), iV (at' zs (i.toNat * 8 + 3)), iV (at' zs (i.toNat * 8 + 4)), iV (at' zs (i.toNat * 8 + 5)), iV (at' zs (i.toNat * 8 + 6)), iV (at' zs (i.toNat * 8 + 7))] 124 .rw)]) (body_of cfx_mixed cfx_call (Nat.zero_le _) (rnd := none) (fi := 0) (k := 0) (n := 40) (n0 := 1) (ans := [Ans.br true, Ans.val 0 ((rowV zs (i.toNat * 8) 8)), Ans.ret (iV (M.err (M.motB (at' zs (i.toNat * 8)) (at' zs (i.toNat * 8 + 1)) (at' zs (i.toNat * 8 + 2)) (at' zs (i.toNat * 8 + 3)) (at' zs (i.toNat * 8 + 4)) (at' zs (i.toNat * 8 + 5)) (at' zs (i.toNat * 8 + 6)) (at' zs (i.toNat * 8 + 7))))), Ans.br true]) (cons := [(decide (i < (↑n : Int)) = true), (0 ≤ i ∧ i < (↑n : Int)), (loadRow cfx 124 (ints zs) (i.toNat * 8) = some ((rowV zs (i.toNat * 8) 8))), (Ret cfx 87 [V.raw (.agg { toList := [.int .i64 (at' zs (i.toNat * 8)), .int .i64 (at' zs (i.toNat * 8 + 1))] }), V.raw (.agg { toList := [.int .i64 (at' zs (i.toNat * 8 + 2)), .int .i64 (at' zs (i.toNat * 8 + 3)), .int .i64 (at' zs (i.toNat * 8 + 4)), .int .i64 (at' zs (i.toNat * 8 + 5)), .int .i64 (at' zs (i.toNat * 8 + 6)), .int .i64 (at' zs (i.toNat * 8 + 7))] })] (iV (M.err (M.motB (at' zs (i.toNat * 8)) (at' zs (i.toNat * 8 + 1)) (at' zs (i.toNat * 8 + 2)) (at' zs (i.toNat * 8 + 3)) (at' zs (i.toNat * 8 + 4)) (at' zs (i.toNat * 8 + 5)) (at' zs (i.toNat * 8 + 6)) (at' zs (i.toNat * 8 + 7)))))), ((!decide (M.err (M.motB (at' zs (i.toNat * 8)) (at' zs (i.toNat * 8 + 1)) (at' zs (i.toNat * 8 + 2)) (at' zs (i.toNat * 8 + 3)) (at' zs (i.toNat * 8 + 4)) (at' zs (i.toNat * 8 + 5)) (at' zs (i.toNat * 8 + 6)) (at' zs (i.toNat * 8 + 7))) = 0)) = true)]) (by kernel_rfl)
    ⟨(by first | omega | (simp; omega) | (simp_all; omega)), (by omega), (load_agg 8 (by kernel_rfl) (by kernel_rfl) (Nat.le_of_ble_eq_true rfl) (by omega)), (up2 (checkMotion _ _ _ _ _ _ _ _)), (by first | assumption | exact flg (by first | assumption | omega) | (simp_all; done)), trivial⟩ (Nat.le_of_ble_eq_true rfl) (Nat.le_of_ble_eq_true rfl) noRnd (noRanges (by kernel_rfl))) (fun RT RH => reshape2 (lim := 0) 1 cfx_G rfl [] (by kernel_rfl) (by kernel_rfl) (by exact (ents_raw (ints_all _) rfl rfl (ents_nil))) RT RH)
theorem chk_2 (zs : List Int) (n : Nat) (T : Nat) (hz : 8 * n ≤ zs.length) (hn : n ≤ 8) (i : Int) (hi1 : 0 ≤ i) (f0 : i < (↑n : Int)) (f1 : M.err (M.motB (at' zs (i.toNat * 8)) (at' zs (i.toNat * 8 + 1)) (at' zs (i.toNat * 8 + 2)) (at' zs (i.toNat * 8 + 3)) (at' zs (i.toNat * 8 + 4)) (at' zs (i.toNat * 8 + 5)) (at' zs (i.toNat * 8 + 6)) (at' zs (i.toNat * 8 + 7))) = 0) : Runs cfx 0 1 none (loopOf cfx.P 79 0) (chk_T zs n T i) (chk_H zs n T i) (Ex.normal) (chk_T zs n T (i + 1)) (chk_H zs n T (i + 1)) := by
  refine Runs.post (t1 := [.slo 0 n, uV, iV 0, uV, .ptr 1 0, .slo 0 n, iV (↑n : Int), iV (i + 1), V.raw (.bool (decide (i < (↑n : Int)))), V.ptr 0 (i.toNat * 8), (rowV zs (i.toNat * 8) 8), .ptr 1 0, (rowV zs (i.toNat * 8) 2), .ptr 1 2, (rowV zs (i.toNat * 8 + 2) 6), iV (M.err (M.motB (at' zs (i.toNat * 8)) (at' zs (i.toNat * 8 + 1)) (at' zs (i.toNat * 8 + 2)) (at' zs (i.toNat * 8 + 3)) (at' zs (i.toNat * 8 + 4)) (at' zs (i.toNat * 8 + 5)) (at' zs (i.toNat * 8 + 6)) (at' zs (i.toNat * 8 + 7)))), V.raw (.bool !decide (M.err (M.motB (at' zs (i.toNat * 8)) (at' zs (i.toNat * 8 + 1)) (at' zs (i.toNat * 8 + 2)) (at' zs (i.toNat * 8 + 3)) (at' zs (i.toNat * 8 + 4)) (at' zs (i.toNat * 8 + 5)) (at' zs (i.toNat * 8 + 6)) (at' zs (i.toNat * 8 + 7))) = 0)), iV (i + 1)]) (h1 := [some (.cells (ints zs) T .ro), some (.cells [iV (at' zs (i.toNat * 8)), iV (at' zs (i.toNat * 8 + 1)), iV (at' zs (i.toNat * 8 + 2)), iV (at' zs (i.toNat * 8 + 3)), iV (at' zs (i.toNat * 8 + 4)), iV (at' zs (i.toNat * 8 + 5)), iV (at' zs (i.toNat * 8 + 6)), iV (at' zs (i.toNat * 8 + 7))] 124 .rw)]) (body_of cfx_mixed cfx_call (Nat.zero_le _) (rnd := none) (fi := 0) (k := 0) (n := 40) (n0 := 1) (ans := [Ans.br true, Ans.val 0 ((rowV zs (i.toNat * 8) 8)), Ans.ret (iV (M.err (M.motB (at' zs (i.toNat * 8)) (at' zs (i.toNat * 8 + 1)) (at' zs (i.toNat * 8 + 2)) (at' zs (i.toNat * 8 + 3)) (at' zs (i.toNat * 8 + 4)) (at' zs (i.toNat * 8 + 5)) (at' zs (i.toNat * 8 + 6)) (at' zs (i.toNat * 8 + 7))))), Ans.br false]) (cons := [(decide (i < (↑n : Int)) = true), (0 ≤ i ∧ i < (↑n : Int)), (loadRow cfx 124 (ints zs) (i.toNat * 8) = some ((rowV zs (i.toNat * 8) 8))), (Ret cfx 87 [V.raw (.agg { toList := [.int .i64 (at' zs (i.toNat * 8)), .int .i64 (at' zs (i.toNat * 8 + 1))] }), V.raw (.agg { toList := [.int .i64 (at' zs (i.toNat * 8 + 2)), .int .i64 (at' zs (i.toNat * 8 + 3)), .int .i64 (at' zs (i.toNat * 8 + 4)), .int .i64 (at' zs (i.toNat * 8 + 5)), .int .i64 (at' zs (i.toNat * 8 + 6)), .int .i64 (at' zs (i.toNat * 8 + 7))] })] (iV (M.err (M.motB (at' zs (i.toNat * 8)) (at' zs (i.toNat * 8 + 1)) (at' zs (i.toNat * 8 + 2)) (at' zs (i.toNat * 8 + 3)) (at' zs (i.toNat * 8 + 4)) (at' zs (i.toNat * 8 + 5)) (at' zs (i.toNat * 8 + 6)) (at' zs (i.toNat * 8 + 7)))))), ((!decide (M.err (M.motB (at' zs (i.toNat * 8)) (at' zs (i.toNat * 8 + 1)) (at' zs (i.toNat * 8 + 2)) (at' zs (i.toNat * 8 + 3)) (at' zs (i.toNat * 8 + 4)) (at' zs (i.toNat * 8 + 5)) (at' zs (i.toNat * 8 + 6)) (at' zs (i.toNat * 8 + 7))) = 0)) = false), (inR IntKind.i64 (i + 1))]) (by kernel_rfl)
    ⟨(by first | omega | (simp; omega) | (simp_all; omega)), (by omega), (load_agg 8 (by kernel_rfl) (by kernel_rfl) (Nat.le_of_ble_eq_true rfl) (by omega)), (up2 (checkMotion _ _ _ _ _ _ _ _)), (by first | assumption | exact flg (by first | assumption | omega) | (simp_all; done)), inR_i64 (by omega) (by omega), trivial⟩ (Nat.le_of_ble_eq_true rfl) (Nat.le_of_ble_eq_true rfl) noRnd (noRanges (by kernel_rfl))) (fun RT RH => reshape2 (lim := 0) 1 cfx_G rfl [] (by kernel_rfl) (by kernel_rfl) (by exact (ents_raw (ints_all _) rfl rfl (ents_nil))) RT RH)
def chk_T3 (zs : List Int) (n : Nat) (T : Nat) (i : Int) : List V := [.slo 0 n, uV, iV 0, uV, .any 4, .slo 0 n, iV (↑n : Int), iV i, .any 8, .any 9, .any 10, .any 11, .any 12, .any 13, .any 14, .any 15, .any 16, .any 17]
def chk_H3 (zs : List Int) (n : Nat) (T : Nat) (i : Int) : Heap := [some (.cells (ints zs) T .ro)]
theorem chk_3 (zs : List Int) (n : Nat) (T : Nat) (hz : 8 * n ≤ zs.length) (hn : n ≤ 8) (i : Int) (hi1 : 0 ≤ i) (f0 : ¬i < (↑n : Int)) : Runs cfx 0 1 none (loopOf cfx.P 79 0) (chk_T zs n T i) (chk_H zs n T i) (Ex.exit 0) (chk_T3 zs n T i) (chk_H3 zs n T i) := by
  refine Runs.post (t1 := [.slo 0 n, uV, iV 0, uV, .any 4, .slo 0 n, iV (↑n : Int), iV i, V.raw (.bool (decide (i < (↑n : Int)))), .any 9, .any 10, .any 11, .any 12, .any 13, .any 14, .any 15, .any 16, .any 17]) (h1 := [some (.cells (ints zs) T .ro)]) (body_of cfx_mixed cfx_call (Nat.zero_le _) (rnd := none) (fi := 0) (k := 0) (n := 40) (n0 := 1) (ans := [Ans.br false]) (cons := [(decide (i < (↑n : Int)) = false)]) (by kernel_rfl)
    ⟨(by first | omega | (simp; omega) | (simp_all; omega)), trivial⟩ (Nat.le_of_ble_eq_true rfl) (Nat.le_of_ble_eq_true rfl) noRnd (noRanges (by kernel_rfl))) (fun RT RH => reshape2 (lim := 0) 1 cfx_G rfl [] (by kernel_rfl) (by kernel_rfl) (by exact (ents_raw (ints_all _) rfl rfl (ents_nil))) RT RH)
abbrev tog_z1 (xs ys : List Int) (n : Nat) (TA TB : Nat) (i : Int) (zs : List Int) : List Int := putI zs (i.toNat * 8) [at' xs (i.toNat * 2), at' xs (i.toNat * 2 + 1), at' ys (i.toNat * 6), at' ys (i.toNat * 6 + 1), at' ys (i.toNat * 6 + 2), at' ys (i.toNat * 6 + 3), at' ys (i.toNat * 6 + 4), at' ys (i.toNat * 6 + 5)]
def tog_T (xs ys : List Int) (n : Nat) (TA TB : Nat) (i : Int) (zs : List Int) : List V := [.slo 0 n, .slo 1 n, uV, uV, V.raw (Value.slice none 0 0), iV 0, .slo 2 n, .any 7, .slo 0 n, iV (↑n : Int), V.raw (.bool (decide (8 < (↑n : Int)))), .slo 1 n, iV (↑n : Int), .slo 0 n, iV (↑n : Int), V.raw (.bool !decide ((↑n : Int) = (↑n : Int))), .slo 0 n, iV (↑n : Int), .slo 2 n, .slo 0 n, iV (↑n : Int), iV i, .any 22, .any 23, .any 24, .any 25, .any 26, .any 27, .any 28, .any 29, .any 30, .any 31, .any 32, .any 33, .any 34, .any 35, .any 36, uV, uV, uV]
def tog_H (xs ys : List Int) (n : Nat) (TA TB : Nat) (i : Int) (zs : List Int) : Heap := [some (.cells (ints xs) TA .ro), some (.cells (ints ys) TB .ro), some (.cells (ints zs) 124 (.row 8))]
theorem tog_1 (xs ys : List Int) (n : Nat) (TA TB : Nat) (hx : 2 * n ≤ xs.length) (hy : 6 * n ≤ ys.length) (hn : ¬ (8 : Int) < (n : Int)) (i : Int) (zs : List Int) (hi1 : 0 ≤ i) (hz : zs.length = n * 8) (f0 : i < (↑n : Int)) : Runs cfx 0 3 none (loopOf cfx.P 44 0) (tog_T xs ys n TA TB i zs) (tog_H xs ys n TA TB i zs) (Ex.normal) (tog_T xs ys n TA TB (i + 1) (putI zs (i.toNat * 8) [at' xs (i.toNat * 2), at' xs (i.toNat * 2 + 1), at' ys (i.toNat * 6), at' ys (i.toNat * 6 + 1), at' ys (i.toNat * 6 + 2), at' ys (i.toNat * 6 + 3), at' ys (i.toNat * 6 + 4), at' ys (i.toNat * 6 + 5)])) (tog_H xs ys n TA TB (i + 1) (putI zs (i.toNat * 8) [at' xs (i.toNat * 2), at' xs (i.toNat * 2 + 1), at' ys (i.toNat * 6), at' ys (i.toNat * 6 + 1), at' ys (i.toNat * 6 + 2), at' ys (i.toNat * 6 + 3), at' ys (i.toNat * 6 + 4), at' ys (i.toNat * 6 + 5)])) := by
  refine Runs.post (t1 := [.slo 0 n, .slo 1 n, uV, uV, V.raw (Value.slice none 0 0), iV 0, .slo 2 n, iV i, .slo 0 n, iV (↑n : Int), V.raw (.bool (decide (8 < (↑n : Int)))), .slo 1 n, iV (↑n : Int), .slo 0 n, iV (↑n : Int), V.raw (.bool !decide ((↑n : Int) = (↑n : Int))), .slo 0 n, iV (↑n : Int), .slo 2 n, .slo 0 n, iV (↑n : Int), iV (i + 1), V.raw (.bool (decide (i < (↑n : Int)))), iV i, .slo 2 n, iV i, .slo 0 n, iV i, V.ptr 0 (i.toNat * 2), (rowV xs (i.toNat * 2) 2), .slo 1 n, iV i, V.ptr 1 (i.toNat * 6), (rowV ys (i.toNat * 6) 6), V.raw (.agg { toList := [.int .i64 (at' xs (i.toNat * 2)), .int .i64 (at' xs (i.toNat * 2 + 1)), .int .i64 (at' ys (i.toNat * 6)), .int .i64 (at' ys (i.toNat * 6 + 1)), .int .i64 (at' ys (i.toNat * 6 + 2)), .int .i64 (at' ys (i.toNat * 6 + 3)), .int .i64 (at' ys (i.toNat * 6 + 4)), .int .i64 (at' ys (i.toNat * 6 + 5))] }), V.ptr 2 (i.toNat * 8), iV (i + 1), uV, uV, uV]) (h1 := [some (.cells (ints xs) TA .ro), some (.cells (ints ys) TB .ro), some (.cells (ints (tog_z1 xs ys n TA TB i zs)) 124 (.row 8))]) (body_of cfx_mixed cfx_call (Nat.zero_le _) (rnd := none) (fi := 0) (k := 0) (n := 40) (n0 := 3) (ans := [Ans.br true, Ans.olds [(12, 5)], Ans.val 0 ((rowV xs (i.toNat * 2) 2)), Ans.val 1 ((rowV ys (i.toNat * 6) 6)), Ans.cells 2 (ints (tog_z1 xs ys n TA TB i zs))]) (cons := [(decide (i < (↑n : Int)) = true), (0 ≤ i ∧ i < (↑n : Int)), (loadRow cfx 65 (ints xs) (i.toNat * 2) = some ((rowV xs (i.toNat * 2) 2))), (0 ≤ i ∧ i < (↑n : Int)), (loadRow cfx 62 (ints ys) (i.toNat * 6) = some ((rowV ys (i.toNat * 6) 6))), (0 ≤ i ∧ i < (↑n : Int)), (storeRow cfx 3 124 (ints zs) (i.toNat * 8) (V.raw (.agg { toList := [.int .i64 (at' xs (i.toNat * 2)), .int .i64 (at' xs (i.toNat * 2 + 1)), .int .i64 (at' ys (i.toNat * 6)), .int .i64 (at' ys (i.toNat * 6 + 1)), .int .i64 (at' ys (i.toNat * 6 + 2)), .int .i64 (at' ys (i.toNat * 6 + 3)), .int .i64 (at' ys (i.toNat * 6 + 4)), .int .i64 (at' ys (i.toNat * 6 + 5))] })) = some (ints (tog_z1 xs ys n TA TB i zs))), ((ints (tog_z1 xs ys n TA TB i zs)).all isRawV = true), (inR IntKind.i64 (i + 1))]) (by kernel_rfl)
    ⟨(by first | omega | (simp; omega) | (simp_all; omega)), (by omega), (load_agg 2 (by kernel_rfl) (by kernel_rfl) (Nat.le_of_ble_eq_true rfl) (by omega)), (by omega), (load_agg 6 (by kernel_rfl) (by kernel_rfl) (Nat.le_of_ble_eq_true rfl) (by omega)), (by omega), (store_ints [at' xs (i.toNat * 2), at' xs (i.toNat * 2 + 1), at' ys (i.toNat * 6), at' ys (i.toNat * 6 + 1), at' ys (i.toNat * 6 + 2), at' ys (i.toNat * 6 + 3), at' ys (i.toNat * 6 + 4), at' ys (i.toNat * 6 + 5)] rfl (by kernel_rfl) (Nat.le_of_ble_eq_true rfl) (by first | omega | (simp only [ints_len, putI_length, List.length_append, List.length_replicate, List.length_take, List.length_drop, List.length_cons, List.length_nil]; omega) | (simp only [ints_len, putI_length, List.length_append, List.length_replicate, List.length_take, List.length_drop, List.length_cons, List.length_nil]; done))), (by first | exact ints_all _ | rfl), inR_i64 (by omega) (by omega), trivial⟩ (Nat.le_of_ble_eq_true rfl) (Nat.le_of_ble_eq_true rfl) noRnd (noRanges (by kernel_rfl))) (fun RT RH => reshape2 (lim := 0) 3 cfx_G rfl [] (by kernel_rfl) (by kernel_rfl) (by exact (ents_raw (ints_all _) rfl rfl (ents_raw (ints_all _) rfl rfl (ents_raw (ints_all _) rfl rfl (ents_nil))))) RT RH)
def tog_T2 (xs ys : List Int) (n : Nat) (TA TB : Nat) (i : Int) (zs : List Int) : List V := [.slo 0 n, .slo 1 n, uV, uV, V.raw (Value.slice none 0 0), iV 0, .slo 2 n, .any 7, .slo 0 n, iV (↑n : Int), V.raw (.bool (decide (8 < (↑n : Int)))), .slo 1 n, iV (↑n : Int), .slo 0 n, iV (↑n : Int), V.raw (.bool !decide ((↑n : Int) = (↑n : Int))), .slo 0 n, iV (↑n : Int), .slo 2 n, .slo 0 n, iV (↑n : Int), iV i, .any 22, .any 23, .any 24, .any 25, .any 26, .any 27, .any 28, .any 29, .any 30, .any 31, .any 32, .any 33, .any 34, .any 35, .any 36, uV, uV, uV]
def tog_H2 (xs ys : List Int) (n : Nat) (TA TB : Nat) (i : Int) (zs : List Int) : Heap := [some (.cells (ints xs) TA .ro), some (.cells (ints ys) TB .ro), some (.cells (ints zs) 124 (.row 8))]
theorem tog_2 (xs ys : List Int) (n : Nat) (TA TB : Nat) (hx : 2 * n ≤ xs.length) (hy : 6 * n ≤ ys.length) (hn : ¬ (8 : Int) < (n : Int)) (i : Int) (zs : List Int) (hi1 : 0 ≤ i) (hz : zs.length = n * 8) (f0 : ¬i < (↑n : Int)) : Runs cfx 0 3 none (loopOf cfx.P 44 0) (tog_T xs ys n TA TB i zs) (tog_H xs ys n TA TB i zs) (Ex.exit 0) (tog_T2 xs ys n TA TB i zs) (tog_H2 xs ys n TA TB i zs) := by
  refine Runs.post (t1 := [.slo 0 n, .slo 1 n, uV, uV, V.raw (Value.slice none 0 0), iV 0, .slo 2 n, .any 7, .slo 0 n, iV (↑n : Int), V.raw (.bool (decide (8 < (↑n : Int)))), .slo 1 n, iV (↑n : Int), .slo 0 n, iV (↑n : Int), V.raw (.bool !decide ((↑n : Int) = (↑n : Int))), .slo 0 n, iV (↑n : Int), .slo 2 n, .slo 0 n, iV (↑n : Int), iV i, V.raw (.bool (decide (i < (↑n : Int)))), .any 23, .any 24, .any 25, .any 26, .any 27, .any 28, .any 29, .any 30, .any 31, .any 32, .any 33, .any 34, .any 35, .any 36, uV, uV, uV]) (h1 := [some (.cells (ints xs) TA .ro), some (.cells (ints ys) TB .ro), some (.cells (ints zs) 124 (.row 8))]) (body_of cfx_mixed cfx_call (Nat.zero_le _) (rnd := none) (fi := 0) (k := 0) (n := 40) (n0 := 3) (ans := [Ans.br false]) (cons := [(decide (i < (↑n : Int)) = false)]) (by kernel_rfl)
    ⟨(by first | omega | (simp; omega) | (simp_all; omega)), trivial⟩ (Nat.le_of_ble_eq_true rfl) (Nat.le_of_ble_eq_true rfl) noRnd (noRanges (by kernel_rfl))) (fun RT RH => reshape2 (lim := 0) 3 cfx_G rfl [] (by kernel_rfl) (by kernel_rfl) (by exact (ents_raw (ints_all _) rfl rfl (ents_raw (ints_all _) rfl rfl (ents_raw (ints_all _) rfl rfl (ents_nil))))) RT RH)
abbrev mo_z1 (zs : List Int) (n : Nat) (T : Nat) (i : Int) (ws : List Int) : List Int := putI ws (i.toNat * 6) [at' zs (i.toNat * 8 + 2), at' zs (i.toNat * 8 + 3), at' zs (i.toNat * 8 + 4), at' zs (i.toNat * 8 + 5), at' zs (i.toNat * 8 + 6), at' zs (i.toNat * 8 + 7)]
def mo_T (zs : List Int) (n : Nat) (T : Nat) (i : Int) (ws : List Int) : List V := [.slo 0 n, uV, V.raw (Value.slice none 0 0), .slo 1 n, .any 4, .any 5, .slo 0 n, iV (↑n : Int), .slo 1 n, .slo 0 n, iV (↑n : Int), iV i, .any 12, .any 13, .any 14, .any 15, .any 16, .any 17, .any 18, .any 19, .any 20, .any 21, uV]
def mo_H (zs : List Int) (n : Nat) (T : Nat) (i : Int) (ws : List Int) : Heap := [some (.cells (ints zs) T .ro), some (.cells (ints ws) 62 (.row 6))]
theorem mo_1 (zs : List Int) (n : Nat) (T : Nat) (hz : 8 * n ≤ zs.length) (hn : n ≤ 8) (i : Int) (ws : List Int) (hi1 : 0 ≤ i) (hw : ws.length = n * 6) (f0 : i < (↑n : Int)) : Runs cfx 0 2 none (loopOf cfx.P 48 0) (mo_T zs n T i ws) (mo_H zs n T i ws) (Ex.normal) (mo_T zs n T (i + 1) (putI ws (i.toNat * 6) [at' zs (i.toNat * 8 + 2), at' zs (i.toNat * 8 + 3), at' zs (i.toNat * 8 + 4), at' zs (i.toNat * 8 + 5), at' zs (i.toNat * 8 + 6), at' zs (i.toNat * 8 + 7)])) (mo_H zs n T (i + 1) (putI ws (i.toNat * 6) [at' zs (i.toNat * 8 + 2), at' zs (i.toNat * 8 + 3), at' zs (i.toNat * 8 + 4), at' zs (i.toNat * 8 + 5), at' zs (i.toNat * 8 + 6), at' zs (i.toNat * 8 + 7)])) := by
  refine Runs.post (t1 := [.slo 0 n, uV, V.raw (Value.slice none 0 0), .slo 1 n, iV i, .ptr 2 0, .slo 0 n, iV (↑n : Int), .slo 1 n, .slo 0 n, iV (↑n : Int), iV (i + 1), V.raw (.bool (decide (i < (↑n : Int)))), iV i, V.ptr 0 (i.toNat * 8), (rowV zs (i.toNat * 8) 8), .slo 1 n, iV i, .ptr 2 2, (rowV zs (i.toNat * 8 + 2) 6), V.ptr 1 (i.toNat * 6), iV (i + 1), uV]) (h1 := [some (.cells (ints zs) T .ro), some (.cells (ints (mo_z1 zs n T i ws)) 62 (.row 6)), some (.cells [iV (at' zs (i.toNat * 8)), iV (at' zs (i.toNat * 8 + 1)), iV (at' zs (i.toNat * 8 + 2)), iV (at' zs (i.toNat * 8 + 3)), iV (at' zs (i.toNat * 8 + 4)), iV (at' zs (i.toNat * 8 + 5)), iV (at' zs (i.toNat * 8 + 6)), iV (at' zs (i.toNat * 8 + 7))] 124 .rw)]) (body_of cfx_mixed cfx_call (Nat.zero_le _) (rnd := none) (fi := 0) (k := 0) (n := 40) (n0 := 2) (ans := [Ans.br true, Ans.val 0 ((rowV zs (i.toNat * 8) 8)), Ans.cells 1 (ints (mo_z1 zs n T i ws))]) (cons := [(decide (i < (↑n : Int)) = true), (0 ≤ i ∧ i < (↑n : Int)), (loadRow cfx 124 (ints zs) (i.toNat * 8) = some ((rowV zs (i.toNat * 8) 8))), (0 ≤ i ∧ i < (↑n : Int)), (storeRow cfx 3 62 (ints ws) (i.toNat * 6) ((rowV zs (i.toNat * 8 + 2) 6)) = some (ints (mo_z1 zs n T i ws))), (inR IntKind.i64 (i + 1))]) (by kernel_rfl)
    ⟨(by first | omega | (simp; omega) | (simp_all; omega)), (by omega), (load_agg 8 (by kernel_rfl) (by kernel_rfl) (Nat.le_of_ble_eq_true rfl) (by omega)), (by omega), (store_ints [at' zs (i.toNat * 8 + 2), at' zs (i.toNat * 8 + 3), at' zs (i.toNat * 8 + 4), at' zs (i.toNat * 8 + 5), at' zs (i.toNat * 8 + 6), at' zs (i.toNat * 8 + 7)] rfl (by kernel_rfl) (Nat.le_of_ble_eq_true rfl) (by first | omega | (simp only [ints_len, putI_length, List.length_append, List.length_replicate, List.length_take, List.length_drop, List.length_cons, List.length_nil]; omega) | (simp only [ints_len, putI_length, List.length_append, List.length_replicate, List.length_take, List.length_drop, List.length_cons, List.length_nil]; done))), inR_i64 (by omega) (by omega), trivial⟩ (Nat.le_of_ble_eq_true rfl) (Nat.le_of_ble_eq_true rfl) noRnd (noRanges (by kernel_rfl))) (fun RT RH => reshape2 (lim := 0) 2 cfx_G rfl [] (by kernel_rfl) (by kernel_rfl) (by exact (ents_raw (ints_all _) rfl rfl (ents_raw (ints_all _) rfl rfl (ents_nil)))) RT RH)
def mo_T2 (zs : List Int) (n : Nat) (T : Nat) (i : Int) (ws : List Int) : List V := [.slo 0 n, uV, V.raw (Value.slice none 0 0), .slo 1 n, .any 4, .any 5, .slo 0 n, iV (↑n : Int), .slo 1 n, .slo 0 n, iV (↑n : Int), iV i, .any 12, .any 13, .any 14, .any 15, .any 16, .any 17, .any 18, .any 19, .any 20, .any 21, uV]
def mo_H2 (zs : List Int) (n : Nat) (T : Nat) (i : Int) (ws : List Int) : Heap := [some (.cells (ints zs) T .ro), some (.cells (ints ws) 62 (.row 6))]
theorem mo_2 (zs : List Int) (n : Nat) (T : Nat) (hz : 8 * n ≤ zs.length) (hn : n ≤ 8) (i : Int) (ws : List Int) (hi1 : 0 ≤ i) (hw : ws.length = n * 6) (f0 : ¬i < (↑n : Int)) : Runs cfx 0 2 none (loopOf cfx.P 48 0) (mo_T zs n T i ws) (mo_H zs n T i ws) (Ex.exit 0) (mo_T2 zs n T i ws) (mo_H2 zs n T i ws) := by
  refine Runs.post (t1 := [.slo 0 n, uV, V.raw (Value.slice none 0 0), .slo 1 n, .any 4, .any 5, .slo 0 n, iV (↑n : Int), .slo 1 n, .slo 0 n, iV (↑n : Int), iV i, V.raw (.bool (decide (i < (↑n : Int)))), .any 13, .any 14, .any 15, .any 16, .any 17, .any 18, .any 19, .any 20, .any 21, uV]) (h1 := [some (.cells (ints zs) T .ro), some (.cells (ints ws) 62 (.row 6))]) (body_of cfx_mixed cfx_call (Nat.zero_le _) (rnd := none) (fi := 0) (k := 0) (n := 40) (n0 := 2) (ans := [Ans.br false]) (cons := [(decide (i < (↑n : Int)) = false)]) (by kernel_rfl)
    ⟨(by first | omega | (simp; omega) | (simp_all; omega)), trivial⟩ (Nat.le_of_ble_eq_true rfl) (Nat.le_of_ble_eq_true rfl) noRnd (noRanges (by kernel_rfl))) (fun RT RH => reshape2 (lim := 0) 2 cfx_G rfl [] (by kernel_rfl) (by kernel_rfl) (by exact (ents_raw (ints_all _) rfl rfl (ents_raw (ints_all _) rfl rfl (ents_nil)))) RT RH)
theorem M.err_no {b : Bool} (h : b = false) : ¬ M.err b = 0 := fun k => by rw [M.err_eq, h] at k; cases k
theorem chk_loop (zs : List Int) (n : Nat) (T : Nat) (hz : 8 * n ≤ zs.length) (hn : n ≤ 8) : (M.allZ zs n = true ∧ Runs cfx 0 1 none (.loop (loopOf cfx.P 79 0)) (chk_T zs n T 0) (chk_H zs n T 0) (.exit 0) (chk_T3 zs n T n) (chk_H3 zs n T n)) ∨ (M.allZ zs n = false ∧ ∃ i : Nat, Runs cfx 0 1 none (.loop (loopOf cfx.P 79 0)) (chk_T zs n T 0) (chk_H zs n T 0) (.ret) (chk_T1 zs n T i) (chk_H1 zs n T i)) := by
  rcases upto_find (c := cfx) (lim := 0) (n0 := 1) (x := loopOf cfx.P 79 0) noRnd (M.goodZ zs) (fun i : Nat => chk_T zs n T i) (fun i : Nat => chk_H zs n T i) n (fun i : Nat => chk_T1 zs n T i) (fun i : Nat => chk_H1 zs n T i) (e := .exit 0) (e1 := .ret) (by simp) (by simp)
    (fun i hi hg => chk_2 zs n T hz hn i (by omega) (by omega) (M.err_eq.2 hg))
    (fun i hi hg => chk_1 zs n T hz hn i (by omega) (by omega) (M.err_no hg))
    (chk_3 zs n T hz hn n (by omega) (by omega)) with ⟨h1, h2⟩ | ⟨h1, i, hi, h2, h3, h4⟩
  · exact .inl ⟨h1, h2⟩
  · exact .inr ⟨h1, i, h4⟩
theorem chk_ok (zs : List Int) (n : Nat) (T : Nat) (hz : 8 * n ≤ zs.length) (hn : n ≤ 8) (hR : Runs cfx 0 1 none (.loop (loopOf cfx.P 79 0)) (chk_T zs n T 0) (chk_H zs n T 0) (.exit 0) (chk_T3 zs n T n) (chk_H3 zs n T n))  : Meets cfx 0 79 [.slo 0 n] [some (.cells (ints zs) T .ro)] (iV 0) [some (.cells (ints zs) T .ro)] := by
  refine Meets.post (meets_ev cfx_mixed cfx_call (Nat.zero_le _) (Nat.le_of_ble_eq_true rfl) (n := 40) (ans := [Ans.go, Ans.loop (Ex.exit 0) [.slo 0 n, uV, iV 0, uV, .any 4, .slo 0 n, iV (↑n : Int), iV (↑n : Int), .any 8, .any 9, .any 10, .any 11, .any 12, .any 13, .any 14, .any 15, .any 16, .any 17] [some (.cells (ints zs) T .ro)]]) (v := (iV 0)) (h' := [some (.cells (ints zs) T .ro)]) (cons := [(Runs cfx 0 1 none (.loop (loopOf cfx.P 79 0)) [.slo 0 n, uV, iV 0, uV, uV, .slo 0 n, iV (↑n : Int), iV 0, uV, uV, uV, uV, uV, uV, uV, uV, uV, uV] [some (.cells (ints zs) T .ro)] (Ex.exit 0) [.slo 0 n, uV, iV 0, uV, .any 4, .slo 0 n, iV (↑n : Int), iV (↑n : Int), .any 8, .any 9, .any 10, .any 11, .any 12, .any 13, .any 14, .any 15, .any 16, .any 17] [some (.cells (ints zs) T .ro)])]) (by kernel_rfl)
    ⟨(by
      refine Runs.pre (fun b e => by cases e) (fun RT RH => ?_) (hR)
      exact reshape2 (lim := 0) 1 (t := [.slo 0 n, uV, iV 0, uV, uV, .slo 0 n, iV (↑n : Int), iV 0, uV, uV, uV, uV, uV, uV, uV, uV, uV, uV]) (h := [some (.cells (ints zs) T .ro)]) cfx_G rfl [] (by kernel_rfl) (by kernel_rfl) (by repeat first | exact ents_nil | refine ents_none ?_ | refine ents_raw (ints_all _) rfl rfl ?_ | refine ents_raw (bools_all _) rfl rfl ?_ | refine ents_raw (mix_all _ _) rfl rfl ?_ | refine ents_say rfl rfl rfl rfl ?_ | refine ents_nilC rfl rfl ?_) RT RH), trivial⟩) (by kernel_rfl) (fun RT RH => reshape2 (lim := 0) 1 cfx_G rfl [] (by kernel_rfl) (by kernel_rfl) (by exact (ents_raw (ints_all _) rfl rfl (ents_nil))) RT RH)
theorem chk_bad (zs : List Int) (n : Nat) (T : Nat) (hz : 8 * n ≤ zs.length) (hn : n ≤ 8) (i : Nat) (hR : Runs cfx 0 1 none (.loop (loopOf cfx.P 79 0)) (chk_T zs n T 0) (chk_H zs n T 0) (.ret) (chk_T1 zs n T i) (chk_H1 zs n T i))  : Meets cfx 0 79 [.slo 0 n] [some (.cells (ints zs) T .ro)] (iV 2) [some (.cells (ints zs) T .ro)] := by
  refine Meets.post (meets_ev cfx_mixed cfx_call (Nat.zero_le _) (Nat.le_of_ble_eq_true rfl) (n := 40) (ans := [Ans.go, Ans.loop Ex.ret [.slo 0 n, uV, iV 2, uV, .any 4, .slo 0 n, iV (↑n : Int), iV (↑i : Int), .any 8, .any 9, .any 10, .any 11, .any 12, .any 13, .any 14, .any 15, .any 16, .any 17] [some (.cells (ints zs) T .ro)]]) (v := (iV 2)) (h' := [some (.cells (ints zs) T .ro)]) (cons := [(Runs cfx 0 1 none (.loop (loopOf cfx.P 79 0)) [.slo 0 n, uV, iV 0, uV, uV, .slo 0 n, iV (↑n : Int), iV 0, uV, uV, uV, uV, uV, uV, uV, uV, uV, uV] [some (.cells (ints zs) T .ro)] (Ex.ret) [.slo 0 n, uV, iV 2, uV, .any 4, .slo 0 n, iV (↑n : Int), iV (↑i : Int), .any 8, .any 9, .any 10, .any 11, .any 12, .any 13, .any 14, .any 15, .any 16, .any 17] [some (.cells (ints zs) T .ro)])]) (by kernel_rfl)
    ⟨(by
      refine Runs.pre (fun b e => by cases e) (fun RT RH => ?_) (hR)
      exact reshape2 (lim := 0) 1 (t := [.slo 0 n, uV, iV 0, uV, uV, .slo 0 n, iV (↑n : Int), iV 0, uV, uV, uV, uV, uV, uV, uV, uV, uV, uV]) (h := [some (.cells (ints zs) T .ro)]) cfx_G rfl [] (by kernel_rfl) (by kernel_rfl) (by repeat first | exact ents_nil | refine ents_none ?_ | refine ents_raw (ints_all _) rfl rfl ?_ | refine ents_raw (bools_all _) rfl rfl ?_ | refine ents_raw (mix_all _ _) rfl rfl ?_ | refine ents_say rfl rfl rfl rfl ?_ | refine ents_nilC rfl rfl ?_) RT RH), trivial⟩) (by kernel_rfl) (fun RT RH => reshape2 (lim := 0) 1 cfx_G rfl [] (by kernel_rfl) (by kernel_rfl) (by exact (ents_raw (ints_all _) rfl rfl (ents_nil))) RT RH)
theorem chk_all (zs : List Int) (n : Nat) (T : Nat) (hz : 8 * n ≤ zs.length) (hn : n ≤ 8) : Meets cfx 0 79 [.slo 0 n] [some (.cells (ints zs) T .ro)] (.raw (.int .i64 (M.err (M.allZ zs n)))) [some (.cells (ints zs) T .ro)] := by
  rcases chk_loop zs n T hz hn with ⟨h1, h2⟩ | ⟨h1, i, h2⟩
  · rw [h1]
    exact chk_ok zs n T hz hn h2
  · rw [h1]
    exact chk_bad zs n T hz hn i h2
theorem tog_loop (xs ys : List Int) (n : Nat) (TA TB : Nat) (hx : 2 * n ≤ xs.length) (hy : 6 * n ≤ ys.length) (hn : ¬ (8 : Int) < (n : Int)) : Runs cfx 0 3 none (.loop (loopOf cfx.P 44 0)) (tog_T xs ys n TA TB 0 (List.replicate (n * 8) 0)) (tog_H xs ys n TA TB 0 (List.replicate (n * 8) 0)) (.exit 0) (tog_T2 xs ys n TA TB n (M.roll xs ys n)) (tog_H2 xs ys n TA TB n (M.roll xs ys n)) := by
  have := upto (c := cfx) (lim := 0) (n0 := 3) (x := loopOf cfx.P 44 0) noRnd (fun i : Nat => tog_T xs ys n TA TB i (M.rollTo xs ys n i)) (fun i : Nat => tog_H xs ys n TA TB i (M.rollTo xs ys n i)) n (e := .exit 0) (Te := tog_T2 xs ys n TA TB n (M.rollTo xs ys n n)) (He := tog_H2 xs ys n TA TB n (M.rollTo xs ys n n)) (by simp)
    (fun i hi => by
      have := tog_1 xs ys n TA TB hx hy hn i (M.rollTo xs ys n i) (by omega) (M.rollTo_len _ _ _ _) (by omega)
      simp only [Int.toNat_natCast, M.rollTo_put _ _ _ _ hi] at this
      exact this)
    (tog_2 xs ys n TA TB hx hy hn n (M.rollTo xs ys n n) (by omega) (M.rollTo_len _ _ _ _) (by omega))
  rw [M.rollTo_n, M.rollTo_0] at this
  exact this
theorem tog_ok (xs ys : List Int) (n : Nat) (TA TB : Nat) (hx : 2 * n ≤ xs.length) (hy : 6 * n ≤ ys.length) (hn : ¬ (8 : Int) < (n : Int)) (hR : Runs cfx 0 3 none (.loop (loopOf cfx.P 44 0)) (tog_T xs ys n TA TB 0 (List.replicate (n * 8) 0)) (tog_H xs ys n TA TB 0 (List.replicate (n * 8) 0)) (.exit 0) (tog_T2 xs ys n TA TB n (M.roll xs ys n)) (tog_H2 xs ys n TA TB n (M.roll xs ys n)))  : Meets cfx 0 44 [.slo 0 n, .slo 1 n] [some (.cells (ints xs) TA .ro), some (.cells (ints ys) TB .ro)] (V.tup [.slo 2 n, iV (M.err (M.allZ (M.roll xs ys n) n))]) [some (.cells (ints xs) TA .ro), some (.cells (ints ys) TB .ro), some (.cells (ints (M.roll xs ys n)) 124 (.row 8))] := by
  refine Meets.post (meets_ev cfx_mixed cfx_call (Nat.zero_le _) (Nat.le_of_ble_eq_true rfl) (n := 40) (ans := [Ans.go, Ans.br false, Ans.br false, Ans.cells 2 (ints (List.replicate (n * 8) 0)), Ans.loop (Ex.exit 0) [.slo 0 n, .slo 1 n, uV, uV, V.raw (Value.slice none 0 0), iV 0, .slo 2 n, .any 7, .slo 0 n, iV (↑n : Int), V.raw (.bool (decide (8 < (↑n : Int)))), .slo 1 n, iV (↑n : Int), .slo 0 n, iV (↑n : Int), V.raw (.bool !decide ((↑n : Int) = (↑n : Int))), .slo 0 n, iV (↑n : Int), .slo 2 n, .slo 0 n, iV (↑n : Int), iV (↑n : Int), .any 22, .any 23, .any 24, .any 25, .any 26, .any 27, .any 28, .any 29, .any 30, .any 31, .any 32, .any 33, .any 34, .any 35, .any 36, uV, uV, uV] [some (.cells (ints xs) TA .ro), some (.cells (ints ys) TB .ro), some (.cells (ints (M.roll xs ys n)) 124 (.row 8))], Ans.reth (iV (M.err (M.allZ (M.roll xs ys n) n))) [some (.cells (ints xs) TA .ro), some (.cells (ints ys) TB .ro), some (.cells (ints (M.roll xs ys n)) 124 (.row 8))]]) (v := V.tup [.slo 2 n, iV (M.err (M.allZ (M.roll xs ys n) n))]) (h' := [some (.cells (ints xs) TA .ro), some (.cells (ints ys) TB .ro), some (.cells (ints (M.roll xs ys n)) 124 (.row 8))]) (cons := [(decide (8 < (↑n : Int)) = false), ((!decide ((↑n : Int) = (↑n : Int))) = false), (0 ≤ (↑n : Int) ∧ (↑n : Int) ≤ (↑n : Int) ∧ (↑(64 * n) : Int) ≤ 281474976710656 ∧ (↑n : Int) ≤ 9223372036854775807), (mk0 #[(Value.int IntKind.i64 0), (Value.int IntKind.i64 0), (Value.int IntKind.i64 0), (Value.int IntKind.i64 0), (Value.int IntKind.i64 0), (Value.int IntKind.i64 0), (Value.int IntKind.i64 0), (Value.int IntKind.i64 0)] (Int.toNat (↑n : Int) * 8) = (ints (List.replicate (n * 8) 0))), (Runs cfx 0 3 none (.loop (loopOf cfx.P 44 0)) [.slo 0 n, .slo 1 n, uV, uV, V.raw (Value.slice none 0 0), iV 0, .slo 2 n, uV, .slo 0 n, iV (↑n : Int), V.raw (.bool (decide (8 < (↑n : Int)))), .slo 1 n, iV (↑n : Int), .slo 0 n, iV (↑n : Int), V.raw (.bool !decide ((↑n : Int) = (↑n : Int))), .slo 0 n, iV (↑n : Int), .slo 2 n, .slo 0 n, iV (↑n : Int), iV 0, uV, uV, uV, uV, uV, uV, uV, uV, uV, uV, uV, uV, uV, uV, uV, uV, uV, uV] [some (.cells (ints xs) TA .ro), some (.cells (ints ys) TB .ro), some (.cells (ints (List.replicate (n * 8) 0)) 124 (.row 8))] (Ex.exit 0) [.slo 0 n, .slo 1 n, uV, uV, V.raw (Value.slice none 0 0), iV 0, .slo 2 n, .any 7, .slo 0 n, iV (↑n : Int), V.raw (.bool (decide (8 < (↑n : Int)))), .slo 1 n, iV (↑n : Int), .slo 0 n, iV (↑n : Int), V.raw (.bool !decide ((↑n : Int) = (↑n : Int))), .slo 0 n, iV (↑n : Int), .slo 2 n, .slo 0 n, iV (↑n : Int), iV (↑n : Int), .any 22, .any 23, .any 24, .any 25, .any 26, .any 27, .any 28, .any 29, .any 30, .any 31, .any 32, .any 33, .any 34, .any 35, .any 36, uV, uV, uV] [some (.cells (ints xs) TA .ro), some (.cells (ints ys) TB .ro), some (.cells (ints (M.roll xs ys n)) 124 (.row 8))]), (Meets cfx 0 79 [.slo 2 n] [some (.cells (ints xs) TA .ro), some (.cells (ints ys) TB .ro), some (.cells (ints (M.roll xs ys n)) 124 (.row 8))] (iV (M.err (M.allZ (M.roll xs ys n) n))) [some (.cells (ints xs) TA .ro), some (.cells (ints ys) TB .ro), some (.cells (ints (M.roll xs ys n)) 124 (.row 8))])]) (by kernel_rfl)
    ⟨(by first | omega | (simp; omega) | (simp_all; omega)), (by first | assumption | exact flg (by first | assumption | omega) | (simp_all; done)), (by first | assumption | omega | (simp_all; done) | (simp_all; omega)), (mk0_ints _ rfl (Nat.le_of_ble_eq_true rfl) _), (by
      refine Runs.pre (fun b e => by cases e) (fun RT RH => ?_) (hR)
      exact reshape2 (lim := 0) 3 (t := [.slo 0 n, .slo 1 n, uV, uV, V.raw (Value.slice none 0 0), iV 0, .slo 2 n, uV, .slo 0 n, iV (↑n : Int), V.raw (.bool (decide (8 < (↑n : Int)))), .slo 1 n, iV (↑n : Int), .slo 0 n, iV (↑n : Int), V.raw (.bool !decide ((↑n : Int) = (↑n : Int))), .slo 0 n, iV (↑n : Int), .slo 2 n, .slo 0 n, iV (↑n : Int), iV 0, uV, uV, uV, uV, uV, uV, uV, uV, uV, uV, uV, uV, uV, uV, uV, uV, uV, uV]) (h := [some (.cells (ints xs) TA .ro), some (.cells (ints ys) TB .ro), some (.cells (ints (List.replicate (n * 8) 0)) 124 (.row 8))]) cfx_G rfl [] (by kernel_rfl) (by kernel_rfl) (by repeat first | exact ents_nil | refine ents_none ?_ | refine ents_raw (ints_all _) rfl rfl ?_ | refine ents_raw (bools_all _) rfl rfl ?_ | refine ents_raw (mix_all _ _) rfl rfl ?_ | refine ents_say rfl rfl rfl rfl ?_ | refine ents_nilC rfl rfl ?_) RT RH), (by exact below1 (lim := 0) rfl rfl 2 (N := []) (chk_all (M.roll xs ys n) n 124 (by rw [M.roll_len]; omega) (by omega)) (ints_all _) rfl (fun k X h => by simp at h) rfl (Nat.zero_le _)), trivial⟩) (by kernel_rfl) (fun RT RH => reshape2 (lim := 0) 2 cfx_G rfl [some 2] (by kernel_rfl) (by kernel_rfl) (by exact (ents_raw (ints_all _) rfl rfl (ents_raw (ints_all _) rfl rfl (ents_raw (ints_all _) rfl rfl (ents_nil))))) RT RH)
theorem tog_many (xs ys : List Int) (n k : Nat) (TA TB : Nat) (hn : (8 : Int) < (n : Int))  : Meets cfx 0 44 [.slo 0 n, .slo 1 k] [some (.cells (ints xs) TA .ro), some (.cells (ints ys) TB .ro)] (V.raw (.tuple { toList := [Value.slice none 0 0, .int .i64 6] })) [some (.cells (ints xs) TA .ro), some (.cells (ints ys) TB .ro)] := by
  refine Meets.post (meets_ev cfx_mixed cfx_call (Nat.zero_le _) (Nat.le_of_ble_eq_true rfl) (n := 40) (ans := [Ans.go, Ans.br true]) (v := V.raw (.tuple { toList := [Value.slice none 0 0, .int .i64 6] })) (h' := [some (.cells (ints xs) TA .ro), some (.cells (ints ys) TB .ro)]) (cons := [(decide (8 < (↑n : Int)) = true)]) (by kernel_rfl)
    ⟨(by first | omega | (simp; omega) | (simp_all; omega)), trivial⟩) (by kernel_rfl) (fun RT RH => reshape2 (lim := 0) 2 cfx_G rfl [] (by kernel_rfl) (by kernel_rfl) (by exact (ents_raw (ints_all _) rfl rfl (ents_raw (ints_all _) rfl rfl (ents_nil)))) RT RH)
theorem tog_eq (xs ys : List Int) (n k : Nat) (TA TB : Nat) (hn : ¬ (8 : Int) < (n : Int)) (hk : ¬ (k : Int) = n)  : Meets cfx 0 44 [.slo 0 n, .slo 1 k] [some (.cells (ints xs) TA .ro), some (.cells (ints ys) TB .ro)] (V.raw (.tuple { toList := [Value.slice none 0 0, .int .i64 17] })) [some (.cells (ints xs) TA .ro), some (.cells (ints ys) TB .ro)] := by
  refine Meets.post (meets_ev cfx_mixed cfx_call (Nat.zero_le _) (Nat.le_of_ble_eq_true rfl) (n := 40) (ans := [Ans.go, Ans.br false, Ans.br true]) (v := V.raw (.tuple { toList := [Value.slice none 0 0, .int .i64 17] })) (h' := [some (.cells (ints xs) TA .ro), some (.cells (ints ys) TB .ro)]) (cons := [(decide (8 < (↑n : Int)) = false), ((!decide ((↑k : Int) = (↑n : Int))) = true)]) (by kernel_rfl)
    ⟨(by first | omega | (simp; omega) | (simp_all; omega)), (by first | assumption | exact flg (by first | assumption | omega) | (simp_all; done)), trivial⟩) (by kernel_rfl) (fun RT RH => reshape2 (lim := 0) 2 cfx_G rfl [] (by kernel_rfl) (by kernel_rfl) (by exact (ents_raw (ints_all _) rfl rfl (ents_raw (ints_all _) rfl rfl (ents_nil)))) RT RH)
theorem tog_all (xs ys : List Int) (n : Nat) (TA TB : Nat) (hx : 2 * n ≤ xs.length) (hy : 6 * n ≤ ys.length) (hn : ¬ (8 : Int) < (n : Int)) : Meets cfx 0 44 [.slo 0 n, .slo 1 n] [some (.cells (ints xs) TA .ro), some (.cells (ints ys) TB .ro)] (.tup [.slo 2 n, .raw (.int .i64 (M.err (M.allB xs ys n)))]) ([some (.cells (ints xs) TA .ro), some (.cells (ints ys) TB .ro), some (.cells (ints (M.roll xs ys n)) 124 (.row 8))]) := by
  rw [← M.allZ_roll]
  exact tog_ok xs ys n TA TB hx hy hn (tog_loop xs ys n TA TB hx hy hn)
theorem mo_loop (zs : List Int) (n : Nat) (T : Nat) (hz : 8 * n ≤ zs.length) (hn : n ≤ 8) : Runs cfx 0 2 none (.loop (loopOf cfx.P 48 0)) (mo_T zs n T 0 (List.replicate (n * 6) 0)) (mo_H zs n T 0 (List.replicate (n * 6) 0)) (.exit 0) (mo_T2 zs n T n (M.mots zs n)) (mo_H2 zs n T n (M.mots zs n)) := by
  have := upto (c := cfx) (lim := 0) (n0 := 2) (x := loopOf cfx.P 48 0) noRnd (fun i : Nat => mo_T zs n T i (M.motTo zs n i)) (fun i : Nat => mo_H zs n T i (M.motTo zs n i)) n (e := .exit 0) (Te := mo_T2 zs n T n (M.motTo zs n n)) (He := mo_H2 zs n T n (M.motTo zs n n)) (by simp)
    (fun i hi => by
      have := mo_1 zs n T hz hn i (M.motTo zs n i) (by omega) (M.motTo_len _ _ _) (by omega)
      simp only [Int.toNat_natCast, M.motTo_put _ _ _ hi] at this
      exact this)
    (mo_2 zs n T hz hn n (M.motTo zs n n) (by omega) (M.motTo_len _ _ _) (by omega))
  rw [M.motTo_n, M.motTo_0] at this
  exact this
theorem mots_ok (zs : List Int) (n : Nat) (T : Nat) (hz : 8 * n ≤ zs.length) (hn : n ≤ 8) (hR : Runs cfx 0 2 none (.loop (loopOf cfx.P 48 0)) (mo_T zs n T 0 (List.replicate (n * 6) 0)) (mo_H zs n T 0 (List.replicate (n * 6) 0)) (.exit 0) (mo_T2 zs n T n (M.mots zs n)) (mo_H2 zs n T n (M.mots zs n)))  : Meets cfx 0 48 [.slo 0 n] [some (.cells (ints zs) T .ro)] (.slo 1 n) [some (.cells (ints zs) T .ro), some (.cells (ints (M.mots zs n)) 62 (.row 6))] := by
  refine Meets.post (meets_ev cfx_mixed cfx_call (Nat.zero_le _) (Nat.le_of_ble_eq_true rfl) (n := 40) (ans := [Ans.go, Ans.cells 1 (ints (List.replicate (n * 6) 0)), Ans.loop (Ex.exit 0) [.slo 0 n, uV, V.raw (Value.slice none 0 0), .slo 1 n, .any 4, .any 5, .slo 0 n, iV (↑n : Int), .slo 1 n, .slo 0 n, iV (↑n : Int), iV (↑n : Int), .any 12, .any 13, .any 14, .any 15, .any 16, .any 17, .any 18, .any 19, .any 20, .any 21, uV] [some (.cells (ints zs) T .ro), some (.cells (ints (M.mots zs n)) 62 (.row 6))]]) (v := .slo 1 n) (h' := [some (.cells (ints zs) T .ro), some (.cells (ints (M.mots zs n)) 62 (.row 6))]) (cons := [(0 ≤ (↑n : Int) ∧ (↑n : Int) ≤ (↑n : Int) ∧ (↑(48 * n) : Int) ≤ 281474976710656 ∧ (↑n : Int) ≤ 9223372036854775807), (mk0 #[(Value.int IntKind.i64 0), (Value.int IntKind.i64 0), (Value.int IntKind.i64 0), (Value.int IntKind.i64 0), (Value.int IntKind.i64 0), (Value.int IntKind.i64 0)] (Int.toNat (↑n : Int) * 6) = (ints (List.replicate (n * 6) 0))), (Runs cfx 0 2 none (.loop (loopOf cfx.P 48 0)) [.slo 0 n, uV, V.raw (Value.slice none 0 0), .slo 1 n, uV, uV, .slo 0 n, iV (↑n : Int), .slo 1 n, .slo 0 n, iV (↑n : Int), iV 0, uV, uV, uV, uV, uV, uV, uV, uV, uV, uV, uV] [some (.cells (ints zs) T .ro), some (.cells (ints (List.replicate (n * 6) 0)) 62 (.row 6))] (Ex.exit 0) [.slo 0 n, uV, V.raw (Value.slice none 0 0), .slo 1 n, .any 4, .any 5, .slo 0 n, iV (↑n : Int), .slo 1 n, .slo 0 n, iV (↑n : Int), iV (↑n : Int), .any 12, .any 13, .any 14, .any 15, .any 16, .any 17, .any 18, .any 19, .any 20, .any 21, uV] [some (.cells (ints zs) T .ro), some (.cells (ints (M.mots zs n)) 62 (.row 6))])]) (by kernel_rfl)
    ⟨(by first | assumption | omega | (simp_all; done) | (simp_all; omega)), (mk0_ints _ rfl (Nat.le_of_ble_eq_true rfl) _), (by
      refine Runs.pre (fun b e => by cases e) (fun RT RH => ?_) (hR)
      exact reshape2 (lim := 0) 2 (t := [.slo 0 n, uV, V.raw (Value.slice none 0 0), .slo 1 n, uV, uV, .slo 0 n, iV (↑n : Int), .slo 1 n, .slo 0 n, iV (↑n : Int), iV 0, uV, uV, uV, uV, uV, uV, uV, uV, uV, uV, uV]) (h := [some (.cells (ints zs) T .ro), some (.cells (ints (List.replicate (n * 6) 0)) 62 (.row 6))]) cfx_G rfl [] (by kernel_rfl) (by kernel_rfl) (by repeat first | exact ents_nil | refine ents_none ?_ | refine ents_raw (ints_all _) rfl rfl ?_ | refine ents_raw (bools_all _) rfl rfl ?_ | refine ents_raw (mix_all _ _) rfl rfl ?_ | refine ents_say rfl rfl rfl rfl ?_ | refine ents_nilC rfl rfl ?_) RT RH), trivial⟩) (by kernel_rfl) (fun RT RH => reshape2 (lim := 0) 1 cfx_G rfl [some 1] (by kernel_rfl) (by kernel_rfl) (by exact (ents_raw (ints_all _) rfl rfl (ents_raw (ints_all _) rfl rfl (ents_nil)))) RT RH)
theorem mots_all (zs : List Int) (n : Nat) (T : Nat) (hz : 8 * n ≤ zs.length) (hn : n ≤ 8) : Meets cfx 0 48 [.slo 0 n] [some (.cells (ints zs) T .ro)] (.slo 1 n) ([some (.cells (ints zs) T .ro), some (.cells (ints (M.mots zs n)) 62 (.row 6))]) := mots_ok zs n T hz hn (mo_loop zs n T hz hn)
end Go.Proofs.YteefjegampdpoaaDoor
end
section
namespace Go.Proofs.YteefjegampdpoaaDoor
open Go Go.RowKit Go.Proofs.YteefjegampdpoaaDoor.E
def kl_T (wx wy sq ux uy b r d : Int) (X Y : Int) : List V := [V.fn (Fn.func 140) [V.ptr 3 0] [], V.fn (Fn.func 141) [V.ptr 3 0] [], V.raw (.tuple { toList := [] }), V.raw (.tuple { toList := [] }), V.any 4, V.any 5, V.any 6, V.raw (.tuple { toList := [] })]
def kl_H (wx wy sq ux uy b r d : Int) (X Y : Int) : Heap := [some { cells := [V.raw (.int .i64 wx), V.raw (.int .i64 wy), V.raw (.int .i64 sq), V.raw (.int .i64 ux), V.raw (.int .i64 uy), V.raw (.int .i64 b)], ty := 206 }, some { cells := [V.raw (.int .i64 r), V.raw (.int .i64 d)], ty := 56 }, some { cells := [V.raw (.int .i64 0), V.raw (.int .i64 0)], ty := 24 }, some { cells := [V.raw (.int .i64 wx), V.raw (.int .i64 wy), V.raw (.int .i64 sq), V.raw (.int .i64 ux), V.raw (.int .i64 uy), V.raw (.int .i64 b), V.raw (.int .i64 X), V.raw (.int .i64 Y)], ty := 233 }]
def kl_ds : List Nat := [4, 5, 6]
theorem kl_1 (wx wy sq ux uy b r d : Int) (hb1 : 1 ≤ b) (hb2 : b ≤ 1000) (hu1 : -16777216000 ≤ ux) (hu2 : ux ≤ 16777216000) (hv1 : -16777216000 ≤ uy) (hv2 : uy ≤ 16777216000) (X Y : Int) (hx1 : -50331648 ≤ X) (hx2 : X ≤ 50331648) (hy1 : -50331648 ≤ Y) (hy2 : Y ≤ 50331648) (f0 : 2 * (ux * X + uy * Y) < b * (X * X + Y * Y)) : Runs cfg cfg.L (loopOf cfg.P 139 0) (kl_T wx wy sq ux uy b r d X Y) (kl_H wx wy sq ux uy b r d X Y) (Ex.normal) (kl_T wx wy sq ux uy b r d (X.tdiv 2) (Y.tdiv 2)) (kl_H wx wy sq ux uy b r d (X.tdiv 2) (Y.tdiv 2)) := by
  obtain ⟨_, _, _, _, _, _, _⟩ := M.round_rng hb1 hb2 hu1 hu2 hv1 hv2 hx1 hx2 hy1 hy2
  exact body_of cfg_mixed cfg_call (Nat.le_refl _) (n := 40) (ans := [Ans.go, Ans.olds [], Ans.go, Ans.go, Ans.br true, Ans.go, Ans.olds [(5, 3)], Ans.go, Ans.go, Ans.go, Ans.go, Ans.go]) (cons := [(inR IntKind.i64 (X * X)), (inR IntKind.i64 (Y * Y)), (inR IntKind.i64 (X * X + Y * Y)), (inR IntKind.i64 (b * (X * X + Y * Y))), (inR IntKind.i64 (ux * X)), (inR IntKind.i64 (uy * Y)), (inR IntKind.i64 (ux * X + uy * Y)), (inR IntKind.i64 (2 * (ux * X + uy * Y))), (decide (2 * (ux * X + uy * Y) < b * (X * X + Y * Y)) = true), ((2 : Int) ≠ (0 : Int)), (inR IntKind.i64 (X.tdiv 2)), ((2 : Int) ≠ (0 : Int)), (inR IntKind.i64 (Y.tdiv 2))]) kl_ds (by kernel_rfl) (by kernel_rfl) (by kernel_rfl) (by kernel_rfl)
    ⟨inR_i64 (by omega) (by omega), inR_i64 (by omega) (by omega), inR_i64 (by omega) (by omega), inR_i64 (by omega) (by omega), inR_i64 (by omega) (by omega), inR_i64 (by omega) (by omega), inR_i64 (by omega) (by omega), inR_i64 (by omega) (by omega), (by first | assumption | omega | (simp_all; done) | (simp_all; omega)), (by first | assumption | omega | (simp_all; done) | (simp_all; omega)), inR_i64 (by omega) (by omega), (by first | assumption | omega | (simp_all; done) | (simp_all; omega)), inR_i64 (by omega) (by omega), trivial⟩
def kl_T2 (wx wy sq ux uy b r d : Int) (X Y : Int) : List V := [V.fn (Fn.func 140) [V.ptr 3 0] [], V.fn (Fn.func 141) [V.ptr 3 0] [], V.raw (.tuple { toList := [] }), V.raw (.tuple { toList := [] }), V.any 4, V.any 5, V.any 6, V.raw (.tuple { toList := [] })]
def kl_H2 (wx wy sq ux uy b r d : Int) (X Y : Int) : Heap := [some { cells := [V.raw (.int .i64 wx), V.raw (.int .i64 wy), V.raw (.int .i64 sq), V.raw (.int .i64 ux), V.raw (.int .i64 uy), V.raw (.int .i64 b)], ty := 206 }, some { cells := [V.raw (.int .i64 r), V.raw (.int .i64 d)], ty := 56 }, some { cells := [V.raw (.int .i64 0), V.raw (.int .i64 0)], ty := 24 }, some { cells := [V.raw (.int .i64 wx), V.raw (.int .i64 wy), V.raw (.int .i64 sq), V.raw (.int .i64 ux), V.raw (.int .i64 uy), V.raw (.int .i64 b), V.raw (.int .i64 X), V.raw (.int .i64 Y)], ty := 233 }]
theorem kl_2 (wx wy sq ux uy b r d : Int) (hb1 : 1 ≤ b) (hb2 : b ≤ 1000) (hu1 : -16777216000 ≤ ux) (hu2 : ux ≤ 16777216000) (hv1 : -16777216000 ≤ uy) (hv2 : uy ≤ 16777216000) (X Y : Int) (hx1 : -50331648 ≤ X) (hx2 : X ≤ 50331648) (hy1 : -50331648 ≤ Y) (hy2 : Y ≤ 50331648) (f0 : ¬2 * (ux * X + uy * Y) < b * (X * X + Y * Y)) : Runs cfg cfg.L (loopOf cfg.P 139 0) (kl_T wx wy sq ux uy b r d X Y) (kl_H wx wy sq ux uy b r d X Y) (Ex.exit 0) (kl_T2 wx wy sq ux uy b r d X Y) (kl_H2 wx wy sq ux uy b r d X Y) := by
  obtain ⟨_, _, _, _, _, _, _⟩ := M.round_rng hb1 hb2 hu1 hu2 hv1 hv2 hx1 hx2 hy1 hy2
  exact body_of cfg_mixed cfg_call (Nat.le_refl _) (n := 40) (ans := [Ans.go, Ans.olds [], Ans.go, Ans.go, Ans.br false]) (cons := [(inR IntKind.i64 (X * X)), (inR IntKind.i64 (Y * Y)), (inR IntKind.i64 (X * X + Y * Y)), (inR IntKind.i64 (b * (X * X + Y * Y))), (inR IntKind.i64 (ux * X)), (inR IntKind.i64 (uy * Y)), (inR IntKind.i64 (ux * X + uy * Y)), (inR IntKind.i64 (2 * (ux * X + uy * Y))), (decide (2 * (ux * X + uy * Y) < b * (X * X + Y * Y)) = false)]) kl_ds (by kernel_rfl) (by kernel_rfl) (by kernel_rfl) (by kernel_rfl)
    ⟨inR_i64 (by omega) (by omega), inR_i64 (by omega) (by omega), inR_i64 (by omega) (by omega), inR_i64 (by omega) (by omega), inR_i64 (by omega) (by omega), inR_i64 (by omega) (by omega), inR_i64 (by omega) (by omega), inR_i64 (by omega) (by omega), (by first | assumption | omega | (simp_all; done) | (simp_all; omega)), trivial⟩
end Go.Proofs.YteefjegampdpoaaDoor
end
section
namespace Go.Proofs.YteefjegampdpoaaDoor
open Go Go.RowKit Go.Proofs.YteefjegampdpoaaDoor.E
theorem tooB_yes {b ux uy X Y : Int} (h : M.tooB b ux uy X Y = true) : 2 * (ux * X + uy * Y) < b * (X * X + Y * Y) := of_decide_eq_true h
theorem tooB_no {b ux uy X Y : Int} (h : M.tooB b ux uy X Y = false) : ¬ 2 * (ux * X + uy * Y) < b * (X * X + Y * Y) := of_decide_eq_false h
theorem kl_all (wx wy sq ux uy b r d : Int) (hb1 : 1 ≤ b) (hb2 : b ≤ 1000) (hu1 : -16777216000 ≤ ux) (hu2 : ux ≤ 16777216000) (hv1 : -16777216000 ≤ uy) (hv2 : uy ≤ 16777216000) :
    ∀ (n : Nat) (X Y : Int), X.natAbs + Y.natAbs ≤ n → -50331648 ≤ X → X ≤ 50331648 → -50331648 ≤ Y → Y ≤ 50331648 →
      ∃ m, Rounds cfg cfg.L (loopOf cfg.P 139 0) m (kl_T wx wy sq ux uy b r d X Y) (kl_H wx wy sq ux uy b r d X Y) (.exit 0) (kl_T2 wx wy sq ux uy b r d (M.hvx b ux uy X Y) (M.hvy b ux uy X Y)) (kl_H2 wx wy sq ux uy b r d (M.hvx b ux uy X Y) (M.hvy b ux uy X Y)) := by
  intro n
  induction n with
  | zero =>
    intro X Y h hx1 hx2 hy1 hy2
    have hx : X = 0 := by omega
    have hy : Y = 0 := by omega
    subst hx; subst hy
    have ht := M.tooB_zero b ux uy
    rw [(M.hv_stop ht).1, (M.hv_stop ht).2]
    exact ⟨1, rounds_done (kl_2 wx wy sq ux uy b r d hb1 hb2 hu1 hu2 hv1 hv2 0 0 hx1 hx2 hy1 hy2 (tooB_no ht)) (by simp)⟩
  | succ n ih =>
    intro X Y h hx1 hx2 hy1 hy2
    cases ht : M.tooB b ux uy X Y with
    | false =>
      rw [(M.hv_stop ht).1, (M.hv_stop ht).2]
      exact ⟨1, rounds_done (kl_2 wx wy sq ux uy b r d hb1 hb2 hu1 hu2 hv1 hv2 X Y hx1 hx2 hy1 hy2 (tooB_no ht)) (by simp)⟩
    | true =>
      rw [(M.hv_step ht).1, (M.hv_step ht).2]
      have hl := M.tooB_lt ht
      obtain ⟨_, _, _, _, _, h6, h7⟩ := M.round_rng hb1 hb2 hu1 hu2 hv1 hv2 hx1 hx2 hy1 hy2
      obtain ⟨m, hm⟩ := ih (X.tdiv 2) (Y.tdiv 2) (by omega) h6.1 h6.2 h7.1 h7.2
      exact ⟨m + 1, rounds_more (kl_1 wx wy sq ux uy b r d hb1 hb2 hu1 hu2 hv1 hv2 X Y hx1 hx2 hy1 hy2 (tooB_yes ht)) hm⟩
theorem kl_loop (wx wy sq ux uy b r d X Y : Int) (hb1 : 1 ≤ b) (hb2 : b ≤ 1000) (hu1 : -16777216000 ≤ ux) (hu2 : ux ≤ 16777216000) (hv1 : -16777216000 ≤ uy) (hv2 : uy ≤ 16777216000) (hx : -50331648 ≤ X ∧ X ≤ 50331648) (hy : -50331648 ≤ Y ∧ Y ≤ 50331648) :
    Runs cfg cfg.L (.loop (loopOf cfg.P 139 0)) (kl_T wx wy sq ux uy b r d X Y) (kl_H wx wy sq ux uy b r d X Y) (.exit 0) (kl_T2 wx wy sq ux uy b r d (M.hvx b ux uy X Y) (M.hvy b ux uy X Y)) (kl_H2 wx wy sq ux uy b r d (M.hvx b ux uy X Y) (M.hvy b ux uy X Y)) := by
  obtain ⟨m, hm⟩ := kl_all wx wy sq ux uy b r d hb1 hb2 hu1 hu2 hv1 hv2 _ X Y (Nat.le_refl _) hx.1 hx.2 hy.1 hy.2
  exact runs_loop hm
end Go.Proofs.YteefjegampdpoaaDoor
end
section
namespace Go.Proofs.YteefjegampdpoaaDoor
open Go Go.RowKit Go.Proofs.YteefjegampdpoaaDoor.E
theorem mkick (wx wy sq ux uy b r d : Int) (hs : sq = wx * wx + wy * wy) (hp : 0 < sq) (hb1 : 1 ≤ b) (hb2 : b ≤ 1000) (hr1 : 0 ≤ r) (hr2 : r ≤ 950) (hd1 : 0 ≤ d) (hd2 : d ≤ 300) (hx1 : -(b * 16777216) ≤ ux) (hx2 : ux ≤ b * 16777216) (hy1 : -(b * 16777216) ≤ uy) (hy2 : uy ≤ b * 16777216) (hw1 : -70000 ≤ wx) (hw2 : wx ≤ 70000) (hw3 : -70000 ≤ wy) (hw4 : wy ≤ 70000)  : Ret cfg 112 [.raw (.agg #[.int .i64 wx, .int .i64 wy, .int .i64 sq, .int .i64 ux, .int .i64 uy, .int .i64 b]), .raw (.agg #[.int .i64 r, .int .i64 d])] (V.raw (.agg { toList := [.int .i64 (M.kx ux uy wx wy sq b r d), .int .i64 (M.ky ux uy wx wy sq b r d)] })) := by
  obtain ⟨⟨_, _, _, _⟩, ⟨_, _, _, _, _, _, _, _⟩, kx, ky⟩ := M.kick_debts hs hp hb1 hb2 hr1 hr2 hd1 hd2 hx1 hx2 hy1 hy2 hw1 hw2 hw3 hw4
  exact fn_of cfg_mixed cfg_call cfg_base.1 cfg_base.2.1 cfg_base.2.2 (n := 40) (ans := [Ans.go, Ans.olds [], Ans.go, Ans.olds [], Ans.go, Ans.olds [], Ans.olds [], Ans.go, Ans.loop (Ex.exit 0) [V.fn (Fn.func 140) [V.ptr 3 0] [], V.fn (Fn.func 141) [V.ptr 3 0] [], V.raw (.tuple { toList := [] }), V.raw (.tuple { toList := [] }), V.any 4, V.any 5, V.any 6, V.raw (.tuple { toList := [] })] [some { cells := [V.raw (.int .i64 wx), V.raw (.int .i64 wy), V.raw (.int .i64 sq), V.raw (.int .i64 ux), V.raw (.int .i64 uy), V.raw (.int .i64 b)], ty := 206 }, some { cells := [V.raw (.int .i64 r), V.raw (.int .i64 d)], ty := 56 }, some { cells := [V.raw (.int .i64 0), V.raw (.int .i64 0)], ty := 24 }, some { cells := [V.raw (.int .i64 wx), V.raw (.int .i64 wy), V.raw (.int .i64 sq), V.raw (.int .i64 ux), V.raw (.int .i64 uy), V.raw (.int .i64 b), V.raw (.int .i64 (M.kx ux uy wx wy sq b r d)), V.raw (.int .i64 (M.ky ux uy wx wy sq b r d))], ty := 233 }]]) (cons := [(inR IntKind.i64 (ux * wx)), (inR IntKind.i64 (uy * wy)), (inR IntKind.i64 (ux * wx + uy * wy)), (sq ≠ 0), (inR IntKind.i64 ((ux * wx + uy * wy).tdiv sq)), (inR IntKind.i64 (wx * uy)), (inR IntKind.i64 (wy * ux)), (inR IntKind.i64 (wx * uy - wy * ux)), (sq ≠ 0), (inR IntKind.i64 ((wx * uy - wy * ux).tdiv sq)), (inR IntKind.i64 (1000 + r)), (inR IntKind.i64 ((1000 + r) * (ux * wx + uy * wy).tdiv sq)), (inR IntKind.i64 (d * (wx * uy - wy * ux).tdiv sq)), (inR IntKind.i64 (1000 * b)), (inR IntKind.i64 ((1000 + r) * (ux * wx + uy * wy).tdiv sq * wx)), (inR IntKind.i64 (d * (wx * uy - wy * ux).tdiv sq * wy)), (inR IntKind.i64 ((1000 + r) * (ux * wx + uy * wy).tdiv sq * wx - d * (wx * uy - wy * ux).tdiv sq * wy)), (1000 * b ≠ 0), (inR IntKind.i64 (((1000 + r) * (ux * wx + uy * wy).tdiv sq * wx - d * (wx * uy - wy * ux).tdiv sq * wy).tdiv (1000 * b))), (inR IntKind.i64 ((1000 + r) * (ux * wx + uy * wy).tdiv sq * wy)), (inR IntKind.i64 (d * (wx * uy - wy * ux).tdiv sq * wx)), (inR IntKind.i64 ((1000 + r) * (ux * wx + uy * wy).tdiv sq * wy + d * (wx * uy - wy * ux).tdiv sq * wx)), (1000 * b ≠ 0), (inR IntKind.i64 (((1000 + r) * (ux * wx + uy * wy).tdiv sq * wy + d * (wx * uy - wy * ux).tdiv sq * wx).tdiv (1000 * b))), (Runs cfg cfg.L (.loop (loopOf cfg.P 139 0)) [V.fn (Fn.func 140) [V.ptr 3 0] [], V.fn (Fn.func 141) [V.ptr 3 0] [], V.raw (.tuple { toList := [] }), V.raw (.tuple { toList := [] }), V.raw (.tuple { toList := [] }), V.raw (.tuple { toList := [] }), V.raw (.tuple { toList := [] }), V.raw (.tuple { toList := [] })] [some { cells := [V.raw (.int .i64 wx), V.raw (.int .i64 wy), V.raw (.int .i64 sq), V.raw (.int .i64 ux), V.raw (.int .i64 uy), V.raw (.int .i64 b)], ty := 206 }, some { cells := [V.raw (.int .i64 r), V.raw (.int .i64 d)], ty := 56 }, some { cells := [V.raw (.int .i64 0), V.raw (.int .i64 0)], ty := 24 }, some { cells := [V.raw (.int .i64 wx), V.raw (.int .i64 wy), V.raw (.int .i64 sq), V.raw (.int .i64 ux), V.raw (.int .i64 uy), V.raw (.int .i64 b), V.raw (.int .i64 (((1000 + r) * (ux * wx + uy * wy).tdiv sq * wx - d * (wx * uy - wy * ux).tdiv sq * wy).tdiv (1000 * b))), V.raw (.int .i64 (((1000 + r) * (ux * wx + uy * wy).tdiv sq * wy + d * (wx * uy - wy * ux).tdiv sq * wx).tdiv (1000 * b)))], ty := 233 }] (Ex.exit 0) [V.fn (Fn.func 140) [V.ptr 3 0] [], V.fn (Fn.func 141) [V.ptr 3 0] [], V.raw (.tuple { toList := [] }), V.raw (.tuple { toList := [] }), V.any 4, V.any 5, V.any 6, V.raw (.tuple { toList := [] })] [some { cells := [V.raw (.int .i64 wx), V.raw (.int .i64 wy), V.raw (.int .i64 sq), V.raw (.int .i64 ux), V.raw (.int .i64 uy), V.raw (.int .i64 b)], ty := 206 }, some { cells := [V.raw (.int .i64 r), V.raw (.int .i64 d)], ty := 56 }, some { cells := [V.raw (.int .i64 0), V.raw (.int .i64 0)], ty := 24 }, some { cells := [V.raw (.int .i64 wx), V.raw (.int .i64 wy), V.raw (.int .i64 sq), V.raw (.int .i64 ux), V.raw (.int .i64 uy), V.raw (.int .i64 b), V.raw (.int .i64 (M.kx ux uy wx wy sq b r d)), V.raw (.int .i64 (M.ky ux uy wx wy sq b r d))], ty := 233 }])]) (by kernel_rfl) rfl rfl
    ⟨inR_i64 (by omega) (by omega), inR_i64 (by omega) (by omega), inR_i64 (by omega) (by omega), (by first | assumption | omega | (simp_all; done) | (simp_all; omega)), inR_i64 (by omega) (by omega), inR_i64 (by omega) (by omega), inR_i64 (by omega) (by omega), inR_i64 (by omega) (by omega), (by first | assumption | omega | (simp_all; done) | (simp_all; omega)), inR_i64 (by omega) (by omega), inR_i64 (by omega) (by omega), inR_i64 (by omega) (by omega), inR_i64 (by omega) (by omega), inR_i64 (by omega) (by omega), inR_i64 (by omega) (by omega), inR_i64 (by omega) (by omega), inR_i64 (by omega) (by omega), (by first | assumption | omega | (simp_all; done) | (simp_all; omega)), inR_i64 (by omega) (by omega), inR_i64 (by omega) (by omega), inR_i64 (by omega) (by omega), inR_i64 (by omega) (by omega), (by first | assumption | omega | (simp_all; done) | (simp_all; omega)), inR_i64 (by omega) (by omega), (runs_enter [4, 5, 6] (by kernel_rfl) (by kernel_rfl) (by kernel_rfl) (kl_loop wx wy sq ux uy b r d (M.k0x ux uy wx wy sq b r d) (M.k0y ux uy wx wy sq b r d) hb1 hb2 (by omega) (by omega) (by omega) (by omega) kx ky)), trivial⟩
end Go.Proofs.YteefjegampdpoaaDoor
end
section
namespace Go.Proofs.YteefjegampdpoaaDoor
open Go Go.RowKit Go.Proofs.YteefjegampdpoaaDoor.E
theorem turfSquare (x y u v : Int) (h1 : M.placeB x y = true) (h2 : M.placeB u v = true) : Ret cfg 136 [.raw (.agg #[.int .i64 x, .int .i64 y]), .raw (.agg #[.int .i64 u, .int .i64 v])] (.raw (.tuple #[.int .i64 (M.sq x y u v), .int .i64 0])) :=
  fn_of_calls (args := [.agg #[.int .i64 x, .int .i64 y], .agg #[.int .i64 u, .int .i64 v]]) fun w => Square_ok x y u v w (M.place_in h1) (M.place_in h2)
theorem kick_contract {wx wy sq ux uy b r d R : Int} (hs : sq = wx * wx + wy * wy) (hR : 1 ≤ R ∧ R ≤ 69632) (n1 : sq ≤ R * R) (n2 : 225 * R * R ≤ 256 * sq) (hb : 1 ≤ b ∧ b ≤ 1000) (hr : 0 ≤ r ∧ r ≤ 950) (hd : 0 ≤ d ∧ d ≤ 300) (hx : -(b * 16777216) ≤ ux ∧ ux ≤ b * 16777216) (hy : -(b * 16777216) ≤ uy ∧ uy ≤ b * 16777216) :
    Ret cfg 112 [.raw (.agg #[.int .i64 wx, .int .i64 wy, .int .i64 sq, .int .i64 ux, .int .i64 uy, .int .i64 b]), .raw (.agg #[.int .i64 r, .int .i64 d])] (.raw (.agg #[.int .i64 (M.kx ux uy wx wy sq b r d), .int .i64 (M.ky ux uy wx wy sq b r d)])) := by
  have hn : M.nearB (M.sq 0 0 wx wy) R = true := by
    have : M.sq 0 0 wx wy = sq := by rw [hs]; unfold M.sq; simp
    rw [this]
    simp [M.nearB, n1, n2]
  obtain ⟨h0, h1, h2⟩ := M.near_facts hn hR.1 hR.2
  have : M.sq 0 0 wx wy = sq := by rw [hs]; unfold M.sq; simp
  rw [this] at h0
  exact mkick wx wy sq ux uy b r d hs h0 hb.1 hb.2 hr.1 hr.2 hd.1 hd.2 hx.1 hx.2 hy.1 hy.2 (by omega) (by omega) (by omega) (by omega)
theorem kickOf_1 (m1 r1 a1 b1 u1 v1 p1 q1 m2 r2 a2 b2 u2 v2 p2 q2 rb dg : Int) (h1 : M.motB m1 r1 a1 b1 u1 v1 p1 q1 = true) (h2 : M.motB m2 r2 a2 b2 u2 v2 p2 q2 = true) (hx : M.bncB rb dg = true) (f0 : (r1 + r2) * (r1 + r2) < M.sq a1 b1 a2 b2) : Ret cfg 82 [.raw (.agg #[.int .i64 m1, .int .i64 r1, .int .i64 a1, .int .i64 b1, .int .i64 u1, .int .i64 v1, .int .i64 p1, .int .i64 q1]), .raw (.agg #[.int .i64 m2, .int .i64 r2, .int .i64 a2, .int .i64 b2, .int .i64 u2, .int .i64 v2, .int .i64 p2, .int .i64 q2]), .raw (.agg #[.int .i64 rb, .int .i64 dg])] (V.raw (.tuple { toList := [.agg { toList := [.int .i64 0, .int .i64 0] }, .int .i64 5] })) := by
  obtain ⟨⟨hm1, hr1⟩, ⟨ha1, hb1⟩, ⟨hu1, hv1⟩, ⟨hp1, hq1⟩⟩ := M.mot_facts h1
  obtain ⟨⟨hm2, hr2⟩, ⟨ha2, hb2⟩, ⟨hu2, hv2⟩, ⟨hp2, hq2⟩⟩ := M.mot_facts h2
  obtain ⟨hrb, hdg⟩ := M.bnc_facts hx
  obtain ⟨_, _, hux⟩ := M.urge_facts hm1 hm2 hu1 hu2
  obtain ⟨_, _, huy⟩ := M.urge_facts hm1 hm2 hv1 hv2
  obtain ⟨_, _, _⟩ := M.reach_facts (R := r1 + r2) (by omega) (by omega)
  obtain ⟨_, _, hc1, hc2⟩ := M.dot_facts (ux := m2 * u1 - m1 * u2) (uy := m2 * v1 - m1 * v2) (wx := a2 - a1) (wy := b2 - b1) (by omega) (by omega) (by omega) (by omega)
  have hsq := M.sq_bd ⟨ha1, hb1⟩ ⟨ha2, hb2⟩
  exact fn_of cfg_mixed cfg_call cfg_base.1 cfg_base.2.1 cfg_base.2.2 (n := 40) (ans := [Ans.go, Ans.go, Ans.go, Ans.olds [], Ans.go, Ans.go, Ans.go, Ans.olds [], Ans.go, Ans.go, Ans.olds [], Ans.go, Ans.go, Ans.go, Ans.ret (V.raw (.tuple { toList := [.int .i64 (M.sq a1 b1 a2 b2), .int .i64 0] })), Ans.br true, Ans.br true, Ans.br true, Ans.br true]) (cons := [(inR IntKind.i64 (m2 * u1)), (inR IntKind.i64 (m1 * u2)), (inR IntKind.i64 (m2 * u1 - m1 * u2)), (inR IntKind.i64 (m2 * v1)), (inR IntKind.i64 (m1 * v2)), (inR IntKind.i64 (m2 * v1 - m1 * v2)), (inR IntKind.i64 (m1 + m2)), (Ret cfg 136 [V.raw (.agg { toList := [.int .i64 a1, .int .i64 b1] }), V.raw (.agg { toList := [.int .i64 a2, .int .i64 b2] })] (V.raw (.tuple { toList := [.int .i64 (M.sq a1 b1 a2 b2), .int .i64 0] }))), (inR IntKind.i64 (r1 + r2)), (inR IntKind.i64 ((r1 + r2) * (r1 + r2))), (decide ((r1 + r2) * (r1 + r2) < M.sq a1 b1 a2 b2) = true), (true = true), (true = true), (true = true)]) (by kernel_rfl) rfl rfl
    ⟨inR_i64 (by omega) (by omega), inR_i64 (by omega) (by omega), inR_i64 (by omega) (by omega), inR_i64 (by omega) (by omega), inR_i64 (by omega) (by omega), inR_i64 (by omega) (by omega), inR_i64 (by omega) (by omega), (turfSquare _ _ _ _ (M.mot_place h1) (M.mot_place h2)), inR_i64 (by omega) (by omega), inR_i64 (by omega) (by omega), (by first | assumption | omega | (simp_all; done) | (simp_all; omega)), rfl, rfl, rfl, trivial⟩
theorem kickOf_2 (m1 r1 a1 b1 u1 v1 p1 q1 m2 r2 a2 b2 u2 v2 p2 q2 rb dg : Int) (h1 : M.motB m1 r1 a1 b1 u1 v1 p1 q1 = true) (h2 : M.motB m2 r2 a2 b2 u2 v2 p2 q2 = true) (hx : M.bncB rb dg = true) (f0 : ¬(r1 + r2) * (r1 + r2) < M.sq a1 b1 a2 b2) (f1 : 256 * M.sq a1 b1 a2 b2 < 225 * (r1 + r2) * (r1 + r2)) : Ret cfg 82 [.raw (.agg #[.int .i64 m1, .int .i64 r1, .int .i64 a1, .int .i64 b1, .int .i64 u1, .int .i64 v1, .int .i64 p1, .int .i64 q1]), .raw (.agg #[.int .i64 m2, .int .i64 r2, .int .i64 a2, .int .i64 b2, .int .i64 u2, .int .i64 v2, .int .i64 p2, .int .i64 q2]), .raw (.agg #[.int .i64 rb, .int .i64 dg])] (V.raw (.tuple { toList := [.agg { toList := [.int .i64 0, .int .i64 0] }, .int .i64 5] })) := by
  obtain ⟨⟨hm1, hr1⟩, ⟨ha1, hb1⟩, ⟨hu1, hv1⟩, ⟨hp1, hq1⟩⟩ := M.mot_facts h1
  obtain ⟨⟨hm2, hr2⟩, ⟨ha2, hb2⟩, ⟨hu2, hv2⟩, ⟨hp2, hq2⟩⟩ := M.mot_facts h2
  obtain ⟨hrb, hdg⟩ := M.bnc_facts hx
  obtain ⟨_, _, hux⟩ := M.urge_facts hm1 hm2 hu1 hu2
  obtain ⟨_, _, huy⟩ := M.urge_facts hm1 hm2 hv1 hv2
  obtain ⟨_, _, _⟩ := M.reach_facts (R := r1 + r2) (by omega) (by omega)
  obtain ⟨_, _, hc1, hc2⟩ := M.dot_facts (ux := m2 * u1 - m1 * u2) (uy := m2 * v1 - m1 * v2) (wx := a2 - a1) (wy := b2 - b1) (by omega) (by omega) (by omega) (by omega)
  have hsq := M.sq_bd ⟨ha1, hb1⟩ ⟨ha2, hb2⟩
  exact fn_of cfg_mixed cfg_call cfg_base.1 cfg_base.2.1 cfg_base.2.2 (n := 40) (ans := [Ans.go, Ans.go, Ans.go, Ans.olds [], Ans.go, Ans.go, Ans.go, Ans.olds [], Ans.go, Ans.go, Ans.olds [], Ans.go, Ans.go, Ans.go, Ans.ret (V.raw (.tuple { toList := [.int .i64 (M.sq a1 b1 a2 b2), .int .i64 0] })), Ans.br false, Ans.br false, Ans.br true, Ans.br true]) (cons := [(inR IntKind.i64 (m2 * u1)), (inR IntKind.i64 (m1 * u2)), (inR IntKind.i64 (m2 * u1 - m1 * u2)), (inR IntKind.i64 (m2 * v1)), (inR IntKind.i64 (m1 * v2)), (inR IntKind.i64 (m2 * v1 - m1 * v2)), (inR IntKind.i64 (m1 + m2)), (Ret cfg 136 [V.raw (.agg { toList := [.int .i64 a1, .int .i64 b1] }), V.raw (.agg { toList := [.int .i64 a2, .int .i64 b2] })] (V.raw (.tuple { toList := [.int .i64 (M.sq a1 b1 a2 b2), .int .i64 0] }))), (inR IntKind.i64 (r1 + r2)), (inR IntKind.i64 ((r1 + r2) * (r1 + r2))), (decide ((r1 + r2) * (r1 + r2) < M.sq a1 b1 a2 b2) = false), (inR IntKind.i64 (256 * M.sq a1 b1 a2 b2)), (inR IntKind.i64 (225 * (r1 + r2))), (inR IntKind.i64 (225 * (r1 + r2) * (r1 + r2))), (false = false), (decide (256 * M.sq a1 b1 a2 b2 < 225 * (r1 + r2) * (r1 + r2)) = true), (true = true)]) (by kernel_rfl) rfl rfl
    ⟨inR_i64 (by omega) (by omega), inR_i64 (by omega) (by omega), inR_i64 (by omega) (by omega), inR_i64 (by omega) (by omega), inR_i64 (by omega) (by omega), inR_i64 (by omega) (by omega), inR_i64 (by omega) (by omega), (turfSquare _ _ _ _ (M.mot_place h1) (M.mot_place h2)), inR_i64 (by omega) (by omega), inR_i64 (by omega) (by omega), (by first | assumption | omega | (simp_all; done) | (simp_all; omega)), inR_i64 (by omega) (by omega), inR_i64 (by omega) (by omega), inR_i64 (by omega) (by omega), rfl, (by first | assumption | omega | (simp_all; done) | (simp_all; omega)), rfl, trivial⟩
theorem kickOf_3 (m1 r1 a1 b1 u1 v1 p1 q1 m2 r2 a2 b2 u2 v2 p2 q2 rb dg : Int) (h1 : M.motB m1 r1 a1 b1 u1 v1 p1 q1 = true) (h2 : M.motB m2 r2 a2 b2 u2 v2 p2 q2 = true) (hx : M.bncB rb dg = true) (f0 : ¬(r1 + r2) * (r1 + r2) < M.sq a1 b1 a2 b2) (f1 : ¬256 * M.sq a1 b1 a2 b2 < 225 * (r1 + r2) * (r1 + r2)) (f2 : (m2 * u1 - m1 * u2) * (a2 - a1) + (m2 * v1 - m1 * v2) * (b2 - b1) ≤ 0) : Ret cfg 82 [.raw (.agg #[.int .i64 m1, .int .i64 r1, .int .i64 a1, .int .i64 b1, .int .i64 u1, .int .i64 v1, .int .i64 p1, .int .i64 q1]), .raw (.agg #[.int .i64 m2, .int .i64 r2, .int .i64 a2, .int .i64 b2, .int .i64 u2, .int .i64 v2, .int .i64 p2, .int .i64 q2]), .raw (.agg #[.int .i64 rb, .int .i64 dg])] (V.raw (.tuple { toList := [.agg { toList := [.int .i64 0, .int .i64 0] }, .int .i64 10] })) := by
  obtain ⟨⟨hm1, hr1⟩, ⟨ha1, hb1⟩, ⟨hu1, hv1⟩, ⟨hp1, hq1⟩⟩ := M.mot_facts h1
  obtain ⟨⟨hm2, hr2⟩, ⟨ha2, hb2⟩, ⟨hu2, hv2⟩, ⟨hp2, hq2⟩⟩ := M.mot_facts h2
  obtain ⟨hrb, hdg⟩ := M.bnc_facts hx
  obtain ⟨_, _, hux⟩ := M.urge_facts hm1 hm2 hu1 hu2
  obtain ⟨_, _, huy⟩ := M.urge_facts hm1 hm2 hv1 hv2
  obtain ⟨_, _, _⟩ := M.reach_facts (R := r1 + r2) (by omega) (by omega)
  obtain ⟨_, _, hc1, hc2⟩ := M.dot_facts (ux := m2 * u1 - m1 * u2) (uy := m2 * v1 - m1 * v2) (wx := a2 - a1) (wy := b2 - b1) (by omega) (by omega) (by omega) (by omega)
  have hsq := M.sq_bd ⟨ha1, hb1⟩ ⟨ha2, hb2⟩
  exact fn_of cfg_mixed cfg_call cfg_base.1 cfg_base.2.1 cfg_base.2.2 (n := 40) (ans := [Ans.go, Ans.go, Ans.go, Ans.olds [], Ans.go, Ans.go, Ans.go, Ans.olds [], Ans.go, Ans.go, Ans.olds [], Ans.go, Ans.go, Ans.go, Ans.ret (V.raw (.tuple { toList := [.int .i64 (M.sq a1 b1 a2 b2), .int .i64 0] })), Ans.br false, Ans.br false, Ans.br false, Ans.go, Ans.go, Ans.go, Ans.olds [], Ans.go, Ans.go, Ans.go, Ans.olds [], Ans.go, Ans.go, Ans.go, Ans.br true, Ans.br true]) (cons := [(inR IntKind.i64 (m2 * u1)), (inR IntKind.i64 (m1 * u2)), (inR IntKind.i64 (m2 * u1 - m1 * u2)), (inR IntKind.i64 (m2 * v1)), (inR IntKind.i64 (m1 * v2)), (inR IntKind.i64 (m2 * v1 - m1 * v2)), (inR IntKind.i64 (m1 + m2)), (Ret cfg 136 [V.raw (.agg { toList := [.int .i64 a1, .int .i64 b1] }), V.raw (.agg { toList := [.int .i64 a2, .int .i64 b2] })] (V.raw (.tuple { toList := [.int .i64 (M.sq a1 b1 a2 b2), .int .i64 0] }))), (inR IntKind.i64 (r1 + r2)), (inR IntKind.i64 ((r1 + r2) * (r1 + r2))), (decide ((r1 + r2) * (r1 + r2) < M.sq a1 b1 a2 b2) = false), (inR IntKind.i64 (256 * M.sq a1 b1 a2 b2)), (inR IntKind.i64 (225 * (r1 + r2))), (inR IntKind.i64 (225 * (r1 + r2) * (r1 + r2))), (false = false), (decide (256 * M.sq a1 b1 a2 b2 < 225 * (r1 + r2) * (r1 + r2)) = false), (inR IntKind.i64 (a2 - a1)), (inR IntKind.i64 (b2 - b1)), (inR IntKind.i64 ((m2 * u1 - m1 * u2) * (a2 - a1))), (inR IntKind.i64 ((m2 * v1 - m1 * v2) * (b2 - b1))), (inR IntKind.i64 ((m2 * u1 - m1 * u2) * (a2 - a1) + (m2 * v1 - m1 * v2) * (b2 - b1))), (decide ((m2 * u1 - m1 * u2) * (a2 - a1) + (m2 * v1 - m1 * v2) * (b2 - b1) ≤ 0) = true), (true = true)]) (by kernel_rfl) rfl rfl
    ⟨inR_i64 (by omega) (by omega), inR_i64 (by omega) (by omega), inR_i64 (by omega) (by omega), inR_i64 (by omega) (by omega), inR_i64 (by omega) (by omega), inR_i64 (by omega) (by omega), inR_i64 (by omega) (by omega), (turfSquare _ _ _ _ (M.mot_place h1) (M.mot_place h2)), inR_i64 (by omega) (by omega), inR_i64 (by omega) (by omega), (by first | assumption | omega | (simp_all; done) | (simp_all; omega)), inR_i64 (by omega) (by omega), inR_i64 (by omega) (by omega), inR_i64 (by omega) (by omega), rfl, (by first | assumption | omega | (simp_all; done) | (simp_all; omega)), inR_i64 (by omega) (by omega), inR_i64 (by omega) (by omega), inR_i64 (by omega) (by omega), inR_i64 (by omega) (by omega), inR_i64 (by omega) (by omega), (by first | assumption | omega | (simp_all; done) | (simp_all; omega)), rfl, trivial⟩
theorem kickOf_4 (m1 r1 a1 b1 u1 v1 p1 q1 m2 r2 a2 b2 u2 v2 p2 q2 rb dg : Int) (h1 : M.motB m1 r1 a1 b1 u1 v1 p1 q1 = true) (h2 : M.motB m2 r2 a2 b2 u2 v2 p2 q2 = true) (hx : M.bncB rb dg = true) (f0 : ¬(r1 + r2) * (r1 + r2) < M.sq a1 b1 a2 b2) (f1 : ¬256 * M.sq a1 b1 a2 b2 < 225 * (r1 + r2) * (r1 + r2)) (f2 : ¬(m2 * u1 - m1 * u2) * (a2 - a1) + (m2 * v1 - m1 * v2) * (b2 - b1) ≤ 0) : Ret cfg 82 [.raw (.agg #[.int .i64 m1, .int .i64 r1, .int .i64 a1, .int .i64 b1, .int .i64 u1, .int .i64 v1, .int .i64 p1, .int .i64 q1]), .raw (.agg #[.int .i64 m2, .int .i64 r2, .int .i64 a2, .int .i64 b2, .int .i64 u2, .int .i64 v2, .int .i64 p2, .int .i64 q2]), .raw (.agg #[.int .i64 rb, .int .i64 dg])] (V.raw (.tuple { toList := [.agg { toList := [.int .i64 (M.kx (m2 * u1 - m1 * u2) (m2 * v1 - m1 * v2) (a2 - a1) (b2 - b1) (M.sq a1 b1 a2 b2) (m1 + m2) rb dg), .int .i64 (M.ky (m2 * u1 - m1 * u2) (m2 * v1 - m1 * v2) (a2 - a1) (b2 - b1) (M.sq a1 b1 a2 b2) (m1 + m2) rb dg)] }, .int .i64 0] })) := by
  obtain ⟨⟨hm1, hr1⟩, ⟨ha1, hb1⟩, ⟨hu1, hv1⟩, ⟨hp1, hq1⟩⟩ := M.mot_facts h1
  obtain ⟨⟨hm2, hr2⟩, ⟨ha2, hb2⟩, ⟨hu2, hv2⟩, ⟨hp2, hq2⟩⟩ := M.mot_facts h2
  obtain ⟨hrb, hdg⟩ := M.bnc_facts hx
  obtain ⟨_, _, hux⟩ := M.urge_facts hm1 hm2 hu1 hu2
  obtain ⟨_, _, huy⟩ := M.urge_facts hm1 hm2 hv1 hv2
  obtain ⟨_, _, _⟩ := M.reach_facts (R := r1 + r2) (by omega) (by omega)
  obtain ⟨_, _, hc1, hc2⟩ := M.dot_facts (ux := m2 * u1 - m1 * u2) (uy := m2 * v1 - m1 * v2) (wx := a2 - a1) (wy := b2 - b1) (by omega) (by omega) (by omega) (by omega)
  have hsq := M.sq_bd ⟨ha1, hb1⟩ ⟨ha2, hb2⟩
  exact fn_of cfg_mixed cfg_call cfg_base.1 cfg_base.2.1 cfg_base.2.2 (n := 40) (ans := [Ans.go, Ans.go, Ans.go, Ans.olds [], Ans.go, Ans.go, Ans.go, Ans.olds [], Ans.go, Ans.go, Ans.olds [], Ans.go, Ans.go, Ans.go, Ans.ret (V.raw (.tuple { toList := [.int .i64 (M.sq a1 b1 a2 b2), .int .i64 0] })), Ans.br false, Ans.br false, Ans.br false, Ans.go, Ans.go, Ans.go, Ans.olds [], Ans.go, Ans.go, Ans.go, Ans.olds [], Ans.go, Ans.go, Ans.go, Ans.br false, Ans.br false, Ans.ret (V.raw (.agg { toList := [.int .i64 (M.kx (m2 * u1 - m1 * u2) (m2 * v1 - m1 * v2) (a2 - a1) (b2 - b1) (M.sq a1 b1 a2 b2) (m1 + m2) rb dg), .int .i64 (M.ky (m2 * u1 - m1 * u2) (m2 * v1 - m1 * v2) (a2 - a1) (b2 - b1) (M.sq a1 b1 a2 b2) (m1 + m2) rb dg)] }))]) (cons := [(inR IntKind.i64 (m2 * u1)), (inR IntKind.i64 (m1 * u2)), (inR IntKind.i64 (m2 * u1 - m1 * u2)), (inR IntKind.i64 (m2 * v1)), (inR IntKind.i64 (m1 * v2)), (inR IntKind.i64 (m2 * v1 - m1 * v2)), (inR IntKind.i64 (m1 + m2)), (Ret cfg 136 [V.raw (.agg { toList := [.int .i64 a1, .int .i64 b1] }), V.raw (.agg { toList := [.int .i64 a2, .int .i64 b2] })] (V.raw (.tuple { toList := [.int .i64 (M.sq a1 b1 a2 b2), .int .i64 0] }))), (inR IntKind.i64 (r1 + r2)), (inR IntKind.i64 ((r1 + r2) * (r1 + r2))), (decide ((r1 + r2) * (r1 + r2) < M.sq a1 b1 a2 b2) = false), (inR IntKind.i64 (256 * M.sq a1 b1 a2 b2)), (inR IntKind.i64 (225 * (r1 + r2))), (inR IntKind.i64 (225 * (r1 + r2) * (r1 + r2))), (false = false), (decide (256 * M.sq a1 b1 a2 b2 < 225 * (r1 + r2) * (r1 + r2)) = false), (inR IntKind.i64 (a2 - a1)), (inR IntKind.i64 (b2 - b1)), (inR IntKind.i64 ((m2 * u1 - m1 * u2) * (a2 - a1))), (inR IntKind.i64 ((m2 * v1 - m1 * v2) * (b2 - b1))), (inR IntKind.i64 ((m2 * u1 - m1 * u2) * (a2 - a1) + (m2 * v1 - m1 * v2) * (b2 - b1))), (decide ((m2 * u1 - m1 * u2) * (a2 - a1) + (m2 * v1 - m1 * v2) * (b2 - b1) ≤ 0) = false), (false = false), (Ret cfg 112 [V.raw (.agg { toList := [.int .i64 (a2 - a1), .int .i64 (b2 - b1), .int .i64 (M.sq a1 b1 a2 b2), .int .i64 (m2 * u1 - m1 * u2), .int .i64 (m2 * v1 - m1 * v2), .int .i64 (m1 + m2)] }), V.raw (.agg { toList := [.int .i64 rb, .int .i64 dg] })] (V.raw (.agg { toList := [.int .i64 (M.kx (m2 * u1 - m1 * u2) (m2 * v1 - m1 * v2) (a2 - a1) (b2 - b1) (M.sq a1 b1 a2 b2) (m1 + m2) rb dg), .int .i64 (M.ky (m2 * u1 - m1 * u2) (m2 * v1 - m1 * v2) (a2 - a1) (b2 - b1) (M.sq a1 b1 a2 b2) (m1 + m2) rb dg)] })))]) (by kernel_rfl) rfl rfl
    ⟨inR_i64 (by omega) (by omega), inR_i64 (by omega) (by omega), inR_i64 (by omega) (by omega), inR_i64 (by omega) (by omega), inR_i64 (by omega) (by omega), inR_i64 (by omega) (by omega), inR_i64 (by omega) (by omega), (turfSquare _ _ _ _ (M.mot_place h1) (M.mot_place h2)), inR_i64 (by omega) (by omega), inR_i64 (by omega) (by omega), (by first | assumption | omega | (simp_all; done) | (simp_all; omega)), inR_i64 (by omega) (by omega), inR_i64 (by omega) (by omega), inR_i64 (by omega) (by omega), rfl, (by first | assumption | omega | (simp_all; done) | (simp_all; omega)), inR_i64 (by omega) (by omega), inR_i64 (by omega) (by omega), inR_i64 (by omega) (by omega), inR_i64 (by omega) (by omega), inR_i64 (by omega) (by omega), (by first | assumption | omega | (simp_all; done) | (simp_all; omega)), rfl, (kick_contract rfl (R := r1 + r2) (by omega) (by omega) (by omega) (by omega) hrb hdg hux huy), trivial⟩
theorem kickOf (m1 r1 a1 b1 u1 v1 p1 q1 m2 r2 a2 b2 u2 v2 p2 q2 rb dg : Int) (h1 : M.motB m1 r1 a1 b1 u1 v1 p1 q1 = true) (h2 : M.motB m2 r2 a2 b2 u2 v2 p2 q2 = true) (hx : M.bncB rb dg = true) : Ret cfg 82 [.raw (.agg #[.int .i64 m1, .int .i64 r1, .int .i64 a1, .int .i64 b1, .int .i64 u1, .int .i64 v1, .int .i64 p1, .int .i64 q1]), .raw (.agg #[.int .i64 m2, .int .i64 r2, .int .i64 a2, .int .i64 b2, .int .i64 u2, .int .i64 v2, .int .i64 p2, .int .i64 q2]), .raw (.agg #[.int .i64 rb, .int .i64 dg])] (.raw (.tuple #[.agg #[.int .i64 (M.KX m1 r1 a1 b1 u1 v1 p1 q1 m2 r2 a2 b2 u2 v2 p2 q2 rb dg), .int .i64 (M.KY m1 r1 a1 b1 u1 v1 p1 q1 m2 r2 a2 b2 u2 v2 p2 q2 rb dg)], .int .i64 (M.KE m1 r1 a1 b1 u1 v1 p1 q1 m2 r2 a2 b2 u2 v2 p2 q2 rb dg)])) := by
  obtain ⟨⟨hm1, hr1⟩, ⟨ha1, hb1⟩, ⟨hu1, hv1⟩, ⟨hp1, hq1⟩⟩ := M.mot_facts h1
  obtain ⟨⟨hm2, hr2⟩, ⟨ha2, hb2⟩, ⟨hu2, hv2⟩, ⟨hp2, hq2⟩⟩ := M.mot_facts h2
  obtain ⟨hrb, hdg⟩ := M.bnc_facts hx
  obtain ⟨_, _, hux⟩ := M.urge_facts hm1 hm2 hu1 hu2
  obtain ⟨_, _, huy⟩ := M.urge_facts hm1 hm2 hv1 hv2
  obtain ⟨_, _, _⟩ := M.reach_facts (R := r1 + r2) (by omega) (by omega)
  obtain ⟨_, _, hc1, hc2⟩ := M.dot_facts (ux := m2 * u1 - m1 * u2) (uy := m2 * v1 - m1 * v2) (wx := a2 - a1) (wy := b2 - b1) (by omega) (by omega) (by omega) (by omega)
  have hsq := M.sq_bd ⟨ha1, hb1⟩ ⟨ha2, hb2⟩
  by_cases f0 : (r1 + r2) * (r1 + r2) < M.sq a1 b1 a2 b2
  ·
    have e : (.raw (.tuple #[.agg #[.int .i64 (M.KX m1 r1 a1 b1 u1 v1 p1 q1 m2 r2 a2 b2 u2 v2 p2 q2 rb dg), .int .i64 (M.KY m1 r1 a1 b1 u1 v1 p1 q1 m2 r2 a2 b2 u2 v2 p2 q2 rb dg)], .int .i64 (M.KE m1 r1 a1 b1 u1 v1 p1 q1 m2 r2 a2 b2 u2 v2 p2 q2 rb dg)]) : V) = V.raw (.tuple { toList := [.agg { toList := [.int .i64 0, .int .i64 0] }, .int .i64 5] }) := by (simp_all [M.KX, M.KY, M.KE, M.kickE, M.nearB]; try omega)
    rw [e]
    exact kickOf_1 m1 r1 a1 b1 u1 v1 p1 q1 m2 r2 a2 b2 u2 v2 p2 q2 rb dg h1 h2 hx f0
  ·
    by_cases f1 : 256 * M.sq a1 b1 a2 b2 < 225 * (r1 + r2) * (r1 + r2)
    ·
      have e : (.raw (.tuple #[.agg #[.int .i64 (M.KX m1 r1 a1 b1 u1 v1 p1 q1 m2 r2 a2 b2 u2 v2 p2 q2 rb dg), .int .i64 (M.KY m1 r1 a1 b1 u1 v1 p1 q1 m2 r2 a2 b2 u2 v2 p2 q2 rb dg)], .int .i64 (M.KE m1 r1 a1 b1 u1 v1 p1 q1 m2 r2 a2 b2 u2 v2 p2 q2 rb dg)]) : V) = V.raw (.tuple { toList := [.agg { toList := [.int .i64 0, .int .i64 0] }, .int .i64 5] }) := by (simp_all [M.KX, M.KY, M.KE, M.kickE, M.nearB]; try omega)
      rw [e]
      exact kickOf_2 m1 r1 a1 b1 u1 v1 p1 q1 m2 r2 a2 b2 u2 v2 p2 q2 rb dg h1 h2 hx f0 f1
    ·
      by_cases f2 : (m2 * u1 - m1 * u2) * (a2 - a1) + (m2 * v1 - m1 * v2) * (b2 - b1) ≤ 0
      ·
        have e : (.raw (.tuple #[.agg #[.int .i64 (M.KX m1 r1 a1 b1 u1 v1 p1 q1 m2 r2 a2 b2 u2 v2 p2 q2 rb dg), .int .i64 (M.KY m1 r1 a1 b1 u1 v1 p1 q1 m2 r2 a2 b2 u2 v2 p2 q2 rb dg)], .int .i64 (M.KE m1 r1 a1 b1 u1 v1 p1 q1 m2 r2 a2 b2 u2 v2 p2 q2 rb dg)]) : V) = V.raw (.tuple { toList := [.agg { toList := [.int .i64 0, .int .i64 0] }, .int .i64 10] }) := by (simp_all [M.KX, M.KY, M.KE, M.kickE, M.nearB]; try omega)
        rw [e]
        exact kickOf_3 m1 r1 a1 b1 u1 v1 p1 q1 m2 r2 a2 b2 u2 v2 p2 q2 rb dg h1 h2 hx f0 f1 f2
      ·
        have e : (.raw (.tuple #[.agg #[.int .i64 (M.KX m1 r1 a1 b1 u1 v1 p1 q1 m2 r2 a2 b2 u2 v2 p2 q2 rb dg), .int .i64 (M.KY m1 r1 a1 b1 u1 v1 p1 q1 m2 r2 a2 b2 u2 v2 p2 q2 rb dg)], .int .i64 (M.KE m1 r1 a1 b1 u1 v1 p1 q1 m2 r2 a2 b2 u2 v2 p2 q2 rb dg)]) : V) = V.raw (.tuple { toList := [.agg { toList := [.int .i64 (M.kx (m2 * u1 - m1 * u2) (m2 * v1 - m1 * v2) (a2 - a1) (b2 - b1) (M.sq a1 b1 a2 b2) (m1 + m2) rb dg), .int .i64 (M.ky (m2 * u1 - m1 * u2) (m2 * v1 - m1 * v2) (a2 - a1) (b2 - b1) (M.sq a1 b1 a2 b2) (m1 + m2) rb dg)] }, .int .i64 0] }) := by (simp_all [M.KX, M.KY, M.KE, M.kickE, M.nearB]; try omega)
        rw [e]
        exact kickOf_4 m1 r1 a1 b1 u1 v1 p1 q1 m2 r2 a2 b2 u2 v2 p2 q2 rb dg h1 h2 hx f0 f1 f2
end Go.Proofs.YteefjegampdpoaaDoor
end
section
namespace Go.Proofs.YteefjegampdpoaaDoor
open Go Go.RowKit Go.Proofs.YteefjegampdpoaaDoor.E
theorem bounced_1 (m1 r1 a1 b1 u1 v1 p1 q1 m2 r2 a2 b2 u2 v2 p2 q2 rb dg : Int) (h1 : M.motB m1 r1 a1 b1 u1 v1 p1 q1 = true) (h2 : M.motB m2 r2 a2 b2 u2 v2 p2 q2 = true) (hx : M.bncB rb dg = true) (f0 : ¬M.KE m1 r1 a1 b1 u1 v1 p1 q1 m2 r2 a2 b2 u2 v2 p2 q2 rb dg = 0) : Ret cfg 47 [.raw (.agg #[.int .i64 m1, .int .i64 r1, .int .i64 a1, .int .i64 b1, .int .i64 u1, .int .i64 v1, .int .i64 p1, .int .i64 q1]), .raw (.agg #[.int .i64 m2, .int .i64 r2, .int .i64 a2, .int .i64 b2, .int .i64 u2, .int .i64 v2, .int .i64 p2, .int .i64 q2]), .raw (.agg #[.int .i64 rb, .int .i64 dg])] (V.raw (.tuple { toList := [.agg { toList := [.int .i64 0, .int .i64 0, .int .i64 0, .int .i64 0, .int .i64 0, .int .i64 0, .int .i64 0, .int .i64 0] }, .agg { toList := [.int .i64 0, .int .i64 0, .int .i64 0, .int .i64 0, .int .i64 0, .int .i64 0, .int .i64 0, .int .i64 0] }, .int .i64 (M.KE m1 r1 a1 b1 u1 v1 p1 q1 m2 r2 a2 b2 u2 v2 p2 q2 rb dg)] })) := by
  have hk := M.K_bd m1 r1 a1 b1 u1 v1 p1 q1 m2 r2 a2 b2 u2 v2 p2 q2 rb dg
  obtain ⟨⟨hm1, hr1⟩, ⟨ha1, hb1⟩, ⟨hu1, hv1⟩, ⟨hp1, hq1⟩⟩ := M.mot_facts h1
  obtain ⟨⟨hm2, hr2⟩, ⟨ha2, hb2⟩, ⟨hu2, hv2⟩, ⟨hp2, hq2⟩⟩ := M.mot_facts h2
  exact fn_of cfg_mixed cfg_call cfg_base.1 cfg_base.2.1 cfg_base.2.2 (n := 40) (ans := [Ans.go, Ans.ret (V.raw (.tuple { toList := [.agg { toList := [.int .i64 (M.KX m1 r1 a1 b1 u1 v1 p1 q1 m2 r2 a2 b2 u2 v2 p2 q2 rb dg), .int .i64 (M.KY m1 r1 a1 b1 u1 v1 p1 q1 m2 r2 a2 b2 u2 v2 p2 q2 rb dg)] }, .int .i64 (M.KE m1 r1 a1 b1 u1 v1 p1 q1 m2 r2 a2 b2 u2 v2 p2 q2 rb dg)] })), Ans.br true]) (cons := [(Ret cfg 82 [V.raw (.agg { toList := [.int .i64 m1, .int .i64 r1, .int .i64 a1, .int .i64 b1, .int .i64 u1, .int .i64 v1, .int .i64 p1, .int .i64 q1] }), V.raw (.agg { toList := [.int .i64 m2, .int .i64 r2, .int .i64 a2, .int .i64 b2, .int .i64 u2, .int .i64 v2, .int .i64 p2, .int .i64 q2] }), V.raw (.agg { toList := [.int .i64 rb, .int .i64 dg] })] (V.raw (.tuple { toList := [.agg { toList := [.int .i64 (M.KX m1 r1 a1 b1 u1 v1 p1 q1 m2 r2 a2 b2 u2 v2 p2 q2 rb dg), .int .i64 (M.KY m1 r1 a1 b1 u1 v1 p1 q1 m2 r2 a2 b2 u2 v2 p2 q2 rb dg)] }, .int .i64 (M.KE m1 r1 a1 b1 u1 v1 p1 q1 m2 r2 a2 b2 u2 v2 p2 q2 rb dg)] }))), ((!decide (M.KE m1 r1 a1 b1 u1 v1 p1 q1 m2 r2 a2 b2 u2 v2 p2 q2 rb dg = 0)) = true)]) (by kernel_rfl) rfl rfl
    ⟨(kickOf _ _ _ _ _ _ _ _ _ _ _ _ _ _ _ _ _ _ h1 h2 hx), (by first | assumption | omega | (simp_all; done) | (simp_all; omega)), trivial⟩
theorem bounced_2 (m1 r1 a1 b1 u1 v1 p1 q1 m2 r2 a2 b2 u2 v2 p2 q2 rb dg : Int) (h1 : M.motB m1 r1 a1 b1 u1 v1 p1 q1 = true) (h2 : M.motB m2 r2 a2 b2 u2 v2 p2 q2 = true) (hx : M.bncB rb dg = true) (f0 : M.KE m1 r1 a1 b1 u1 v1 p1 q1 m2 r2 a2 b2 u2 v2 p2 q2 rb dg = 0) (f1 : M.momB (u1 - M.KX m1 r1 a1 b1 u1 v1 p1 q1 m2 r2 a2 b2 u2 v2 p2 q2 rb dg) (v1 - M.KY m1 r1 a1 b1 u1 v1 p1 q1 m2 r2 a2 b2 u2 v2 p2 q2 rb dg) = false) : Ret cfg 47 [.raw (.agg #[.int .i64 m1, .int .i64 r1, .int .i64 a1, .int .i64 b1, .int .i64 u1, .int .i64 v1, .int .i64 p1, .int .i64 q1]), .raw (.agg #[.int .i64 m2, .int .i64 r2, .int .i64 a2, .int .i64 b2, .int .i64 u2, .int .i64 v2, .int .i64 p2, .int .i64 q2]), .raw (.agg #[.int .i64 rb, .int .i64 dg])] (V.raw (.tuple { toList := [.agg { toList := [.int .i64 0, .int .i64 0, .int .i64 0, .int .i64 0, .int .i64 0, .int .i64 0, .int .i64 0, .int .i64 0] }, .agg { toList := [.int .i64 0, .int .i64 0, .int .i64 0, .int .i64 0, .int .i64 0, .int .i64 0, .int .i64 0, .int .i64 0] }, .int .i64 4] })) := by
  have hk := M.K_bd m1 r1 a1 b1 u1 v1 p1 q1 m2 r2 a2 b2 u2 v2 p2 q2 rb dg
  obtain ⟨⟨hm1, hr1⟩, ⟨ha1, hb1⟩, ⟨hu1, hv1⟩, ⟨hp1, hq1⟩⟩ := M.mot_facts h1
  obtain ⟨⟨hm2, hr2⟩, ⟨ha2, hb2⟩, ⟨hu2, hv2⟩, ⟨hp2, hq2⟩⟩ := M.mot_facts h2
  exact fn_of cfg_mixed cfg_call cfg_base.1 cfg_base.2.1 cfg_base.2.2 (n := 40) (ans := [Ans.go, Ans.ret (V.raw (.tuple { toList := [.agg { toList := [.int .i64 (M.KX m1 r1 a1 b1 u1 v1 p1 q1 m2 r2 a2 b2 u2 v2 p2 q2 rb dg), .int .i64 (M.KY m1 r1 a1 b1 u1 v1 p1 q1 m2 r2 a2 b2 u2 v2 p2 q2 rb dg)] }, .int .i64 (M.KE m1 r1 a1 b1 u1 v1 p1 q1 m2 r2 a2 b2 u2 v2 p2 q2 rb dg)] })), Ans.br false, Ans.olds [(15, 1), (12, 0)], Ans.go, Ans.go, Ans.go, Ans.olds [], Ans.go, Ans.go, Ans.go, Ans.olds [], Ans.go, Ans.go, Ans.go, Ans.go, Ans.go, Ans.olds [], Ans.go, Ans.go, Ans.go, Ans.olds [], Ans.go, Ans.go, Ans.ret (V.raw (.bool (M.momB (u1 - M.KX m1 r1 a1 b1 u1 v1 p1 q1 m2 r2 a2 b2 u2 v2 p2 q2 rb dg) (v1 - M.KY m1 r1 a1 b1 u1 v1 p1 q1 m2 r2 a2 b2 u2 v2 p2 q2 rb dg)))), Ans.br true, Ans.br true, Ans.br true]) (cons := [(Ret cfg 82 [V.raw (.agg { toList := [.int .i64 m1, .int .i64 r1, .int .i64 a1, .int .i64 b1, .int .i64 u1, .int .i64 v1, .int .i64 p1, .int .i64 q1] }), V.raw (.agg { toList := [.int .i64 m2, .int .i64 r2, .int .i64 a2, .int .i64 b2, .int .i64 u2, .int .i64 v2, .int .i64 p2, .int .i64 q2] }), V.raw (.agg { toList := [.int .i64 rb, .int .i64 dg] })] (V.raw (.tuple { toList := [.agg { toList := [.int .i64 (M.KX m1 r1 a1 b1 u1 v1 p1 q1 m2 r2 a2 b2 u2 v2 p2 q2 rb dg), .int .i64 (M.KY m1 r1 a1 b1 u1 v1 p1 q1 m2 r2 a2 b2 u2 v2 p2 q2 rb dg)] }, .int .i64 (M.KE m1 r1 a1 b1 u1 v1 p1 q1 m2 r2 a2 b2 u2 v2 p2 q2 rb dg)] }))), ((!decide (M.KE m1 r1 a1 b1 u1 v1 p1 q1 m2 r2 a2 b2 u2 v2 p2 q2 rb dg = 0)) = false), (inR IntKind.i64 (u1 - M.KX m1 r1 a1 b1 u1 v1 p1 q1 m2 r2 a2 b2 u2 v2 p2 q2 rb dg)), (inR IntKind.i64 (v1 - M.KY m1 r1 a1 b1 u1 v1 p1 q1 m2 r2 a2 b2 u2 v2 p2 q2 rb dg)), (inR IntKind.i64 (u2 + M.KX m1 r1 a1 b1 u1 v1 p1 q1 m2 r2 a2 b2 u2 v2 p2 q2 rb dg)), (inR IntKind.i64 (v2 + M.KY m1 r1 a1 b1 u1 v1 p1 q1 m2 r2 a2 b2 u2 v2 p2 q2 rb dg)), (Ret cfg 85 [V.raw (.agg { toList := [.int .i64 (u1 - M.KX m1 r1 a1 b1 u1 v1 p1 q1 m2 r2 a2 b2 u2 v2 p2 q2 rb dg), .int .i64 (v1 - M.KY m1 r1 a1 b1 u1 v1 p1 q1 m2 r2 a2 b2 u2 v2 p2 q2 rb dg)] })] (V.raw (.bool (M.momB (u1 - M.KX m1 r1 a1 b1 u1 v1 p1 q1 m2 r2 a2 b2 u2 v2 p2 q2 rb dg) (v1 - M.KY m1 r1 a1 b1 u1 v1 p1 q1 m2 r2 a2 b2 u2 v2 p2 q2 rb dg))))), ((!M.momB (u1 - M.KX m1 r1 a1 b1 u1 v1 p1 q1 m2 r2 a2 b2 u2 v2 p2 q2 rb dg) (v1 - M.KY m1 r1 a1 b1 u1 v1 p1 q1 m2 r2 a2 b2 u2 v2 p2 q2 rb dg)) = true), (true = true), (true = true)]) (by kernel_rfl) rfl rfl
    ⟨(kickOf _ _ _ _ _ _ _ _ _ _ _ _ _ _ _ _ _ _ h1 h2 hx), (by first | assumption | omega | (simp_all; done) | (simp_all; omega)), inR_i64 (by omega) (by omega), inR_i64 (by omega) (by omega), inR_i64 (by omega) (by omega), inR_i64 (by omega) (by omega), (isMomentum _ _), (by first | assumption | omega | (simp_all; done) | (simp_all; omega)), rfl, rfl, trivial⟩
theorem bounced_3 (m1 r1 a1 b1 u1 v1 p1 q1 m2 r2 a2 b2 u2 v2 p2 q2 rb dg : Int) (h1 : M.motB m1 r1 a1 b1 u1 v1 p1 q1 = true) (h2 : M.motB m2 r2 a2 b2 u2 v2 p2 q2 = true) (hx : M.bncB rb dg = true) (f0 : M.KE m1 r1 a1 b1 u1 v1 p1 q1 m2 r2 a2 b2 u2 v2 p2 q2 rb dg = 0) (f1 : M.momB (u1 - M.KX m1 r1 a1 b1 u1 v1 p1 q1 m2 r2 a2 b2 u2 v2 p2 q2 rb dg) (v1 - M.KY m1 r1 a1 b1 u1 v1 p1 q1 m2 r2 a2 b2 u2 v2 p2 q2 rb dg) = true) (f2 : M.momB (u2 + M.KX m1 r1 a1 b1 u1 v1 p1 q1 m2 r2 a2 b2 u2 v2 p2 q2 rb dg) (v2 + M.KY m1 r1 a1 b1 u1 v1 p1 q1 m2 r2 a2 b2 u2 v2 p2 q2 rb dg) = false) : Ret cfg 47 [.raw (.agg #[.int .i64 m1, .int .i64 r1, .int .i64 a1, .int .i64 b1, .int .i64 u1, .int .i64 v1, .int .i64 p1, .int .i64 q1]), .raw (.agg #[.int .i64 m2, .int .i64 r2, .int .i64 a2, .int .i64 b2, .int .i64 u2, .int .i64 v2, .int .i64 p2, .int .i64 q2]), .raw (.agg #[.int .i64 rb, .int .i64 dg])] (V.raw (.tuple { toList := [.agg { toList := [.int .i64 0, .int .i64 0, .int .i64 0, .int .i64 0, .int .i64 0, .int .i64 0, .int .i64 0, .int .i64 0] }, .agg { toList := [.int .i64 0, .int .i64 0, .int .i64 0, .int .i64 0, .int .i64 0, .int .i64 0, .int .i64 0, .int .i64 0] }, .int .i64 4] })) := by
  have hk := M.K_bd m1 r1 a1 b1 u1 v1 p1 q1 m2 r2 a2 b2 u2 v2 p2 q2 rb dg
  obtain ⟨⟨hm1, hr1⟩, ⟨ha1, hb1⟩, ⟨hu1, hv1⟩, ⟨hp1, hq1⟩⟩ := M.mot_facts h1
  obtain ⟨⟨hm2, hr2⟩, ⟨ha2, hb2⟩, ⟨hu2, hv2⟩, ⟨hp2, hq2⟩⟩ := M.mot_facts h2
  exact fn_of cfg_mixed cfg_call cfg_base.1 cfg_base.2.1 cfg_base.2.2 (n := 40) (ans := [Ans.go, Ans.ret (V.raw (.tuple { toList := [.agg { toList := [.int .i64 (M.KX m1 r1 a1 b1 u1 v1 p1 q1 m2 r2 a2 b2 u2 v2 p2 q2 rb dg), .int .i64 (M.KY m1 r1 a1 b1 u1 v1 p1 q1 m2 r2 a2 b2 u2 v2 p2 q2 rb dg)] }, .int .i64 (M.KE m1 r1 a1 b1 u1 v1 p1 q1 m2 r2 a2 b2 u2 v2 p2 q2 rb dg)] })), Ans.br false, Ans.olds [(15, 1), (12, 0)], Ans.go, Ans.go, Ans.go, Ans.olds [], Ans.go, Ans.go, Ans.go, Ans.olds [], Ans.go, Ans.go, Ans.go, Ans.go, Ans.go, Ans.olds [], Ans.go, Ans.go, Ans.go, Ans.olds [], Ans.go, Ans.go, Ans.ret (V.raw (.bool (M.momB (u1 - M.KX m1 r1 a1 b1 u1 v1 p1 q1 m2 r2 a2 b2 u2 v2 p2 q2 rb dg) (v1 - M.KY m1 r1 a1 b1 u1 v1 p1 q1 m2 r2 a2 b2 u2 v2 p2 q2 rb dg)))), Ans.br false, Ans.ret (V.raw (.bool (M.momB (u2 + M.KX m1 r1 a1 b1 u1 v1 p1 q1 m2 r2 a2 b2 u2 v2 p2 q2 rb dg) (v2 + M.KY m1 r1 a1 b1 u1 v1 p1 q1 m2 r2 a2 b2 u2 v2 p2 q2 rb dg)))), Ans.br false, Ans.br true]) (cons := [(Ret cfg 82 [V.raw (.agg { toList := [.int .i64 m1, .int .i64 r1, .int .i64 a1, .int .i64 b1, .int .i64 u1, .int .i64 v1, .int .i64 p1, .int .i64 q1] }), V.raw (.agg { toList := [.int .i64 m2, .int .i64 r2, .int .i64 a2, .int .i64 b2, .int .i64 u2, .int .i64 v2, .int .i64 p2, .int .i64 q2] }), V.raw (.agg { toList := [.int .i64 rb, .int .i64 dg] })] (V.raw (.tuple { toList := [.agg { toList := [.int .i64 (M.KX m1 r1 a1 b1 u1 v1 p1 q1 m2 r2 a2 b2 u2 v2 p2 q2 rb dg), .int .i64 (M.KY m1 r1 a1 b1 u1 v1 p1 q1 m2 r2 a2 b2 u2 v2 p2 q2 rb dg)] }, .int .i64 (M.KE m1 r1 a1 b1 u1 v1 p1 q1 m2 r2 a2 b2 u2 v2 p2 q2 rb dg)] }))), ((!decide (M.KE m1 r1 a1 b1 u1 v1 p1 q1 m2 r2 a2 b2 u2 v2 p2 q2 rb dg = 0)) = false), (inR IntKind.i64 (u1 - M.KX m1 r1 a1 b1 u1 v1 p1 q1 m2 r2 a2 b2 u2 v2 p2 q2 rb dg)), (inR IntKind.i64 (v1 - M.KY m1 r1 a1 b1 u1 v1 p1 q1 m2 r2 a2 b2 u2 v2 p2 q2 rb dg)), (inR IntKind.i64 (u2 + M.KX m1 r1 a1 b1 u1 v1 p1 q1 m2 r2 a2 b2 u2 v2 p2 q2 rb dg)), (inR IntKind.i64 (v2 + M.KY m1 r1 a1 b1 u1 v1 p1 q1 m2 r2 a2 b2 u2 v2 p2 q2 rb dg)), (Ret cfg 85 [V.raw (.agg { toList := [.int .i64 (u1 - M.KX m1 r1 a1 b1 u1 v1 p1 q1 m2 r2 a2 b2 u2 v2 p2 q2 rb dg), .int .i64 (v1 - M.KY m1 r1 a1 b1 u1 v1 p1 q1 m2 r2 a2 b2 u2 v2 p2 q2 rb dg)] })] (V.raw (.bool (M.momB (u1 - M.KX m1 r1 a1 b1 u1 v1 p1 q1 m2 r2 a2 b2 u2 v2 p2 q2 rb dg) (v1 - M.KY m1 r1 a1 b1 u1 v1 p1 q1 m2 r2 a2 b2 u2 v2 p2 q2 rb dg))))), ((!M.momB (u1 - M.KX m1 r1 a1 b1 u1 v1 p1 q1 m2 r2 a2 b2 u2 v2 p2 q2 rb dg) (v1 - M.KY m1 r1 a1 b1 u1 v1 p1 q1 m2 r2 a2 b2 u2 v2 p2 q2 rb dg)) = false), (Ret cfg 85 [V.raw (.agg { toList := [.int .i64 (u2 + M.KX m1 r1 a1 b1 u1 v1 p1 q1 m2 r2 a2 b2 u2 v2 p2 q2 rb dg), .int .i64 (v2 + M.KY m1 r1 a1 b1 u1 v1 p1 q1 m2 r2 a2 b2 u2 v2 p2 q2 rb dg)] })] (V.raw (.bool (M.momB (u2 + M.KX m1 r1 a1 b1 u1 v1 p1 q1 m2 r2 a2 b2 u2 v2 p2 q2 rb dg) (v2 + M.KY m1 r1 a1 b1 u1 v1 p1 q1 m2 r2 a2 b2 u2 v2 p2 q2 rb dg))))), (false = false), ((!M.momB (u2 + M.KX m1 r1 a1 b1 u1 v1 p1 q1 m2 r2 a2 b2 u2 v2 p2 q2 rb dg) (v2 + M.KY m1 r1 a1 b1 u1 v1 p1 q1 m2 r2 a2 b2 u2 v2 p2 q2 rb dg)) = true)]) (by kernel_rfl) rfl rfl
    ⟨(kickOf _ _ _ _ _ _ _ _ _ _ _ _ _ _ _ _ _ _ h1 h2 hx), (by first | assumption | omega | (simp_all; done) | (simp_all; omega)), inR_i64 (by omega) (by omega), inR_i64 (by omega) (by omega), inR_i64 (by omega) (by omega), inR_i64 (by omega) (by omega), (isMomentum _ _), (by first | assumption | omega | (simp_all; done) | (simp_all; omega)), (isMomentum _ _), rfl, (by first | assumption | omega | (simp_all; done) | (simp_all; omega)), trivial⟩
theorem bounced_4 (m1 r1 a1 b1 u1 v1 p1 q1 m2 r2 a2 b2 u2 v2 p2 q2 rb dg : Int) (h1 : M.motB m1 r1 a1 b1 u1 v1 p1 q1 = true) (h2 : M.motB m2 r2 a2 b2 u2 v2 p2 q2 = true) (hx : M.bncB rb dg = true) (f0 : M.KE m1 r1 a1 b1 u1 v1 p1 q1 m2 r2 a2 b2 u2 v2 p2 q2 rb dg = 0) (f1 : M.momB (u1 - M.KX m1 r1 a1 b1 u1 v1 p1 q1 m2 r2 a2 b2 u2 v2 p2 q2 rb dg) (v1 - M.KY m1 r1 a1 b1 u1 v1 p1 q1 m2 r2 a2 b2 u2 v2 p2 q2 rb dg) = true) (f2 : M.momB (u2 + M.KX m1 r1 a1 b1 u1 v1 p1 q1 m2 r2 a2 b2 u2 v2 p2 q2 rb dg) (v2 + M.KY m1 r1 a1 b1 u1 v1 p1 q1 m2 r2 a2 b2 u2 v2 p2 q2 rb dg) = true) : Ret cfg 47 [.raw (.agg #[.int .i64 m1, .int .i64 r1, .int .i64 a1, .int .i64 b1, .int .i64 u1, .int .i64 v1, .int .i64 p1, .int .i64 q1]), .raw (.agg #[.int .i64 m2, .int .i64 r2, .int .i64 a2, .int .i64 b2, .int .i64 u2, .int .i64 v2, .int .i64 p2, .int .i64 q2]), .raw (.agg #[.int .i64 rb, .int .i64 dg])] (V.raw (.tuple { toList := [.agg { toList := [.int .i64 m1, .int .i64 r1, .int .i64 a1, .int .i64 b1, .int .i64 (u1 - M.KX m1 r1 a1 b1 u1 v1 p1 q1 m2 r2 a2 b2 u2 v2 p2 q2 rb dg), .int .i64 (v1 - M.KY m1 r1 a1 b1 u1 v1 p1 q1 m2 r2 a2 b2 u2 v2 p2 q2 rb dg), .int .i64 p1, .int .i64 q1] }, .agg { toList := [.int .i64 m2, .int .i64 r2, .int .i64 a2, .int .i64 b2, .int .i64 (u2 + M.KX m1 r1 a1 b1 u1 v1 p1 q1 m2 r2 a2 b2 u2 v2 p2 q2 rb dg), .int .i64 (v2 + M.KY m1 r1 a1 b1 u1 v1 p1 q1 m2 r2 a2 b2 u2 v2 p2 q2 rb dg), .int .i64 p2, .int .i64 q2] }, .int .i64 0] })) := by
  have hk := M.K_bd m1 r1 a1 b1 u1 v1 p1 q1 m2 r2 a2 b2 u2 v2 p2 q2 rb dg
  obtain ⟨⟨hm1, hr1⟩, ⟨ha1, hb1⟩, ⟨hu1, hv1⟩, ⟨hp1, hq1⟩⟩ := M.mot_facts h1
  obtain ⟨⟨hm2, hr2⟩, ⟨ha2, hb2⟩, ⟨hu2, hv2⟩, ⟨hp2, hq2⟩⟩ := M.mot_facts h2
  exact fn_of cfg_mixed cfg_call cfg_base.1 cfg_base.2.1 cfg_base.2.2 (n := 40) (ans := [Ans.go, Ans.ret (V.raw (.tuple { toList := [.agg { toList := [.int .i64 (M.KX m1 r1 a1 b1 u1 v1 p1 q1 m2 r2 a2 b2 u2 v2 p2 q2 rb dg), .int .i64 (M.KY m1 r1 a1 b1 u1 v1 p1 q1 m2 r2 a2 b2 u2 v2 p2 q2 rb dg)] }, .int .i64 (M.KE m1 r1 a1 b1 u1 v1 p1 q1 m2 r2 a2 b2 u2 v2 p2 q2 rb dg)] })), Ans.br false, Ans.olds [(15, 1), (12, 0)], Ans.go, Ans.go, Ans.go, Ans.olds [], Ans.go, Ans.go, Ans.go, Ans.olds [], Ans.go, Ans.go, Ans.go, Ans.go, Ans.go, Ans.olds [], Ans.go, Ans.go, Ans.go, Ans.olds [], Ans.go, Ans.go, Ans.ret (V.raw (.bool (M.momB (u1 - M.KX m1 r1 a1 b1 u1 v1 p1 q1 m2 r2 a2 b2 u2 v2 p2 q2 rb dg) (v1 - M.KY m1 r1 a1 b1 u1 v1 p1 q1 m2 r2 a2 b2 u2 v2 p2 q2 rb dg)))), Ans.br false, Ans.ret (V.raw (.bool (M.momB (u2 + M.KX m1 r1 a1 b1 u1 v1 p1 q1 m2 r2 a2 b2 u2 v2 p2 q2 rb dg) (v2 + M.KY m1 r1 a1 b1 u1 v1 p1 q1 m2 r2 a2 b2 u2 v2 p2 q2 rb dg)))), Ans.br false, Ans.br false, Ans.olds [(3, 4), (2, 3)]]) (cons := [(Ret cfg 82 [V.raw (.agg { toList := [.int .i64 m1, .int .i64 r1, .int .i64 a1, .int .i64 b1, .int .i64 u1, .int .i64 v1, .int .i64 p1, .int .i64 q1] }), V.raw (.agg { toList := [.int .i64 m2, .int .i64 r2, .int .i64 a2, .int .i64 b2, .int .i64 u2, .int .i64 v2, .int .i64 p2, .int .i64 q2] }), V.raw (.agg { toList := [.int .i64 rb, .int .i64 dg] })] (V.raw (.tuple { toList := [.agg { toList := [.int .i64 (M.KX m1 r1 a1 b1 u1 v1 p1 q1 m2 r2 a2 b2 u2 v2 p2 q2 rb dg), .int .i64 (M.KY m1 r1 a1 b1 u1 v1 p1 q1 m2 r2 a2 b2 u2 v2 p2 q2 rb dg)] }, .int .i64 (M.KE m1 r1 a1 b1 u1 v1 p1 q1 m2 r2 a2 b2 u2 v2 p2 q2 rb dg)] }))), ((!decide (M.KE m1 r1 a1 b1 u1 v1 p1 q1 m2 r2 a2 b2 u2 v2 p2 q2 rb dg = 0)) = false), (inR IntKind.i64 (u1 - M.KX m1 r1 a1 b1 u1 v1 p1 q1 m2 r2 a2 b2 u2 v2 p2 q2 rb dg)), (inR IntKind.i64 (v1 - M.KY m1 r1 a1 b1 u1 v1 p1 q1 m2 r2 a2 b2 u2 v2 p2 q2 rb dg)), (inR IntKind.i64 (u2 + M.KX m1 r1 a1 b1 u1 v1 p1 q1 m2 r2 a2 b2 u2 v2 p2 q2 rb dg)), (inR IntKind.i64 (v2 + M.KY m1 r1 a1 b1 u1 v1 p1 q1 m2 r2 a2 b2 u2 v2 p2 q2 rb dg)), (Ret cfg 85 [V.raw (.agg { toList := [.int .i64 (u1 - M.KX m1 r1 a1 b1 u1 v1 p1 q1 m2 r2 a2 b2 u2 v2 p2 q2 rb dg), .int .i64 (v1 - M.KY m1 r1 a1 b1 u1 v1 p1 q1 m2 r2 a2 b2 u2 v2 p2 q2 rb dg)] })] (V.raw (.bool (M.momB (u1 - M.KX m1 r1 a1 b1 u1 v1 p1 q1 m2 r2 a2 b2 u2 v2 p2 q2 rb dg) (v1 - M.KY m1 r1 a1 b1 u1 v1 p1 q1 m2 r2 a2 b2 u2 v2 p2 q2 rb dg))))), ((!M.momB (u1 - M.KX m1 r1 a1 b1 u1 v1 p1 q1 m2 r2 a2 b2 u2 v2 p2 q2 rb dg) (v1 - M.KY m1 r1 a1 b1 u1 v1 p1 q1 m2 r2 a2 b2 u2 v2 p2 q2 rb dg)) = false), (Ret cfg 85 [V.raw (.agg { toList := [.int .i64 (u2 + M.KX m1 r1 a1 b1 u1 v1 p1 q1 m2 r2 a2 b2 u2 v2 p2 q2 rb dg), .int .i64 (v2 + M.KY m1 r1 a1 b1 u1 v1 p1 q1 m2 r2 a2 b2 u2 v2 p2 q2 rb dg)] })] (V.raw (.bool (M.momB (u2 + M.KX m1 r1 a1 b1 u1 v1 p1 q1 m2 r2 a2 b2 u2 v2 p2 q2 rb dg) (v2 + M.KY m1 r1 a1 b1 u1 v1 p1 q1 m2 r2 a2 b2 u2 v2 p2 q2 rb dg))))), (false = false), ((!M.momB (u2 + M.KX m1 r1 a1 b1 u1 v1 p1 q1 m2 r2 a2 b2 u2 v2 p2 q2 rb dg) (v2 + M.KY m1 r1 a1 b1 u1 v1 p1 q1 m2 r2 a2 b2 u2 v2 p2 q2 rb dg)) = false)]) (by kernel_rfl) rfl rfl
    ⟨(kickOf _ _ _ _ _ _ _ _ _ _ _ _ _ _ _ _ _ _ h1 h2 hx), (by first | assumption | omega | (simp_all; done) | (simp_all; omega)), inR_i64 (by omega) (by omega), inR_i64 (by omega) (by omega), inR_i64 (by omega) (by omega), inR_i64 (by omega) (by omega), (isMomentum _ _), (by first | assumption | omega | (simp_all; done) | (simp_all; omega)), (isMomentum _ _), rfl, (by first | assumption | omega | (simp_all; done) | (simp_all; omega)), trivial⟩
theorem bounced (m1 r1 a1 b1 u1 v1 p1 q1 m2 r2 a2 b2 u2 v2 p2 q2 rb dg : Int) (h1 : M.motB m1 r1 a1 b1 u1 v1 p1 q1 = true) (h2 : M.motB m2 r2 a2 b2 u2 v2 p2 q2 = true) (hx : M.bncB rb dg = true) : Ret cfg 47 [.raw (.agg #[.int .i64 m1, .int .i64 r1, .int .i64 a1, .int .i64 b1, .int .i64 u1, .int .i64 v1, .int .i64 p1, .int .i64 q1]), .raw (.agg #[.int .i64 m2, .int .i64 r2, .int .i64 a2, .int .i64 b2, .int .i64 u2, .int .i64 v2, .int .i64 p2, .int .i64 q2]), .raw (.agg #[.int .i64 rb, .int .i64 dg])] (.raw (.tuple #[.agg #[.int .i64 (M.selC (M.BE m1 r1 a1 b1 u1 v1 p1 q1 m2 r2 a2 b2 u2 v2 p2 q2 rb dg) m1), .int .i64 (M.selC (M.BE m1 r1 a1 b1 u1 v1 p1 q1 m2 r2 a2 b2 u2 v2 p2 q2 rb dg) r1), .int .i64 (M.selC (M.BE m1 r1 a1 b1 u1 v1 p1 q1 m2 r2 a2 b2 u2 v2 p2 q2 rb dg) a1), .int .i64 (M.selC (M.BE m1 r1 a1 b1 u1 v1 p1 q1 m2 r2 a2 b2 u2 v2 p2 q2 rb dg) b1), .int .i64 (M.selC (M.BE m1 r1 a1 b1 u1 v1 p1 q1 m2 r2 a2 b2 u2 v2 p2 q2 rb dg) (u1 - M.KX m1 r1 a1 b1 u1 v1 p1 q1 m2 r2 a2 b2 u2 v2 p2 q2 rb dg)), .int .i64 (M.selC (M.BE m1 r1 a1 b1 u1 v1 p1 q1 m2 r2 a2 b2 u2 v2 p2 q2 rb dg) (v1 - M.KY m1 r1 a1 b1 u1 v1 p1 q1 m2 r2 a2 b2 u2 v2 p2 q2 rb dg)), .int .i64 (M.selC (M.BE m1 r1 a1 b1 u1 v1 p1 q1 m2 r2 a2 b2 u2 v2 p2 q2 rb dg) p1), .int .i64 (M.selC (M.BE m1 r1 a1 b1 u1 v1 p1 q1 m2 r2 a2 b2 u2 v2 p2 q2 rb dg) q1)], .agg #[.int .i64 (M.selC (M.BE m1 r1 a1 b1 u1 v1 p1 q1 m2 r2 a2 b2 u2 v2 p2 q2 rb dg) m2), .int .i64 (M.selC (M.BE m1 r1 a1 b1 u1 v1 p1 q1 m2 r2 a2 b2 u2 v2 p2 q2 rb dg) r2), .int .i64 (M.selC (M.BE m1 r1 a1 b1 u1 v1 p1 q1 m2 r2 a2 b2 u2 v2 p2 q2 rb dg) a2), .int .i64 (M.selC (M.BE m1 r1 a1 b1 u1 v1 p1 q1 m2 r2 a2 b2 u2 v2 p2 q2 rb dg) b2), .int .i64 (M.selC (M.BE m1 r1 a1 b1 u1 v1 p1 q1 m2 r2 a2 b2 u2 v2 p2 q2 rb dg) (u2 + M.KX m1 r1 a1 b1 u1 v1 p1 q1 m2 r2 a2 b2 u2 v2 p2 q2 rb dg)), .int .i64 (M.selC (M.BE m1 r1 a1 b1 u1 v1 p1 q1 m2 r2 a2 b2 u2 v2 p2 q2 rb dg) (v2 + M.KY m1 r1 a1 b1 u1 v1 p1 q1 m2 r2 a2 b2 u2 v2 p2 q2 rb dg)), .int .i64 (M.selC (M.BE m1 r1 a1 b1 u1 v1 p1 q1 m2 r2 a2 b2 u2 v2 p2 q2 rb dg) p2), .int .i64 (M.selC (M.BE m1 r1 a1 b1 u1 v1 p1 q1 m2 r2 a2 b2 u2 v2 p2 q2 rb dg) q2)], .int .i64 (M.BE m1 r1 a1 b1 u1 v1 p1 q1 m2 r2 a2 b2 u2 v2 p2 q2 rb dg)])) := by
  have hk := M.K_bd m1 r1 a1 b1 u1 v1 p1 q1 m2 r2 a2 b2 u2 v2 p2 q2 rb dg
  obtain ⟨⟨hm1, hr1⟩, ⟨ha1, hb1⟩, ⟨hu1, hv1⟩, ⟨hp1, hq1⟩⟩ := M.mot_facts h1
  obtain ⟨⟨hm2, hr2⟩, ⟨ha2, hb2⟩, ⟨hu2, hv2⟩, ⟨hp2, hq2⟩⟩ := M.mot_facts h2
  by_cases f0 : ¬M.KE m1 r1 a1 b1 u1 v1 p1 q1 m2 r2 a2 b2 u2 v2 p2 q2 rb dg = 0
  ·
    have e : (.raw (.tuple #[.agg #[.int .i64 (M.selC (M.BE m1 r1 a1 b1 u1 v1 p1 q1 m2 r2 a2 b2 u2 v2 p2 q2 rb dg) m1), .int .i64 (M.selC (M.BE m1 r1 a1 b1 u1 v1 p1 q1 m2 r2 a2 b2 u2 v2 p2 q2 rb dg) r1), .int .i64 (M.selC (M.BE m1 r1 a1 b1 u1 v1 p1 q1 m2 r2 a2 b2 u2 v2 p2 q2 rb dg) a1), .int .i64 (M.selC (M.BE m1 r1 a1 b1 u1 v1 p1 q1 m2 r2 a2 b2 u2 v2 p2 q2 rb dg) b1), .int .i64 (M.selC (M.BE m1 r1 a1 b1 u1 v1 p1 q1 m2 r2 a2 b2 u2 v2 p2 q2 rb dg) (u1 - M.KX m1 r1 a1 b1 u1 v1 p1 q1 m2 r2 a2 b2 u2 v2 p2 q2 rb dg)), .int .i64 (M.selC (M.BE m1 r1 a1 b1 u1 v1 p1 q1 m2 r2 a2 b2 u2 v2 p2 q2 rb dg) (v1 - M.KY m1 r1 a1 b1 u1 v1 p1 q1 m2 r2 a2 b2 u2 v2 p2 q2 rb dg)), .int .i64 (M.selC (M.BE m1 r1 a1 b1 u1 v1 p1 q1 m2 r2 a2 b2 u2 v2 p2 q2 rb dg) p1), .int .i64 (M.selC (M.BE m1 r1 a1 b1 u1 v1 p1 q1 m2 r2 a2 b2 u2 v2 p2 q2 rb dg) q1)], .agg #[.int .i64 (M.selC (M.BE m1 r1 a1 b1 u1 v1 p1 q1 m2 r2 a2 b2 u2 v2 p2 q2 rb dg) m2), .int .i64 (M.selC (M.BE m1 r1 a1 b1 u1 v1 p1 q1 m2 r2 a2 b2 u2 v2 p2 q2 rb dg) r2), .int .i64 (M.selC (M.BE m1 r1 a1 b1 u1 v1 p1 q1 m2 r2 a2 b2 u2 v2 p2 q2 rb dg) a2), .int .i64 (M.selC (M.BE m1 r1 a1 b1 u1 v1 p1 q1 m2 r2 a2 b2 u2 v2 p2 q2 rb dg) b2), .int .i64 (M.selC (M.BE m1 r1 a1 b1 u1 v1 p1 q1 m2 r2 a2 b2 u2 v2 p2 q2 rb dg) (u2 + M.KX m1 r1 a1 b1 u1 v1 p1 q1 m2 r2 a2 b2 u2 v2 p2 q2 rb dg)), .int .i64 (M.selC (M.BE m1 r1 a1 b1 u1 v1 p1 q1 m2 r2 a2 b2 u2 v2 p2 q2 rb dg) (v2 + M.KY m1 r1 a1 b1 u1 v1 p1 q1 m2 r2 a2 b2 u2 v2 p2 q2 rb dg)), .int .i64 (M.selC (M.BE m1 r1 a1 b1 u1 v1 p1 q1 m2 r2 a2 b2 u2 v2 p2 q2 rb dg) p2), .int .i64 (M.selC (M.BE m1 r1 a1 b1 u1 v1 p1 q1 m2 r2 a2 b2 u2 v2 p2 q2 rb dg) q2)], .int .i64 (M.BE m1 r1 a1 b1 u1 v1 p1 q1 m2 r2 a2 b2 u2 v2 p2 q2 rb dg)]) : V) = V.raw (.tuple { toList := [.agg { toList := [.int .i64 0, .int .i64 0, .int .i64 0, .int .i64 0, .int .i64 0, .int .i64 0, .int .i64 0, .int .i64 0] }, .agg { toList := [.int .i64 0, .int .i64 0, .int .i64 0, .int .i64 0, .int .i64 0, .int .i64 0, .int .i64 0, .int .i64 0] }, .int .i64 (M.KE m1 r1 a1 b1 u1 v1 p1 q1 m2 r2 a2 b2 u2 v2 p2 q2 rb dg)] }) := by (simp_all [M.BE, M.selC])
    rw [e]
    exact bounced_1 m1 r1 a1 b1 u1 v1 p1 q1 m2 r2 a2 b2 u2 v2 p2 q2 rb dg h1 h2 hx f0
  ·
    replace f0 : M.KE m1 r1 a1 b1 u1 v1 p1 q1 m2 r2 a2 b2 u2 v2 p2 q2 rb dg = 0 := by simpa using f0
    by_cases f1 : M.momB (u1 - M.KX m1 r1 a1 b1 u1 v1 p1 q1 m2 r2 a2 b2 u2 v2 p2 q2 rb dg) (v1 - M.KY m1 r1 a1 b1 u1 v1 p1 q1 m2 r2 a2 b2 u2 v2 p2 q2 rb dg) = false
    ·
      have e : (.raw (.tuple #[.agg #[.int .i64 (M.selC (M.BE m1 r1 a1 b1 u1 v1 p1 q1 m2 r2 a2 b2 u2 v2 p2 q2 rb dg) m1), .int .i64 (M.selC (M.BE m1 r1 a1 b1 u1 v1 p1 q1 m2 r2 a2 b2 u2 v2 p2 q2 rb dg) r1), .int .i64 (M.selC (M.BE m1 r1 a1 b1 u1 v1 p1 q1 m2 r2 a2 b2 u2 v2 p2 q2 rb dg) a1), .int .i64 (M.selC (M.BE m1 r1 a1 b1 u1 v1 p1 q1 m2 r2 a2 b2 u2 v2 p2 q2 rb dg) b1), .int .i64 (M.selC (M.BE m1 r1 a1 b1 u1 v1 p1 q1 m2 r2 a2 b2 u2 v2 p2 q2 rb dg) (u1 - M.KX m1 r1 a1 b1 u1 v1 p1 q1 m2 r2 a2 b2 u2 v2 p2 q2 rb dg)), .int .i64 (M.selC (M.BE m1 r1 a1 b1 u1 v1 p1 q1 m2 r2 a2 b2 u2 v2 p2 q2 rb dg) (v1 - M.KY m1 r1 a1 b1 u1 v1 p1 q1 m2 r2 a2 b2 u2 v2 p2 q2 rb dg)), .int .i64 (M.selC (M.BE m1 r1 a1 b1 u1 v1 p1 q1 m2 r2 a2 b2 u2 v2 p2 q2 rb dg) p1), .int .i64 (M.selC (M.BE m1 r1 a1 b1 u1 v1 p1 q1 m2 r2 a2 b2 u2 v2 p2 q2 rb dg) q1)], .agg #[.int .i64 (M.selC (M.BE m1 r1 a1 b1 u1 v1 p1 q1 m2 r2 a2 b2 u2 v2 p2 q2 rb dg) m2), .int .i64 (M.selC (M.BE m1 r1 a1 b1 u1 v1 p1 q1 m2 r2 a2 b2 u2 v2 p2 q2 rb dg) r2), .int .i64 (M.selC (M.BE m1 r1 a1 b1 u1 v1 p1 q1 m2 r2 a2 b2 u2 v2 p2 q2 rb dg) a2), .int .i64 (M.selC (M.BE m1 r1 a1 b1 u1 v1 p1 q1 m2 r2 a2 b2 u2 v2 p2 q2 rb dg) b2), .int .i64 (M.selC (M.BE m1 r1 a1 b1 u1 v1 p1 q1 m2 r2 a2 b2 u2 v2 p2 q2 rb dg) (u2 + M.KX m1 r1 a1 b1 u1 v1 p1 q1 m2 r2 a2 b2 u2 v2 p2 q2 rb dg)), .int .i64 (M.selC (M.BE m1 r1 a1 b1 u1 v1 p1 q1 m2 r2 a2 b2 u2 v2 p2 q2 rb dg) (v2 + M.KY m1 r1 a1 b1 u1 v1 p1 q1 m2 r2 a2 b2 u2 v2 p2 q2 rb dg)), .int .i64 (M.selC (M.BE m1 r1 a1 b1 u1 v1 p1 q1 m2 r2 a2 b2 u2 v2 p2 q2 rb dg) p2), .int .i64 (M.selC (M.BE m1 r1 a1 b1 u1 v1 p1 q1 m2 r2 a2 b2 u2 v2 p2 q2 rb dg) q2)], .int .i64 (M.BE m1 r1 a1 b1 u1 v1 p1 q1 m2 r2 a2 b2 u2 v2 p2 q2 rb dg)]) : V) = V.raw (.tuple { toList := [.agg { toList := [.int .i64 0, .int .i64 0, .int .i64 0, .int .i64 0, .int .i64 0, .int .i64 0, .int .i64 0, .int .i64 0] }, .agg { toList := [.int .i64 0, .int .i64 0, .int .i64 0, .int .i64 0, .int .i64 0, .int .i64 0, .int .i64 0, .int .i64 0] }, .int .i64 4] }) := by (simp_all [M.BE, M.selC])
      rw [e]
      exact bounced_2 m1 r1 a1 b1 u1 v1 p1 q1 m2 r2 a2 b2 u2 v2 p2 q2 rb dg h1 h2 hx f0 f1
    ·
      replace f1 : M.momB (u1 - M.KX m1 r1 a1 b1 u1 v1 p1 q1 m2 r2 a2 b2 u2 v2 p2 q2 rb dg) (v1 - M.KY m1 r1 a1 b1 u1 v1 p1 q1 m2 r2 a2 b2 u2 v2 p2 q2 rb dg) = true := by simpa using f1
      by_cases f2 : M.momB (u2 + M.KX m1 r1 a1 b1 u1 v1 p1 q1 m2 r2 a2 b2 u2 v2 p2 q2 rb dg) (v2 + M.KY m1 r1 a1 b1 u1 v1 p1 q1 m2 r2 a2 b2 u2 v2 p2 q2 rb dg) = false
      ·
        have e : (.raw (.tuple #[.agg #[.int .i64 (M.selC (M.BE m1 r1 a1 b1 u1 v1 p1 q1 m2 r2 a2 b2 u2 v2 p2 q2 rb dg) m1), .int .i64 (M.selC (M.BE m1 r1 a1 b1 u1 v1 p1 q1 m2 r2 a2 b2 u2 v2 p2 q2 rb dg) r1), .int .i64 (M.selC (M.BE m1 r1 a1 b1 u1 v1 p1 q1 m2 r2 a2 b2 u2 v2 p2 q2 rb dg) a1), .int .i64 (M.selC (M.BE m1 r1 a1 b1 u1 v1 p1 q1 m2 r2 a2 b2 u2 v2 p2 q2 rb dg) b1), .int .i64 (M.selC (M.BE m1 r1 a1 b1 u1 v1 p1 q1 m2 r2 a2 b2 u2 v2 p2 q2 rb dg) (u1 - M.KX m1 r1 a1 b1 u1 v1 p1 q1 m2 r2 a2 b2 u2 v2 p2 q2 rb dg)), .int .i64 (M.selC (M.BE m1 r1 a1 b1 u1 v1 p1 q1 m2 r2 a2 b2 u2 v2 p2 q2 rb dg) (v1 - M.KY m1 r1 a1 b1 u1 v1 p1 q1 m2 r2 a2 b2 u2 v2 p2 q2 rb dg)), .int .i64 (M.selC (M.BE m1 r1 a1 b1 u1 v1 p1 q1 m2 r2 a2 b2 u2 v2 p2 q2 rb dg) p1), .int .i64 (M.selC (M.BE m1 r1 a1 b1 u1 v1 p1 q1 m2 r2 a2 b2 u2 v2 p2 q2 rb dg) q1)], .agg #[.int .i64 (M.selC (M.BE m1 r1 a1 b1 u1 v1 p1 q1 m2 r2 a2 b2 u2 v2 p2 q2 rb dg) m2), .int .i64 (M.selC (M.BE m1 r1 a1 b1 u1 v1 p1 q1 m2 r2 a2 b2 u2 v2 p2 q2 rb dg) r2), .int .i64 (M.selC (M.BE m1 r1 a1 b1 u1 v1 p1 q1 m2 r2 a2 b2 u2 v2 p2 q2 rb dg) a2), .int .i64 (M.selC (M.BE m1 r1 a1 b1 u1 v1 p1 q1 m2 r2 a2 b2 u2 v2 p2 q2 rb dg) b2), .int .i64 (M.selC (M.BE m1 r1 a1 b1 u1 v1 p1 q1 m2 r2 a2 b2 u2 v2 p2 q2 rb dg) (u2 + M.KX m1 r1 a1 b1 u1 v1 p1 q1 m2 r2 a2 b2 u2 v2 p2 q2 rb dg)), .int .i64 (M.selC (M.BE m1 r1 a1 b1 u1 v1 p1 q1 m2 r2 a2 b2 u2 v2 p2 q2 rb dg) (v2 + M.KY m1 r1 a1 b1 u1 v1 p1 q1 m2 r2 a2 b2 u2 v2 p2 q2 rb dg)), .int .i64 (M.selC (M.BE m1 r1 a1 b1 u1 v1 p1 q1 m2 r2 a2 b2 u2 v2 p2 q2 rb dg) p2), .int .i64 (M.selC (M.BE m1 r1 a1 b1 u1 v1 p1 q1 m2 r2 a2 b2 u2 v2 p2 q2 rb dg) q2)], .int .i64 (M.BE m1 r1 a1 b1 u1 v1 p1 q1 m2 r2 a2 b2 u2 v2 p2 q2 rb dg)]) : V) = V.raw (.tuple { toList := [.agg { toList := [.int .i64 0, .int .i64 0, .int .i64 0, .int .i64 0, .int .i64 0, .int .i64 0, .int .i64 0, .int .i64 0] }, .agg { toList := [.int .i64 0, .int .i64 0, .int .i64 0, .int .i64 0, .int .i64 0, .int .i64 0, .int .i64 0, .int .i64 0] }, .int .i64 4] }) := by (simp_all [M.BE, M.selC])
        rw [e]
        exact bounced_3 m1 r1 a1 b1 u1 v1 p1 q1 m2 r2 a2 b2 u2 v2 p2 q2 rb dg h1 h2 hx f0 f1 f2
      ·
        replace f2 : M.momB (u2 + M.KX m1 r1 a1 b1 u1 v1 p1 q1 m2 r2 a2 b2 u2 v2 p2 q2 rb dg) (v2 + M.KY m1 r1 a1 b1 u1 v1 p1 q1 m2 r2 a2 b2 u2 v2 p2 q2 rb dg) = true := by simpa using f2
        have e : (.raw (.tuple #[.agg #[.int .i64 (M.selC (M.BE m1 r1 a1 b1 u1 v1 p1 q1 m2 r2 a2 b2 u2 v2 p2 q2 rb dg) m1), .int .i64 (M.selC (M.BE m1 r1 a1 b1 u1 v1 p1 q1 m2 r2 a2 b2 u2 v2 p2 q2 rb dg) r1), .int .i64 (M.selC (M.BE m1 r1 a1 b1 u1 v1 p1 q1 m2 r2 a2 b2 u2 v2 p2 q2 rb dg) a1), .int .i64 (M.selC (M.BE m1 r1 a1 b1 u1 v1 p1 q1 m2 r2 a2 b2 u2 v2 p2 q2 rb dg) b1), .int .i64 (M.selC (M.BE m1 r1 a1 b1 u1 v1 p1 q1 m2 r2 a2 b2 u2 v2 p2 q2 rb dg) (u1 - M.KX m1 r1 a1 b1 u1 v1 p1 q1 m2 r2 a2 b2 u2 v2 p2 q2 rb dg)), .int .i64 (M.selC (M.BE m1 r1 a1 b1 u1 v1 p1 q1 m2 r2 a2 b2 u2 v2 p2 q2 rb dg) (v1 - M.KY m1 r1 a1 b1 u1 v1 p1 q1 m2 r2 a2 b2 u2 v2 p2 q2 rb dg)), .int .i64 (M.selC (M.BE m1 r1 a1 b1 u1 v1 p1 q1 m2 r2 a2 b2 u2 v2 p2 q2 rb dg) p1), .int .i64 (M.selC (M.BE m1 r1 a1 b1 u1 v1 p1 q1 m2 r2 a2 b2 u2 v2 p2 q2 rb dg) q1)], .agg #[.int .i64 (M.selC (M.BE m1 r1 a1 b1 u1 v1 p1 q1 m2 r2 a2 b2 u2 v2 p2 q2 rb dg) m2), .int .i64 (M.selC (M.BE m1 r1 a1 b1 u1 v1 p1 q1 m2 r2 a2 b2 u2 v2 p2 q2 rb dg) r2), .int .i64 (M.selC (M.BE m1 r1 a1 b1 u1 v1 p1 q1 m2 r2 a2 b2 u2 v2 p2 q2 rb dg) a2), .int .i64 (M.selC (M.BE m1 r1 a1 b1 u1 v1 p1 q1 m2 r2 a2 b2 u2 v2 p2 q2 rb dg) b2), .int .i64 (M.selC (M.BE m1 r1 a1 b1 u1 v1 p1 q1 m2 r2 a2 b2 u2 v2 p2 q2 rb dg) (u2 + M.KX m1 r1 a1 b1 u1 v1 p1 q1 m2 r2 a2 b2 u2 v2 p2 q2 rb dg)), .int .i64 (M.selC (M.BE m1 r1 a1 b1 u1 v1 p1 q1 m2 r2 a2 b2 u2 v2 p2 q2 rb dg) (v2 + M.KY m1 r1 a1 b1 u1 v1 p1 q1 m2 r2 a2 b2 u2 v2 p2 q2 rb dg)), .int .i64 (M.selC (M.BE m1 r1 a1 b1 u1 v1 p1 q1 m2 r2 a2 b2 u2 v2 p2 q2 rb dg) p2), .int .i64 (M.selC (M.BE m1 r1 a1 b1 u1 v1 p1 q1 m2 r2 a2 b2 u2 v2 p2 q2 rb dg) q2)], .int .i64 (M.BE m1 r1 a1 b1 u1 v1 p1 q1 m2 r2 a2 b2 u2 v2 p2 q2 rb dg)]) : V) = V.raw (.tuple { toList := [.agg { toList := [.int .i64 m1, .int .i64 r1, .int .i64 a1, .int .i64 b1, .int .i64 (u1 - M.KX m1 r1 a1 b1 u1 v1 p1 q1 m2 r2 a2 b2 u2 v2 p2 q2 rb dg), .int .i64 (v1 - M.KY m1 r1 a1 b1 u1 v1 p1 q1 m2 r2 a2 b2 u2 v2 p2 q2 rb dg), .int .i64 p1, .int .i64 q1] }, .agg { toList := [.int .i64 m2, .int .i64 r2, .int .i64 a2, .int .i64 b2, .int .i64 (u2 + M.KX m1 r1 a1 b1 u1 v1 p1 q1 m2 r2 a2 b2 u2 v2 p2 q2 rb dg), .int .i64 (v2 + M.KY m1 r1 a1 b1 u1 v1 p1 q1 m2 r2 a2 b2 u2 v2 p2 q2 rb dg), .int .i64 p2, .int .i64 q2] }, .int .i64 0] }) := by (simp_all [M.BE, M.selC])
        rw [e]
        exact bounced_4 m1 r1 a1 b1 u1 v1 p1 q1 m2 r2 a2 b2 u2 v2 p2 q2 rb dg h1 h2 hx f0 f1 f2
end Go.Proofs.YteefjegampdpoaaDoor
end
section
namespace Go.Proofs.YteefjegampdpoaaDoor
open Go Go.RowKit Go.Proofs.YteefjegampdpoaaDoor.E2
theorem zB (zs : List Int) (rb dg : Int) (i k : Nat) (h1 : M.goodZ zs i = true) (h2 : M.goodZ zs k = true) (hx : M.bncB rb dg = true) : Ret cfx 47 [.raw (.agg #[.int .i64 (at' zs (i * 8)), .int .i64 (at' zs (i * 8 + 1)), .int .i64 (at' zs (i * 8 + 2)), .int .i64 (at' zs (i * 8 + 3)), .int .i64 (at' zs (i * 8 + 4)), .int .i64 (at' zs (i * 8 + 5)), .int .i64 (at' zs (i * 8 + 6)), .int .i64 (at' zs (i * 8 + 7))]), .raw (.agg #[.int .i64 (at' zs (k * 8)), .int .i64 (at' zs (k * 8 + 1)), .int .i64 (at' zs (k * 8 + 2)), .int .i64 (at' zs (k * 8 + 3)), .int .i64 (at' zs (k * 8 + 4)), .int .i64 (at' zs (k * 8 + 5)), .int .i64 (at' zs (k * 8 + 6)), .int .i64 (at' zs (k * 8 + 7))]), .raw (.agg #[.int .i64 rb, .int .i64 dg])] (.raw (.tuple #[.agg #[.int .i64 (M.zI zs rb dg i k 0), .int .i64 (M.zI zs rb dg i k 1), .int .i64 (M.zI zs rb dg i k 2), .int .i64 (M.zI zs rb dg i k 3), .int .i64 (M.zI zs rb dg i k 4), .int .i64 (M.zI zs rb dg i k 5), .int .i64 (M.zI zs rb dg i k 6), .int .i64 (M.zI zs rb dg i k 7)], .agg #[.int .i64 (M.zK zs rb dg i k 0), .int .i64 (M.zK zs rb dg i k 1), .int .i64 (M.zK zs rb dg i k 2), .int .i64 (M.zK zs rb dg i k 3), .int .i64 (M.zK zs rb dg i k 4), .int .i64 (M.zK zs rb dg i k 5), .int .i64 (M.zK zs rb dg i k 6), .int .i64 (M.zK zs rb dg i k 7)], .int .i64 (M.beZ zs rb dg i k)])) :=
  up3 (bounced _ _ _ _ _ _ _ _ _ _ _ _ _ _ _ _ _ _ h1 h2 hx)
def pse_T (xs ys : List Int) (n : Nat) (TA TB : Nat) (rb dg : Int) (i : Int) (zs ps : List Int) (m : Nat) : List V := [V.yld 10, .ptr 9 0, .any 2, .any 3, .any 4, iV (↑n : Int), iV i, .any 7, .any 8, .any 9, .any 10, .any 11, .any 12, .any 13, .any 14, .any 15, .any 16, .any 17, .any 18, .any 19, .any 20, .any 21]
def pse_H (xs ys : List Int) (n : Nat) (TA TB : Nat) (rb dg : Int) (i : Int) (zs ps : List Int) (m : Nat) : Heap := [some (.cells (ints xs) TA .ro), some (.cells (ints ys) TB .ro), some (.cells [iV rb, iV dg] 56 .rw), some (.cells [V.raw (Value.slice none 0 0)] 58 .rw), some (.cells [V.raw (Value.slice none 0 0)] 67 .rw), some (.cells [iV 0] 32 .rw), some (.cells (ints zs) 124 (.row 8)), some (.cells [.slo 6 n] 116 .rw), some (.cells [V.slo 11 m] 67 .rw), some (.cells [iV (↑n : Int)] 3 .rw), some (Blk.rcd { t := [.slo 0 n, .slo 1 n, V.raw (.agg { toList := [.int .i64 rb, .int .i64 dg] }), uV, uV, .ptr 2 0, .ptr 3 0, .ptr 4 0, .ptr 5 0, .ptr 7 0, iV 0, iV 0, .ptr 8 0, uV, uV, uV, uV, uV, V.tup [.slo 6 n, iV 0], .slo 0 n, .slo 1 n, V.tup [.slo 6 n, iV 0], .slo 6 n, iV 0, iV 0, V.raw (.bool false), uV, V.raw (.agg { toList := [.int .i64 rb, .int .i64 dg] }), iV 0, iV 0, V.raw (.bool false), uV, .slo 6 n, iV (↑n : Int), V.fn (Fn.func 81) [] [.ptr 9 0], uV, uV, uV, uV, uV, uV, uV, uV, uV, uV, uV, uV, uV, uV, uV, uV, uV, uV, uV, uV, uV, uV, uV, uV, uV, uV, uV, uV, uV, uV, uV, uV, uV, uV, uV, uV, uV, uV, uV], f := 15, i := 0, st := RSt.ready }), some (.cells (ints ps) 71 (Own.row 2))]
abbrev psi_z1 (xs ys : List Int) (n : Nat) (TA TB : Nat) (rb dg : Int) (i : Int) (k : Int) (zs ps : List Int) (m : Nat) : List Int := putI zs (i.toNat * 8) [M.zI zs rb dg i.toNat k.toNat 0, M.zI zs rb dg i.toNat k.toNat 1, M.zI zs rb dg i.toNat k.toNat 2, M.zI zs rb dg i.toNat k.toNat 3, M.zI zs rb dg i.toNat k.toNat 4, M.zI zs rb dg i.toNat k.toNat 5, M.zI zs rb dg i.toNat k.toNat 6, M.zI zs rb dg i.toNat k.toNat 7]
abbrev psi_z2 (xs ys : List Int) (n : Nat) (TA TB : Nat) (rb dg : Int) (i : Int) (k : Int) (zs ps : List Int) (m : Nat) : List Int := putI (psi_z1 xs ys n TA TB rb dg i k zs ps m) (k.toNat * 8) [M.zK zs rb dg i.toNat k.toNat 0, M.zK zs rb dg i.toNat k.toNat 1, M.zK zs rb dg i.toNat k.toNat 2, M.zK zs rb dg i.toNat k.toNat 3, M.zK zs rb dg i.toNat k.toNat 4, M.zK zs rb dg i.toNat k.toNat 5, M.zK zs rb dg i.toNat k.toNat 6, M.zK zs rb dg i.toNat k.toNat 7]
def psi_T (xs ys : List Int) (n : Nat) (TA TB : Nat) (rb dg : Int) (i : Int) (k : Int) (zs ps : List Int) (m : Nat) : List V := [V.yld 10, .ptr 9 0, .any 2, iV i, iV k, iV (↑n : Int), iV i, .any 7, .any 8, .any 9, .any 10, .any 11, .any 12, .any 13, .any 14, .any 15, .any 16, .any 17, .any 18, .any 19, .any 20, .any 21]
def psi_H (xs ys : List Int) (n : Nat) (TA TB : Nat) (rb dg : Int) (i : Int) (k : Int) (zs ps : List Int) (m : Nat) : Heap := [some (.cells (ints xs) TA .ro), some (.cells (ints ys) TB .ro), some (.cells [iV rb, iV dg] 56 .rw), some (.cells [V.raw (Value.slice none 0 0)] 58 .rw), some (.cells [V.raw (Value.slice none 0 0)] 67 .rw), some (.cells [iV 0] 32 .rw), some (.cells (ints zs) 124 (.row 8)), some (.cells [.slo 6 n] 116 .rw), some (.cells [V.slo 12 m] 67 .rw), some (.cells [iV (↑n : Int)] 3 .rw), some (Blk.rcd { t := [.slo 0 n, .slo 1 n, V.raw (.agg { toList := [.int .i64 rb, .int .i64 dg] }), uV, uV, .ptr 2 0, .ptr 3 0, .ptr 4 0, .ptr 5 0, .ptr 7 0, iV 0, iV 0, .ptr 8 0, uV, uV, uV, uV, uV, V.tup [.slo 6 n, iV 0], .slo 0 n, .slo 1 n, V.tup [.slo 6 n, iV 0], .slo 6 n, iV 0, iV 0, V.raw (.bool false), uV, V.raw (.agg { toList := [.int .i64 rb, .int .i64 dg] }), iV 0, iV 0, V.raw (.bool false), uV, .slo 6 n, iV (↑n : Int), V.fn (Fn.func 81) [] [.ptr 9 0], uV, uV, uV, uV, uV, uV, uV, uV, uV, uV, uV, uV, uV, uV, uV, uV, uV, uV, uV, uV, uV, uV, uV, uV, uV, uV, uV, uV, uV, uV, uV, uV, uV, uV, uV, uV, uV, uV, uV], f := 15, i := 0, st := RSt.ready }), none, some (.cells (ints ps) 71 (Own.row 2))]
theorem psi_1 (xs ys : List Int) (n : Nat) (TA TB : Nat) (rb dg : Int) (i : Int) (hn : n ≤ 8) (hx : M.bncB rb dg = true) (hi1 : 0 ≤ i) (hi2 : i < (n : Int)) (k : Int) (zs ps : List Int) (m : Nat) (hk1 : i < k) (hz : zs.length = n * 8) (hg : M.allZ zs n = true) (hp : ps.length = m * 2) (hm : m ≤ 100) (f0 : k < (↑n : Int)) (f1 : M.beZ zs rb dg i.toNat k.toNat = 0) : Runs cfx 0 12 none (loopOf cfx.P 81 1) (psi_T xs ys n TA TB rb dg i k zs ps m) (psi_H xs ys n TA TB rb dg i k zs ps m) (Ex.normal) (psi_T xs ys n TA TB rb dg i (k + 1) (putI (putI zs (i.toNat * 8) [M.zI zs rb dg i.toNat k.toNat 0, M.zI zs rb dg i.toNat k.toNat 1, M.zI zs rb dg i.toNat k.toNat 2, M.zI zs rb dg i.toNat k.toNat 3, M.zI zs rb dg i.toNat k.toNat 4, M.zI zs rb dg i.toNat k.toNat 5, M.zI zs rb dg i.toNat k.toNat 6, M.zI zs rb dg i.toNat k.toNat 7]) (k.toNat * 8) [M.zK zs rb dg i.toNat k.toNat 0, M.zK zs rb dg i.toNat k.toNat 1, M.zK zs rb dg i.toNat k.toNat 2, M.zK zs rb dg i.toNat k.toNat 3, M.zK zs rb dg i.toNat k.toNat 4, M.zK zs rb dg i.toNat k.toNat 5, M.zK zs rb dg i.toNat k.toNat 6, M.zK zs rb dg i.toNat k.toNat 7]) (ps ++ [i, k]) (m + 1)) (psi_H xs ys n TA TB rb dg i (k + 1) (putI (putI zs (i.toNat * 8) [M.zI zs rb dg i.toNat k.toNat 0, M.zI zs rb dg i.toNat k.toNat 1, M.zI zs rb dg i.toNat k.toNat 2, M.zI zs rb dg i.toNat k.toNat 3, M.zI zs rb dg i.toNat k.toNat 4, M.zI zs rb dg i.toNat k.toNat 5, M.zI zs rb dg i.toNat k.toNat 6, M.zI zs rb dg i.toNat k.toNat 7]) (k.toNat * 8) [M.zK zs rb dg i.toNat k.toNat 0, M.zK zs rb dg i.toNat k.toNat 1, M.zK zs rb dg i.toNat k.toNat 2, M.zK zs rb dg i.toNat k.toNat 3, M.zK zs rb dg i.toNat k.toNat 4, M.zK zs rb dg i.toNat k.toNat 5, M.zK zs rb dg i.toNat k.toNat 6, M.zK zs rb dg i.toNat k.toNat 7]) (ps ++ [i, k]) (m + 1)) := by
  refine Runs.post (t1 := [V.yld 10, .ptr 9 0, .any 2, iV i, iV (k + 1), iV (↑n : Int), iV i, .any 7, .any 8, .any 9, .any 10, iV k, iV (↑n : Int), V.raw (.bool (decide (k < (↑n : Int)))), iV k, iV (k + 1), V.yld 10, iV i, iV k, V.raw (.bool true), V.raw (.bool false), .any 21]) (h1 := [some (.cells (ints xs) TA .ro), some (.cells (ints ys) TB .ro), some (.cells [iV rb, iV dg] 56 .rw), some (.cells [V.raw (Value.slice none 0 0)] 58 .rw), some (.cells [V.raw (Value.slice none 0 0)] 67 .rw), some (.cells [iV 0] 32 .rw), some (.cells (ints (psi_z2 xs ys n TA TB rb dg i k zs ps m)) 124 (.row 8)), some (.cells [.slo 6 n] 116 .rw), some (.cells [.slo 16 (m + 1)] 67 .rw), some (.cells [iV (↑n : Int)] 3 .rw), some (Blk.rcd { t := [.slo 0 n, .slo 1 n, V.raw (.agg { toList := [.int .i64 rb, .int .i64 dg] }), uV, uV, .ptr 2 0, .ptr 3 0, .ptr 4 0, .ptr 5 0, .ptr 7 0, iV 0, iV 0, .ptr 8 0, uV, uV, uV, uV, uV, V.tup [.slo 6 n, iV 0], .slo 0 n, .slo 1 n, V.tup [.slo 6 n, iV 0], .slo 6 n, iV 0, iV 0, V.raw (.bool false), uV, V.raw (.agg { toList := [.int .i64 rb, .int .i64 dg] }), iV 0, iV 0, V.raw (.bool false), uV, .slo 6 n, iV (↑n : Int), V.fn (Fn.func 81) [] [.ptr 9 0], uV, uV, uV, uV, uV, uV, uV, uV, uV, uV, uV, uV, uV, uV, uV, uV, uV, uV, uV, uV, uV, uV, uV, uV, uV, uV, uV, uV, uV, uV, uV, uV, uV, uV, uV, uV, uV, uV, uV], f := 15, i := 0, st := RSt.ready }), none, none, some (.cells [iV (M.zI zs rb dg i.toNat k.toNat 0), iV (M.zI zs rb dg i.toNat k.toNat 1), iV (M.zI zs rb dg i.toNat k.toNat 2), iV (M.zI zs rb dg i.toNat k.toNat 3), iV (M.zI zs rb dg i.toNat k.toNat 4), iV (M.zI zs rb dg i.toNat k.toNat 5), iV (M.zI zs rb dg i.toNat k.toNat 6), iV (M.zI zs rb dg i.toNat k.toNat 7)] 124 .rw), some (.cells [iV (M.zK zs rb dg i.toNat k.toNat 0), iV (M.zK zs rb dg i.toNat k.toNat 1), iV (M.zK zs rb dg i.toNat k.toNat 2), iV (M.zK zs rb dg i.toNat k.toNat 3), iV (M.zK zs rb dg i.toNat k.toNat 4), iV (M.zK zs rb dg i.toNat k.toNat 5), iV (M.zK zs rb dg i.toNat k.toNat 6), iV (M.zK zs rb dg i.toNat k.toNat 7)] 124 .rw), some (.cells [iV i, iV k] 71 (.row 2)), some (.cells (ints (ps ++ [i, k])) 71 (.row 2))]) (body_of cfx_mixed cfx_call (Nat.zero_le _) (rnd := none) (fi := 0) (k := 0) (n := 40) (n0 := 12) (ans := [Ans.br true, Ans.olds [(17, 28), (16, 26)], Ans.val 6 ((rowV zs (i.toNat * 8) 8)), Ans.val 6 ((rowV zs (k.toNat * 8) 8)), Ans.ret (V.raw (.tuple { toList := [.agg { toList := [.int .i64 (M.zI zs rb dg i.toNat k.toNat 0), .int .i64 (M.zI zs rb dg i.toNat k.toNat 1), .int .i64 (M.zI zs rb dg i.toNat k.toNat 2), .int .i64 (M.zI zs rb dg i.toNat k.toNat 3), .int .i64 (M.zI zs rb dg i.toNat k.toNat 4), .int .i64 (M.zI zs rb dg i.toNat k.toNat 5), .int .i64 (M.zI zs rb dg i.toNat k.toNat 6), .int .i64 (M.zI zs rb dg i.toNat k.toNat 7)] }, .agg { toList := [.int .i64 (M.zK zs rb dg i.toNat k.toNat 0), .int .i64 (M.zK zs rb dg i.toNat k.toNat 1), .int .i64 (M.zK zs rb dg i.toNat k.toNat 2), .int .i64 (M.zK zs rb dg i.toNat k.toNat 3), .int .i64 (M.zK zs rb dg i.toNat k.toNat 4), .int .i64 (M.zK zs rb dg i.toNat k.toNat 5), .int .i64 (M.zK zs rb dg i.toNat k.toNat 6), .int .i64 (M.zK zs rb dg i.toNat k.toNat 7)] }, .int .i64 (M.beZ zs rb dg i.toNat k.toNat)] })), Ans.br true, Ans.olds [(9, 13), (7, 13)], Ans.cells 6 (ints (psi_z1 xs ys n TA TB rb dg i k zs ps m)), Ans.cells 6 (ints (psi_z2 xs ys n TA TB rb dg i k zs ps m)), Ans.cells 16 (ints (ps ++ [i, k])), Ans.br false]) (cons := [(decide (k < (↑n : Int)) = true), (0 ≤ i ∧ i < (↑n : Int)), (loadRow cfx 124 (ints zs) (i.toNat * 8) = some ((rowV zs (i.toNat * 8) 8))), (0 ≤ k ∧ k < (↑n : Int)), (loadRow cfx 124 (ints zs) (k.toNat * 8) = some ((rowV zs (k.toNat * 8) 8))), (Ret cfx 47 [V.raw (.agg { toList := [.int .i64 (at' zs (i.toNat * 8)), .int .i64 (at' zs (i.toNat * 8 + 1)), .int .i64 (at' zs (i.toNat * 8 + 2)), .int .i64 (at' zs (i.toNat * 8 + 3)), .int .i64 (at' zs (i.toNat * 8 + 4)), .int .i64 (at' zs (i.toNat * 8 + 5)), .int .i64 (at' zs (i.toNat * 8 + 6)), .int .i64 (at' zs (i.toNat * 8 + 7))] }), V.raw (.agg { toList := [.int .i64 (at' zs (k.toNat * 8)), .int .i64 (at' zs (k.toNat * 8 + 1)), .int .i64 (at' zs (k.toNat * 8 + 2)), .int .i64 (at' zs (k.toNat * 8 + 3)), .int .i64 (at' zs (k.toNat * 8 + 4)), .int .i64 (at' zs (k.toNat * 8 + 5)), .int .i64 (at' zs (k.toNat * 8 + 6)), .int .i64 (at' zs (k.toNat * 8 + 7))] }), V.raw (.agg { toList := [.int .i64 rb, .int .i64 dg] })] (V.raw (.tuple { toList := [.agg { toList := [.int .i64 (M.zI zs rb dg i.toNat k.toNat 0), .int .i64 (M.zI zs rb dg i.toNat k.toNat 1), .int .i64 (M.zI zs rb dg i.toNat k.toNat 2), .int .i64 (M.zI zs rb dg i.toNat k.toNat 3), .int .i64 (M.zI zs rb dg i.toNat k.toNat 4), .int .i64 (M.zI zs rb dg i.toNat k.toNat 5), .int .i64 (M.zI zs rb dg i.toNat k.toNat 6), .int .i64 (M.zI zs rb dg i.toNat k.toNat 7)] }, .agg { toList := [.int .i64 (M.zK zs rb dg i.toNat k.toNat 0), .int .i64 (M.zK zs rb dg i.toNat k.toNat 1), .int .i64 (M.zK zs rb dg i.toNat k.toNat 2), .int .i64 (M.zK zs rb dg i.toNat k.toNat 3), .int .i64 (M.zK zs rb dg i.toNat k.toNat 4), .int .i64 (M.zK zs rb dg i.toNat k.toNat 5), .int .i64 (M.zK zs rb dg i.toNat k.toNat 6), .int .i64 (M.zK zs rb dg i.toNat k.toNat 7)] }, .int .i64 (M.beZ zs rb dg i.toNat k.toNat)] }))), (decide (M.beZ zs rb dg i.toNat k.toNat = 0) = true), (0 ≤ i ∧ i < (↑n : Int)), (storeRow cfx 15 124 (ints zs) (i.toNat * 8) (V.raw (.agg { toList := [.int .i64 (M.zI zs rb dg i.toNat k.toNat 0), .int .i64 (M.zI zs rb dg i.toNat k.toNat 1), .int .i64 (M.zI zs rb dg i.toNat k.toNat 2), .int .i64 (M.zI zs rb dg i.toNat k.toNat 3), .int .i64 (M.zI zs rb dg i.toNat k.toNat 4), .int .i64 (M.zI zs rb dg i.toNat k.toNat 5), .int .i64 (M.zI zs rb dg i.toNat k.toNat 6), .int .i64 (M.zI zs rb dg i.toNat k.toNat 7)] })) = some (ints (psi_z1 xs ys n TA TB rb dg i k zs ps m))), ((ints (psi_z1 xs ys n TA TB rb dg i k zs ps m)).all isRawV = true), (0 ≤ k ∧ k < (↑n : Int)), (storeRow cfx 15 124 (ints (psi_z1 xs ys n TA TB rb dg i k zs ps m)) (k.toNat * 8) (V.raw (.agg { toList := [.int .i64 (M.zK zs rb dg i.toNat k.toNat 0), .int .i64 (M.zK zs rb dg i.toNat k.toNat 1), .int .i64 (M.zK zs rb dg i.toNat k.toNat 2), .int .i64 (M.zK zs rb dg i.toNat k.toNat 3), .int .i64 (M.zK zs rb dg i.toNat k.toNat 4), .int .i64 (M.zK zs rb dg i.toNat k.toNat 5), .int .i64 (M.zK zs rb dg i.toNat k.toNat 6), .int .i64 (M.zK zs rb dg i.toNat k.toNat 7)] })) = some (ints (psi_z2 xs ys n TA TB rb dg i k zs ps m))), ((ints (psi_z2 xs ys n TA TB rb dg i k zs ps m)).all isRawV = true), (1 ≤ 9223372036854775807), (1 * 2 ≤ List.length ([iV i, iV k] : List V)), (oneCells (List.take (1 * 2) ([iV i, iV k] : List V)) = true), (List.length ((ints ps) : List V) = m * 2), (m + 1 ≤ maxLen ∧ (m + 1) * 16 ≤ 140737488355328), (((ints ps) : List V) ++ (List.take (1 * 2) ([iV i, iV k] : List V)) = (ints (ps ++ [i, k]))), (false = false), (inR IntKind.i64 (k + 1))]) (by kernel_rfl)
    ⟨(by first | omega | (simp; omega) | (simp_all; omega)), (by omega), (load_agg 8 (by kernel_rfl) (by kernel_rfl) (Nat.le_of_ble_eq_true rfl) (by omega)), (by omega), (load_agg 8 (by kernel_rfl) (by kernel_rfl) (Nat.le_of_ble_eq_true rfl) (by omega)), (zB zs rb dg i.toNat k.toNat (all_range hg _ (by omega)) (all_range hg _ (by omega)) hx), (by first | assumption | exact flg (by first | assumption | omega) | (simp_all; done)), (by omega), (store_ints [M.zI zs rb dg i.toNat k.toNat 0, M.zI zs rb dg i.toNat k.toNat 1, M.zI zs rb dg i.toNat k.toNat 2, M.zI zs rb dg i.toNat k.toNat 3, M.zI zs rb dg i.toNat k.toNat 4, M.zI zs rb dg i.toNat k.toNat 5, M.zI zs rb dg i.toNat k.toNat 6, M.zI zs rb dg i.toNat k.toNat 7] rfl (by kernel_rfl) (Nat.le_of_ble_eq_true rfl) (by first | omega | (simp only [ints_len, putI_length, List.length_append, List.length_replicate, List.length_take, List.length_drop, List.length_cons, List.length_nil]; omega) | (simp only [ints_len, putI_length, List.length_append, List.length_replicate, List.length_take, List.length_drop, List.length_cons, List.length_nil]; done))), (by first | exact ints_all _ | rfl), (by omega), (store_ints [M.zK zs rb dg i.toNat k.toNat 0, M.zK zs rb dg i.toNat k.toNat 1, M.zK zs rb dg i.toNat k.toNat 2, M.zK zs rb dg i.toNat k.toNat 3, M.zK zs rb dg i.toNat k.toNat 4, M.zK zs rb dg i.toNat k.toNat 5, M.zK zs rb dg i.toNat k.toNat 6, M.zK zs rb dg i.toNat k.toNat 7] rfl (by kernel_rfl) (Nat.le_of_ble_eq_true rfl) (by first | omega | (simp only [ints_len, putI_length, List.length_append, List.length_replicate, List.length_take, List.length_drop, List.length_cons, List.length_nil]; omega) | (simp only [ints_len, putI_length, List.length_append, List.length_replicate, List.length_take, List.length_drop, List.length_cons, List.length_nil]; done))), (by first | exact ints_all _ | rfl), (by first | assumption | omega | (simp_all; done) | (simp_all; omega)), (by first | omega | (simp only [ints_len, putI_length, List.length_append, List.length_replicate, List.length_take, List.length_drop, List.length_cons, List.length_nil]; omega) | (simp only [ints_len, putI_length, List.length_append, List.length_replicate, List.length_take, List.length_drop, List.length_cons, List.length_nil]; done)), (by first | exact ones_take _ _ | rfl), (by first | omega | (simp only [ints_len, putI_length, List.length_append, List.length_replicate, List.length_take, List.length_drop, List.length_cons, List.length_nil]; omega) | (simp only [ints_len, putI_length, List.length_append, List.length_replicate, List.length_take, List.length_drop, List.length_cons, List.length_nil]; done)), (by unfold maxLen; constructor <;> omega), (by first | rfl | exact app_lit _ _ rfl | exact app_row _ _ _ | exact row_row0 _ _ | exact app_row0 _ _), rfl, inR_i64 (by omega) (by omega), trivial⟩ (Nat.le_of_ble_eq_true rfl) (Nat.le_of_ble_eq_true rfl) noRnd (noRanges (by kernel_rfl))) (fun RT RH => reshape2 (lim := 0) 12 cfx_G rfl [some 16] (by kernel_rfl) (by kernel_rfl) (by exact (ents_raw (ints_all _) rfl rfl (ents_raw (ints_all _) rfl rfl (ents_say rfl rfl rfl rfl (ents_say rfl rfl rfl rfl (ents_say rfl rfl rfl rfl (ents_say rfl rfl rfl rfl (ents_raw (ints_all _) rfl rfl (ents_say rfl rfl rfl rfl (ents_say rfl rfl rfl rfl (ents_say rfl rfl rfl rfl (ents_say rfl rfl rfl rfl (ents_none (ents_raw (ints_all _) rfl rfl (ents_nil))))))))))))))) RT RH)
def psi_T2 (xs ys : List Int) (n : Nat) (TA TB : Nat) (rb dg : Int) (i : Int) (k : Int) (zs ps : List Int) (m : Nat) : List V := [V.yld 10, .ptr 9 0, .any 2, iV i, iV k, iV (↑n : Int), iV i, .any 7, .any 8, .any 9, .any 10, .any 11, .any 12, .any 13, .any 14, .any 15, .any 16, .any 17, .any 18, .any 19, .any 20, .any 21]
def psi_H2 (xs ys : List Int) (n : Nat) (TA TB : Nat) (rb dg : Int) (i : Int) (k : Int) (zs ps : List Int) (m : Nat) : Heap := [some (.cells (ints xs) TA .ro), some (.cells (ints ys) TB .ro), some (.cells [iV rb, iV dg] 56 .rw), some (.cells [V.raw (Value.slice none 0 0)] 58 .rw), some (.cells [V.raw (Value.slice none 0 0)] 67 .rw), some (.cells [iV (M.beZ zs rb dg i.toNat k.toNat)] 32 .rw), some (.cells (ints zs) 124 (.row 8)), some (.cells [.slo 6 n] 116 .rw), some (.cells [.slo 12 m] 67 .rw), some (.cells [iV (↑n : Int)] 3 .rw), some (Blk.rcd { t := [.slo 0 n, .slo 1 n, V.raw (.agg { toList := [.int .i64 rb, .int .i64 dg] }), uV, uV, .ptr 2 0, .ptr 3 0, .ptr 4 0, .ptr 5 0, .ptr 7 0, iV 0, iV 0, .ptr 8 0, uV, uV, uV, uV, uV, V.tup [.slo 6 n, iV 0], .slo 0 n, .slo 1 n, V.tup [.slo 6 n, iV 0], .slo 6 n, iV 0, iV 0, V.raw (.bool false), uV, V.raw (.agg { toList := [.int .i64 rb, .int .i64 dg] }), iV 0, iV 0, V.raw (.bool false), uV, .slo 6 n, iV (↑n : Int), V.fn (Fn.func 81) [] [.ptr 9 0], uV, uV, uV, uV, uV, uV, uV, uV, uV, uV, uV, uV, uV, uV, uV, uV, uV, uV, uV, uV, uV, uV, uV, uV, uV, uV, uV, uV, uV, uV, uV, uV, uV, uV, uV, uV, uV, uV, uV], f := 15, i := 0, st := RSt.done Ex.ret }), none, some (.cells (ints ps) 71 (.row 2))]
theorem psi_2 (xs ys : List Int) (n : Nat) (TA TB : Nat) (rb dg : Int) (i : Int) (hn : n ≤ 8) (hx : M.bncB rb dg = true) (hi1 : 0 ≤ i) (hi2 : i < (n : Int)) (k : Int) (zs ps : List Int) (m : Nat) (hk1 : i < k) (hz : zs.length = n * 8) (hg : M.allZ zs n = true) (hp : ps.length = m * 2) (hm : m ≤ 100) (f0 : k < (↑n : Int)) (f1 : ¬M.beZ zs rb dg i.toNat k.toNat = 0) (f2 : M.beZ zs rb dg i.toNat k.toNat = 4) : Runs cfx 0 12 none (loopOf cfx.P 81 1) (psi_T xs ys n TA TB rb dg i k zs ps m) (psi_H xs ys n TA TB rb dg i k zs ps m) (Ex.ret) (psi_T2 xs ys n TA TB rb dg i k zs ps m) (psi_H2 xs ys n TA TB rb dg i k zs ps m) := by
  refine Runs.post (t1 := [V.yld 10, .ptr 9 0, .any 2, iV i, iV k, iV (↑n : Int), iV i, .any 7, .any 8, .any 9, .any 10, iV k, iV (↑n : Int), V.raw (.bool (decide (k < (↑n : Int)))), .any 14, .any 15, V.yld 10, iV i, iV k, V.raw (.bool false), V.raw (.bool true), .any 21]) (h1 := [some (.cells (ints xs) TA .ro), some (.cells (ints ys) TB .ro), some (.cells [iV rb, iV dg] 56 .rw), some (.cells [V.raw (Value.slice none 0 0)] 58 .rw), some (.cells [V.raw (Value.slice none 0 0)] 67 .rw), some (.cells [iV (M.beZ zs rb dg i.toNat k.toNat)] 32 .rw), some (.cells (ints zs) 124 (.row 8)), some (.cells [.slo 6 n] 116 .rw), some (.cells [.slo 12 m] 67 .rw), some (.cells [iV (↑n : Int)] 3 .rw), some (Blk.rcd { t := [.slo 0 n, .slo 1 n, V.raw (.agg { toList := [.int .i64 rb, .int .i64 dg] }), uV, uV, .ptr 2 0, .ptr 3 0, .ptr 4 0, .ptr 5 0, .ptr 7 0, iV 0, iV 0, .ptr 8 0, uV, uV, uV, uV, uV, V.tup [.slo 6 n, iV 0], .slo 0 n, .slo 1 n, V.tup [.slo 6 n, iV 0], .slo 6 n, iV 0, iV 0, V.raw (.bool false), uV, V.raw (.agg { toList := [.int .i64 rb, .int .i64 dg] }), iV 0, iV 0, V.raw (.bool false), uV, .slo 6 n, iV (↑n : Int), V.fn (Fn.func 81) [] [.ptr 9 0], uV, uV, uV, uV, uV, uV, uV, uV, uV, uV, uV, uV, uV, uV, uV, uV, uV, uV, uV, uV, uV, uV, uV, uV, uV, uV, uV, uV, uV, uV, uV, uV, uV, uV, uV, uV, uV, uV, uV], f := 15, i := 0, st := RSt.done Ex.ret }), none, some (.cells (ints ps) 71 (.row 2)), some (.cells [iV (M.zI zs rb dg i.toNat k.toNat 0), iV (M.zI zs rb dg i.toNat k.toNat 1), iV (M.zI zs rb dg i.toNat k.toNat 2), iV (M.zI zs rb dg i.toNat k.toNat 3), iV (M.zI zs rb dg i.toNat k.toNat 4), iV (M.zI zs rb dg i.toNat k.toNat 5), iV (M.zI zs rb dg i.toNat k.toNat 6), iV (M.zI zs rb dg i.toNat k.toNat 7)] 124 .rw), some (.cells [iV (M.zK zs rb dg i.toNat k.toNat 0), iV (M.zK zs rb dg i.toNat k.toNat 1), iV (M.zK zs rb dg i.toNat k.toNat 2), iV (M.zK zs rb dg i.toNat k.toNat 3), iV (M.zK zs rb dg i.toNat k.toNat 4), iV (M.zK zs rb dg i.toNat k.toNat 5), iV (M.zK zs rb dg i.toNat k.toNat 6), iV (M.zK zs rb dg i.toNat k.toNat 7)] 124 .rw)]) (body_of cfx_mixed cfx_call (Nat.zero_le _) (rnd := none) (fi := 0) (k := 0) (n := 40) (n0 := 12) (ans := [Ans.br true, Ans.olds [(17, 28), (16, 26)], Ans.val 6 ((rowV zs (i.toNat * 8) 8)), Ans.val 6 ((rowV zs (k.toNat * 8) 8)), Ans.ret (V.raw (.tuple { toList := [.agg { toList := [.int .i64 (M.zI zs rb dg i.toNat k.toNat 0), .int .i64 (M.zI zs rb dg i.toNat k.toNat 1), .int .i64 (M.zI zs rb dg i.toNat k.toNat 2), .int .i64 (M.zI zs rb dg i.toNat k.toNat 3), .int .i64 (M.zI zs rb dg i.toNat k.toNat 4), .int .i64 (M.zI zs rb dg i.toNat k.toNat 5), .int .i64 (M.zI zs rb dg i.toNat k.toNat 6), .int .i64 (M.zI zs rb dg i.toNat k.toNat 7)] }, .agg { toList := [.int .i64 (M.zK zs rb dg i.toNat k.toNat 0), .int .i64 (M.zK zs rb dg i.toNat k.toNat 1), .int .i64 (M.zK zs rb dg i.toNat k.toNat 2), .int .i64 (M.zK zs rb dg i.toNat k.toNat 3), .int .i64 (M.zK zs rb dg i.toNat k.toNat 4), .int .i64 (M.zK zs rb dg i.toNat k.toNat 5), .int .i64 (M.zK zs rb dg i.toNat k.toNat 6), .int .i64 (M.zK zs rb dg i.toNat k.toNat 7)] }, .int .i64 (M.beZ zs rb dg i.toNat k.toNat)] })), Ans.br false, Ans.br true, Ans.br true]) (cons := [(decide (k < (↑n : Int)) = true), (0 ≤ i ∧ i < (↑n : Int)), (loadRow cfx 124 (ints zs) (i.toNat * 8) = some ((rowV zs (i.toNat * 8) 8))), (0 ≤ k ∧ k < (↑n : Int)), (loadRow cfx 124 (ints zs) (k.toNat * 8) = some ((rowV zs (k.toNat * 8) 8))), (Ret cfx 47 [V.raw (.agg { toList := [.int .i64 (at' zs (i.toNat * 8)), .int .i64 (at' zs (i.toNat * 8 + 1)), .int .i64 (at' zs (i.toNat * 8 + 2)), .int .i64 (at' zs (i.toNat * 8 + 3)), .int .i64 (at' zs (i.toNat * 8 + 4)), .int .i64 (at' zs (i.toNat * 8 + 5)), .int .i64 (at' zs (i.toNat * 8 + 6)), .int .i64 (at' zs (i.toNat * 8 + 7))] }), V.raw (.agg { toList := [.int .i64 (at' zs (k.toNat * 8)), .int .i64 (at' zs (k.toNat * 8 + 1)), .int .i64 (at' zs (k.toNat * 8 + 2)), .int .i64 (at' zs (k.toNat * 8 + 3)), .int .i64 (at' zs (k.toNat * 8 + 4)), .int .i64 (at' zs (k.toNat * 8 + 5)), .int .i64 (at' zs (k.toNat * 8 + 6)), .int .i64 (at' zs (k.toNat * 8 + 7))] }), V.raw (.agg { toList := [.int .i64 rb, .int .i64 dg] })] (V.raw (.tuple { toList := [.agg { toList := [.int .i64 (M.zI zs rb dg i.toNat k.toNat 0), .int .i64 (M.zI zs rb dg i.toNat k.toNat 1), .int .i64 (M.zI zs rb dg i.toNat k.toNat 2), .int .i64 (M.zI zs rb dg i.toNat k.toNat 3), .int .i64 (M.zI zs rb dg i.toNat k.toNat 4), .int .i64 (M.zI zs rb dg i.toNat k.toNat 5), .int .i64 (M.zI zs rb dg i.toNat k.toNat 6), .int .i64 (M.zI zs rb dg i.toNat k.toNat 7)] }, .agg { toList := [.int .i64 (M.zK zs rb dg i.toNat k.toNat 0), .int .i64 (M.zK zs rb dg i.toNat k.toNat 1), .int .i64 (M.zK zs rb dg i.toNat k.toNat 2), .int .i64 (M.zK zs rb dg i.toNat k.toNat 3), .int .i64 (M.zK zs rb dg i.toNat k.toNat 4), .int .i64 (M.zK zs rb dg i.toNat k.toNat 5), .int .i64 (M.zK zs rb dg i.toNat k.toNat 6), .int .i64 (M.zK zs rb dg i.toNat k.toNat 7)] }, .int .i64 (M.beZ zs rb dg i.toNat k.toNat)] }))), (decide (M.beZ zs rb dg i.toNat k.toNat = 0) = false), (decide (M.beZ zs rb dg i.toNat k.toNat = 4) = true), (true = true)]) (by kernel_rfl)
    ⟨(by first | omega | (simp; omega) | (simp_all; omega)), (by omega), (load_agg 8 (by kernel_rfl) (by kernel_rfl) (Nat.le_of_ble_eq_true rfl) (by omega)), (by omega), (load_agg 8 (by kernel_rfl) (by kernel_rfl) (Nat.le_of_ble_eq_true rfl) (by omega)), (zB zs rb dg i.toNat k.toNat (all_range hg _ (by omega)) (all_range hg _ (by omega)) hx), (by first | assumption | exact flg (by first | assumption | omega) | (simp_all; done)), (by first | assumption | exact flg (by first | assumption | omega) | (simp_all; done)), rfl, trivial⟩ (Nat.le_of_ble_eq_true rfl) (Nat.le_of_ble_eq_true rfl) noRnd (noRanges (by kernel_rfl))) (fun RT RH => reshape2 (lim := 0) 12 cfx_G rfl [some 12] (by kernel_rfl) (by kernel_rfl) (by exact (ents_raw (ints_all _) rfl rfl (ents_raw (ints_all _) rfl rfl (ents_say rfl rfl rfl rfl (ents_say rfl rfl rfl rfl (ents_say rfl rfl rfl rfl (ents_say rfl rfl rfl rfl (ents_raw (ints_all _) rfl rfl (ents_say rfl rfl rfl rfl (ents_say rfl rfl rfl rfl (ents_say rfl rfl rfl rfl (ents_say rfl rfl rfl rfl (ents_none (ents_raw (ints_all _) rfl rfl (ents_nil))))))))))))))) RT RH)
theorem psi_3 (xs ys : List Int) (n : Nat) (TA TB : Nat) (rb dg : Int) (i : Int) (hn : n ≤ 8) (hx : M.bncB rb dg = true) (hi1 : 0 ≤ i) (hi2 : i < (n : Int)) (k : Int) (zs ps : List Int) (m : Nat) (hk1 : i < k) (hz : zs.length = n * 8) (hg : M.allZ zs n = true) (hp : ps.length = m * 2) (hm : m ≤ 100) (f0 : k < (↑n : Int)) (f1 : ¬M.beZ zs rb dg i.toNat k.toNat = 0) (f2 : ¬M.beZ zs rb dg i.toNat k.toNat = 4) : Runs cfx 0 12 none (loopOf cfx.P 81 1) (psi_T xs ys n TA TB rb dg i k zs ps m) (psi_H xs ys n TA TB rb dg i k zs ps m) (Ex.normal) (psi_T xs ys n TA TB rb dg i (k + 1) zs ps m) (psi_H xs ys n TA TB rb dg i (k + 1) zs ps m) := by
  refine Runs.post (t1 := [V.yld 10, .ptr 9 0, .any 2, iV i, iV (k + 1), iV (↑n : Int), iV i, .any 7, .any 8, .any 9, .any 10, iV k, iV (↑n : Int), V.raw (.bool (decide (k < (↑n : Int)))), iV k, iV (k + 1), V.yld 10, iV i, iV k, V.raw (.bool true), V.raw (.bool false), .any 21]) (h1 := [some (.cells (ints xs) TA .ro), some (.cells (ints ys) TB .ro), some (.cells [iV rb, iV dg] 56 .rw), some (.cells [V.raw (Value.slice none 0 0)] 58 .rw), some (.cells [V.raw (Value.slice none 0 0)] 67 .rw), some (.cells [iV 0] 32 .rw), some (.cells (ints zs) 124 (.row 8)), some (.cells [.slo 6 n] 116 .rw), some (.cells [.slo 12 m] 67 .rw), some (.cells [iV (↑n : Int)] 3 .rw), some (Blk.rcd { t := [.slo 0 n, .slo 1 n, V.raw (.agg { toList := [.int .i64 rb, .int .i64 dg] }), uV, uV, .ptr 2 0, .ptr 3 0, .ptr 4 0, .ptr 5 0, .ptr 7 0, iV 0, iV 0, .ptr 8 0, uV, uV, uV, uV, uV, V.tup [.slo 6 n, iV 0], .slo 0 n, .slo 1 n, V.tup [.slo 6 n, iV 0], .slo 6 n, iV 0, iV 0, V.raw (.bool false), uV, V.raw (.agg { toList := [.int .i64 rb, .int .i64 dg] }), iV 0, iV 0, V.raw (.bool false), uV, .slo 6 n, iV (↑n : Int), V.fn (Fn.func 81) [] [.ptr 9 0], uV, uV, uV, uV, uV, uV, uV, uV, uV, uV, uV, uV, uV, uV, uV, uV, uV, uV, uV, uV, uV, uV, uV, uV, uV, uV, uV, uV, uV, uV, uV, uV, uV, uV, uV, uV, uV, uV, uV], f := 15, i := 0, st := RSt.ready }), none, some (.cells (ints ps) 71 (.row 2)), some (.cells [iV (M.zI zs rb dg i.toNat k.toNat 0), iV (M.zI zs rb dg i.toNat k.toNat 1), iV (M.zI zs rb dg i.toNat k.toNat 2), iV (M.zI zs rb dg i.toNat k.toNat 3), iV (M.zI zs rb dg i.toNat k.toNat 4), iV (M.zI zs rb dg i.toNat k.toNat 5), iV (M.zI zs rb dg i.toNat k.toNat 6), iV (M.zI zs rb dg i.toNat k.toNat 7)] 124 .rw), some (.cells [iV (M.zK zs rb dg i.toNat k.toNat 0), iV (M.zK zs rb dg i.toNat k.toNat 1), iV (M.zK zs rb dg i.toNat k.toNat 2), iV (M.zK zs rb dg i.toNat k.toNat 3), iV (M.zK zs rb dg i.toNat k.toNat 4), iV (M.zK zs rb dg i.toNat k.toNat 5), iV (M.zK zs rb dg i.toNat k.toNat 6), iV (M.zK zs rb dg i.toNat k.toNat 7)] 124 .rw)]) (body_of cfx_mixed cfx_call (Nat.zero_le _) (rnd := none) (fi := 0) (k := 0) (n := 40) (n0 := 12) (ans := [Ans.br true, Ans.olds [(17, 28), (16, 26)], Ans.val 6 ((rowV zs (i.toNat * 8) 8)), Ans.val 6 ((rowV zs (k.toNat * 8) 8)), Ans.ret (V.raw (.tuple { toList := [.agg { toList := [.int .i64 (M.zI zs rb dg i.toNat k.toNat 0), .int .i64 (M.zI zs rb dg i.toNat k.toNat 1), .int .i64 (M.zI zs rb dg i.toNat k.toNat 2), .int .i64 (M.zI zs rb dg i.toNat k.toNat 3), .int .i64 (M.zI zs rb dg i.toNat k.toNat 4), .int .i64 (M.zI zs rb dg i.toNat k.toNat 5), .int .i64 (M.zI zs rb dg i.toNat k.toNat 6), .int .i64 (M.zI zs rb dg i.toNat k.toNat 7)] }, .agg { toList := [.int .i64 (M.zK zs rb dg i.toNat k.toNat 0), .int .i64 (M.zK zs rb dg i.toNat k.toNat 1), .int .i64 (M.zK zs rb dg i.toNat k.toNat 2), .int .i64 (M.zK zs rb dg i.toNat k.toNat 3), .int .i64 (M.zK zs rb dg i.toNat k.toNat 4), .int .i64 (M.zK zs rb dg i.toNat k.toNat 5), .int .i64 (M.zK zs rb dg i.toNat k.toNat 6), .int .i64 (M.zK zs rb dg i.toNat k.toNat 7)] }, .int .i64 (M.beZ zs rb dg i.toNat k.toNat)] })), Ans.br false, Ans.br false, Ans.br false]) (cons := [(decide (k < (↑n : Int)) = true), (0 ≤ i ∧ i < (↑n : Int)), (loadRow cfx 124 (ints zs) (i.toNat * 8) = some ((rowV zs (i.toNat * 8) 8))), (0 ≤ k ∧ k < (↑n : Int)), (loadRow cfx 124 (ints zs) (k.toNat * 8) = some ((rowV zs (k.toNat * 8) 8))), (Ret cfx 47 [V.raw (.agg { toList := [.int .i64 (at' zs (i.toNat * 8)), .int .i64 (at' zs (i.toNat * 8 + 1)), .int .i64 (at' zs (i.toNat * 8 + 2)), .int .i64 (at' zs (i.toNat * 8 + 3)), .int .i64 (at' zs (i.toNat * 8 + 4)), .int .i64 (at' zs (i.toNat * 8 + 5)), .int .i64 (at' zs (i.toNat * 8 + 6)), .int .i64 (at' zs (i.toNat * 8 + 7))] }), V.raw (.agg { toList := [.int .i64 (at' zs (k.toNat * 8)), .int .i64 (at' zs (k.toNat * 8 + 1)), .int .i64 (at' zs (k.toNat * 8 + 2)), .int .i64 (at' zs (k.toNat * 8 + 3)), .int .i64 (at' zs (k.toNat * 8 + 4)), .int .i64 (at' zs (k.toNat * 8 + 5)), .int .i64 (at' zs (k.toNat * 8 + 6)), .int .i64 (at' zs (k.toNat * 8 + 7))] }), V.raw (.agg { toList := [.int .i64 rb, .int .i64 dg] })] (V.raw (.tuple { toList := [.agg { toList := [.int .i64 (M.zI zs rb dg i.toNat k.toNat 0), .int .i64 (M.zI zs rb dg i.toNat k.toNat 1), .int .i64 (M.zI zs rb dg i.toNat k.toNat 2), .int .i64 (M.zI zs rb dg i.toNat k.toNat 3), .int .i64 (M.zI zs rb dg i.toNat k.toNat 4), .int .i64 (M.zI zs rb dg i.toNat k.toNat 5), .int .i64 (M.zI zs rb dg i.toNat k.toNat 6), .int .i64 (M.zI zs rb dg i.toNat k.toNat 7)] }, .agg { toList := [.int .i64 (M.zK zs rb dg i.toNat k.toNat 0), .int .i64 (M.zK zs rb dg i.toNat k.toNat 1), .int .i64 (M.zK zs rb dg i.toNat k.toNat 2), .int .i64 (M.zK zs rb dg i.toNat k.toNat 3), .int .i64 (M.zK zs rb dg i.toNat k.toNat 4), .int .i64 (M.zK zs rb dg i.toNat k.toNat 5), .int .i64 (M.zK zs rb dg i.toNat k.toNat 6), .int .i64 (M.zK zs rb dg i.toNat k.toNat 7)] }, .int .i64 (M.beZ zs rb dg i.toNat k.toNat)] }))), (decide (M.beZ zs rb dg i.toNat k.toNat = 0) = false), (decide (M.beZ zs rb dg i.toNat k.toNat = 4) = false), (false = false), (inR IntKind.i64 (k + 1))]) (by kernel_rfl)
    ⟨(by first | omega | (simp; omega) | (simp_all; omega)), (by omega), (load_agg 8 (by kernel_rfl) (by kernel_rfl) (Nat.le_of_ble_eq_true rfl) (by omega)), (by omega), (load_agg 8 (by kernel_rfl) (by kernel_rfl) (Nat.le_of_ble_eq_true rfl) (by omega)), (zB zs rb dg i.toNat k.toNat (all_range hg _ (by omega)) (all_range hg _ (by omega)) hx), (by first | assumption | exact flg (by first | assumption | omega) | (simp_all; done)), (by first | assumption | exact flg (by first | assumption | omega) | (simp_all; done)), rfl, inR_i64 (by omega) (by omega), trivial⟩ (Nat.le_of_ble_eq_true rfl) (Nat.le_of_ble_eq_true rfl) noRnd (noRanges (by kernel_rfl))) (fun RT RH => reshape2 (lim := 0) 12 cfx_G rfl [some 12] (by kernel_rfl) (by kernel_rfl) (by exact (ents_raw (ints_all _) rfl rfl (ents_raw (ints_all _) rfl rfl (ents_say rfl rfl rfl rfl (ents_say rfl rfl rfl rfl (ents_say rfl rfl rfl rfl (ents_say rfl rfl rfl rfl (ents_raw (ints_all _) rfl rfl (ents_say rfl rfl rfl rfl (ents_say rfl rfl rfl rfl (ents_say rfl rfl rfl rfl (ents_say rfl rfl rfl rfl (ents_none (ents_raw (ints_all _) rfl rfl (ents_nil))))))))))))))) RT RH)
def psi_T4 (xs ys : List Int) (n : Nat) (TA TB : Nat) (rb dg : Int) (i : Int) (k : Int) (zs ps : List Int) (m : Nat) : List V := [V.yld 10, .ptr 9 0, .any 2, iV i, iV k, iV (↑n : Int), iV i, .any 7, .any 8, .any 9, .any 10, .any 11, .any 12, .any 13, .any 14, .any 15, .any 16, .any 17, .any 18, .any 19, .any 20, .any 21]
def psi_H4 (xs ys : List Int) (n : Nat) (TA TB : Nat) (rb dg : Int) (i : Int) (k : Int) (zs ps : List Int) (m : Nat) : Heap := [some (.cells (ints xs) TA .ro), some (.cells (ints ys) TB .ro), some (.cells [iV rb, iV dg] 56 .rw), some (.cells [V.raw (Value.slice none 0 0)] 58 .rw), some (.cells [V.raw (Value.slice none 0 0)] 67 .rw), some (.cells [iV 0] 32 .rw), some (.cells (ints zs) 124 (.row 8)), some (.cells [.slo 6 n] 116 .rw), some (.cells [.slo 12 m] 67 .rw), some (.cells [iV (↑n : Int)] 3 .rw), some (Blk.rcd { t := [.slo 0 n, .slo 1 n, V.raw (.agg { toList := [.int .i64 rb, .int .i64 dg] }), uV, uV, .ptr 2 0, .ptr 3 0, .ptr 4 0, .ptr 5 0, .ptr 7 0, iV 0, iV 0, .ptr 8 0, uV, uV, uV, uV, uV, V.tup [.slo 6 n, iV 0], .slo 0 n, .slo 1 n, V.tup [.slo 6 n, iV 0], .slo 6 n, iV 0, iV 0, V.raw (.bool false), uV, V.raw (.agg { toList := [.int .i64 rb, .int .i64 dg] }), iV 0, iV 0, V.raw (.bool false), uV, .slo 6 n, iV (↑n : Int), V.fn (Fn.func 81) [] [.ptr 9 0], uV, uV, uV, uV, uV, uV, uV, uV, uV, uV, uV, uV, uV, uV, uV, uV, uV, uV, uV, uV, uV, uV, uV, uV, uV, uV, uV, uV, uV, uV, uV, uV, uV, uV, uV, uV, uV, uV, uV], f := 15, i := 0, st := RSt.ready }), none, some (.cells (ints ps) 71 (.row 2))]
theorem psi_4 (xs ys : List Int) (n : Nat) (TA TB : Nat) (rb dg : Int) (i : Int) (hn : n ≤ 8) (hx : M.bncB rb dg = true) (hi1 : 0 ≤ i) (hi2 : i < (n : Int)) (k : Int) (zs ps : List Int) (m : Nat) (hk1 : i < k) (hz : zs.length = n * 8) (hg : M.allZ zs n = true) (hp : ps.length = m * 2) (hm : m ≤ 100) (f0 : ¬k < (↑n : Int)) : Runs cfx 0 12 none (loopOf cfx.P 81 1) (psi_T xs ys n TA TB rb dg i k zs ps m) (psi_H xs ys n TA TB rb dg i k zs ps m) (Ex.exit 2) (psi_T4 xs ys n TA TB rb dg i k zs ps m) (psi_H4 xs ys n TA TB rb dg i k zs ps m) := by
  refine Runs.post (t1 := [V.yld 10, .ptr 9 0, .any 2, iV i, iV k, iV (↑n : Int), iV i, .any 7, .any 8, .any 9, .any 10, iV k, iV (↑n : Int), V.raw (.bool (decide (k < (↑n : Int)))), .any 14, .any 15, .any 16, .any 17, .any 18, .any 19, .any 20, .any 21]) (h1 := [some (.cells (ints xs) TA .ro), some (.cells (ints ys) TB .ro), some (.cells [iV rb, iV dg] 56 .rw), some (.cells [V.raw (Value.slice none 0 0)] 58 .rw), some (.cells [V.raw (Value.slice none 0 0)] 67 .rw), some (.cells [iV 0] 32 .rw), some (.cells (ints zs) 124 (.row 8)), some (.cells [.slo 6 n] 116 .rw), some (.cells [.slo 12 m] 67 .rw), some (.cells [iV (↑n : Int)] 3 .rw), some (Blk.rcd { t := [.slo 0 n, .slo 1 n, V.raw (.agg { toList := [.int .i64 rb, .int .i64 dg] }), uV, uV, .ptr 2 0, .ptr 3 0, .ptr 4 0, .ptr 5 0, .ptr 7 0, iV 0, iV 0, .ptr 8 0, uV, uV, uV, uV, uV, V.tup [.slo 6 n, iV 0], .slo 0 n, .slo 1 n, V.tup [.slo 6 n, iV 0], .slo 6 n, iV 0, iV 0, V.raw (.bool false), uV, V.raw (.agg { toList := [.int .i64 rb, .int .i64 dg] }), iV 0, iV 0, V.raw (.bool false), uV, .slo 6 n, iV (↑n : Int), V.fn (Fn.func 81) [] [.ptr 9 0], uV, uV, uV, uV, uV, uV, uV, uV, uV, uV, uV, uV, uV, uV, uV, uV, uV, uV, uV, uV, uV, uV, uV, uV, uV, uV, uV, uV, uV, uV, uV, uV, uV, uV, uV, uV, uV, uV, uV], f := 15, i := 0, st := RSt.ready }), none, some (.cells (ints ps) 71 (.row 2))]) (body_of cfx_mixed cfx_call (Nat.zero_le _) (rnd := none) (fi := 0) (k := 0) (n := 40) (n0 := 12) (ans := [Ans.br false]) (cons := [(decide (k < (↑n : Int)) = false)]) (by kernel_rfl)
    ⟨(by first | omega | (simp; omega) | (simp_all; omega)), trivial⟩ (Nat.le_of_ble_eq_true rfl) (Nat.le_of_ble_eq_true rfl) noRnd (noRanges (by kernel_rfl))) (fun RT RH => reshape2 (lim := 0) 12 cfx_G rfl [some 12] (by kernel_rfl) (by kernel_rfl) (by exact (ents_raw (ints_all _) rfl rfl (ents_raw (ints_all _) rfl rfl (ents_say rfl rfl rfl rfl (ents_say rfl rfl rfl rfl (ents_say rfl rfl rfl rfl (ents_say rfl rfl rfl rfl (ents_raw (ints_all _) rfl rfl (ents_say rfl rfl rfl rfl (ents_say rfl rfl rfl rfl (ents_say rfl rfl rfl rfl (ents_say rfl rfl rfl rfl (ents_none (ents_raw (ints_all _) rfl rfl (ents_nil))))))))))))))) RT RH)
theorem psi_loop (xs ys : List Int) (n : Nat) (TA TB : Nat) (rb dg : Int) (hn : n ≤ 8) (hx : M.bncB rb dg = true) (i : Nat) (hi : i < n) (s : M.St) (hs : M.InvO n i s) (hg : M.allB xs s.os n = true) :
    (∃ s', M.inn xs rb dg n i s = some s' ∧ (M.InvO n (i + 1) s' ∧ M.allB xs s'.os n = true) ∧ Runs cfx 0 12 none (.loop (loopOf cfx.P 81 1)) (psi_T xs ys n TA TB rb dg i (i + 1) (M.roll xs s.os n) s.ps s.m) (psi_H xs ys n TA TB rb dg i (i + 1) (M.roll xs s.os n) s.ps s.m) (.exit 2) (psi_T4 xs ys n TA TB rb dg i n (M.roll xs s'.os n) s'.ps s'.m) (psi_H4 xs ys n TA TB rb dg i n (M.roll xs s'.os n) s'.ps s'.m)) ∨
    (M.inn xs rb dg n i s = none ∧ ∃ (k : Nat) (s' : M.St), M.beZ (M.roll xs s'.os n) rb dg i k = 4 ∧ Runs cfx 0 12 none (.loop (loopOf cfx.P 81 1)) (psi_T xs ys n TA TB rb dg i (i + 1) (M.roll xs s.os n) s.ps s.m) (psi_H xs ys n TA TB rb dg i (i + 1) (M.roll xs s.os n) s.ps s.m) (.ret) (psi_T2 xs ys n TA TB rb dg i k (M.roll xs s'.os n) s'.ps s'.m) (psi_H2 xs ys n TA TB rb dg i k (M.roll xs s'.os n) s'.ps s'.m)) := by
  obtain ⟨v1, v2, v3⟩ := hs
  have key := upto_opt (c := cfx) (lim := 0) (n0 := 12) (x := loopOf cfx.P 81 1) noRnd (fun k s => M.stpC xs rb dg i k s) (fun k s => psi_T xs ys n TA TB rb dg i (k : Nat) (M.roll xs s.os n) s.ps s.m) (fun k s => psi_H xs ys n TA TB rb dg i (k : Nat) (M.roll xs s.os n) s.ps s.m) (fun k s => M.Inv n i k s ∧ M.allB xs s.os n = true) n (e := .exit 2) (e1 := .ret)
    (fun s => psi_T4 xs ys n TA TB rb dg i n (M.roll xs s.os n) s.ps s.m) (fun s => psi_H4 xs ys n TA TB rb dg i n (M.roll xs s.os n) s.ps s.m) (fun k s => psi_T2 xs ys n TA TB rb dg i (k : Nat) (M.roll xs s.os n) s.ps s.m) (fun k s => psi_H2 xs ys n TA TB rb dg i (k : Nat) (M.roll xs s.os n) s.ps s.m) (by simp) (by simp) (i + 1)
    (fun k s s' h0 hk hv hf => by
      obtain ⟨hv, hg⟩ := hv
      refine ⟨⟨hv.step hi hk hf, M.allB_step hi hk (by omega) hv.1 hf hg⟩, ?_⟩
      obtain ⟨w1, w2, w3⟩ := hv
      have hgz : M.allZ (M.roll xs s.os n) n = true := by rw [M.allZ_roll]; exact hg
      have hbe := (M.beZ_roll (xs := xs) (os := s.os) (rb := rb) (dg := dg) hi hk).1
      obtain ⟨h4, ⟨hE, rfl⟩ | ⟨hE, rfl⟩⟩ := M.stp_cases hf
      · have := psi_1 xs ys n TA TB rb dg i hn hx (by omega) (by omega) k (M.roll xs s.os n) s.ps s.m (by omega) (M.roll_len _ _ _) hgz w2 (by omega) (by omega) (by simp only [Int.toNat_natCast]; rw [hbe]; exact hE)
        simp only [Int.toNat_natCast] at this
        rw [M.bounce_roll hi hk (by omega) w1 hE] at this
        exact this
      · exact psi_3 xs ys n TA TB rb dg i hn hx (by omega) (by omega) k (M.roll xs s'.os n) s'.ps s'.m (by omega) (M.roll_len _ _ _) hgz w2 (by omega) (by omega) (by simp only [Int.toNat_natCast]; rw [hbe]; exact hE) (by simp only [Int.toNat_natCast]; rw [hbe]; exact h4))
    (fun k s h0 hk hv hf => by
      obtain ⟨⟨w1, w2, w3⟩, hg⟩ := hv
      have hgz : M.allZ (M.roll xs s.os n) n = true := by rw [M.allZ_roll]; exact hg
      have hbe := (M.beZ_roll (xs := xs) (os := s.os) (rb := rb) (dg := dg) hi hk).1
      have h4 := M.stp_none hf
      exact psi_2 xs ys n TA TB rb dg i hn hx (by omega) (by omega) k (M.roll xs s.os n) s.ps s.m (by omega) (M.roll_len _ _ _) hgz w2 (by omega) (by omega) (by simp only [Int.toNat_natCast]; rw [hbe, h4]; decide) (by simp only [Int.toNat_natCast]; rw [hbe]; exact h4))
    (fun s hv => by
      obtain ⟨⟨w1, w2, w3⟩, hg⟩ := hv
      have hgz : M.allZ (M.roll xs s.os n) n = true := by rw [M.allZ_roll]; exact hg
      exact psi_4 xs ys n TA TB rb dg i hn hx (by omega) (by omega) n (M.roll xs s.os n) s.ps s.m (by omega) (M.roll_len _ _ _) hgz w2 (by omega) (by omega))
    (n - (i + 1)) (i + 1) s (Nat.le_refl _) (by omega) ⟨⟨v1, v2, by omega⟩, hg⟩
  rcases key with ⟨s', q1, ⟨⟨w1, w2, w3⟩, q4⟩, q3⟩ | ⟨q1, k, s', g1, g2, ⟨⟨w1, w2, w3⟩, _⟩, q6, q5⟩
  · exact .inl ⟨s', q1, ⟨⟨w1, w2, by omega⟩, q4⟩, q3⟩
  · exact .inr ⟨q1, k, s', by rw [(M.beZ_roll hi g2).1]; exact M.stp_none q6, q5⟩
theorem psa_1 (xs ys : List Int) (n : Nat) (TA TB : Nat) (rb dg : Int) (hn : n ≤ 8) (i : Int) (zs ps : List Int) (m : Nat) (hi1 : 0 ≤ i) (hi2 : i < (n : Int)) (zs2 ps2 : List Int) (m2 : Nat) (hR : Runs cfx 0 12 none (.loop (loopOf cfx.P 81 1)) (psi_T xs ys n TA TB rb dg i (i + 1) zs ps m) (psi_H xs ys n TA TB rb dg i (i + 1) zs ps m) (.exit 2) (psi_T4 xs ys n TA TB rb dg i n zs2 ps2 m2) (psi_H4 xs ys n TA TB rb dg i n zs2 ps2 m2))  : Runs cfx 0 11 none (loopOf cfx.P 81 0) (pse_T xs ys n TA TB rb dg i zs ps m) (pse_H xs ys n TA TB rb dg i zs ps m) (Ex.normal) (pse_T xs ys n TA TB rb dg (i + 1) zs2 ps2 m2) (pse_H xs ys n TA TB rb dg (i + 1) zs2 ps2 m2) := by
  refine Runs.post (t1 := [V.yld 10, .ptr 9 0, .any 2, iV i, iV (↑n : Int), iV (↑n : Int), iV (i + 1), .any 7, .any 8, .any 9, .any 10, .any 11, .any 12, .any 13, .any 14, .any 15, .any 16, .any 17, .any 18, .any 19, .any 20, iV (i + 1)]) (h1 := [some (.cells (ints xs) TA .ro), some (.cells (ints ys) TB .ro), some (.cells [iV rb, iV dg] 56 .rw), some (.cells [V.raw (Value.slice none 0 0)] 58 .rw), some (.cells [V.raw (Value.slice none 0 0)] 67 .rw), some (.cells [iV 0] 32 .rw), some (.cells (ints zs2) 124 (.row 8)), some (.cells [.slo 6 n] 116 .rw), some (.cells [.slo 12 m2] 67 .rw), some (.cells [iV (↑n : Int)] 3 .rw), some (Blk.rcd { t := [.slo 0 n, .slo 1 n, V.raw (.agg { toList := [.int .i64 rb, .int .i64 dg] }), uV, uV, .ptr 2 0, .ptr 3 0, .ptr 4 0, .ptr 5 0, .ptr 7 0, iV 0, iV 0, .ptr 8 0, uV, uV, uV, uV, uV, V.tup [.slo 6 n, iV 0], .slo 0 n, .slo 1 n, V.tup [.slo 6 n, iV 0], .slo 6 n, iV 0, iV 0, V.raw (.bool false), uV, V.raw (.agg { toList := [.int .i64 rb, .int .i64 dg] }), iV 0, iV 0, V.raw (.bool false), uV, .slo 6 n, iV (↑n : Int), V.fn (Fn.func 81) [] [.ptr 9 0], uV, uV, uV, uV, uV, uV, uV, uV, uV, uV, uV, uV, uV, uV, uV, uV, uV, uV, uV, uV, uV, uV, uV, uV, uV, uV, uV, uV, uV, uV, uV, uV, uV, uV, uV, uV, uV, uV, uV], f := 15, i := 0, st := RSt.ready }), none, some (.cells (ints ps2) 71 (.row 2))]) (body_of cfx_mixed cfx_call (Nat.zero_le _) (rnd := none) (fi := 0) (k := 0) (n := 40) (n0 := 11) (ans := [Ans.br true, Ans.loop (Ex.exit 2) [V.yld 10, .ptr 9 0, .any 2, iV i, iV (↑n : Int), iV (↑n : Int), iV i, .any 7, .any 8, .any 9, .any 10, .any 11, .any 12, .any 13, .any 14, .any 15, .any 16, .any 17, .any 18, .any 19, .any 20, .any 21] [some (.cells (ints xs) TA .ro), some (.cells (ints ys) TB .ro), some (.cells [iV rb, iV dg] 56 .rw), some (.cells [V.raw (Value.slice none 0 0)] 58 .rw), some (.cells [V.raw (Value.slice none 0 0)] 67 .rw), some (.cells [iV 0] 32 .rw), some (.cells (ints zs2) 124 (.row 8)), some (.cells [.slo 6 n] 116 .rw), some (.cells [.slo 12 m2] 67 .rw), some (.cells [iV (↑n : Int)] 3 .rw), some (Blk.rcd { t := [.slo 0 n, .slo 1 n, V.raw (.agg { toList := [.int .i64 rb, .int .i64 dg] }), uV, uV, .ptr 2 0, .ptr 3 0, .ptr 4 0, .ptr 5 0, .ptr 7 0, iV 0, iV 0, .ptr 8 0, uV, uV, uV, uV, uV, V.tup [.slo 6 n, iV 0], .slo 0 n, .slo 1 n, V.tup [.slo 6 n, iV 0], .slo 6 n, iV 0, iV 0, V.raw (.bool false), uV, V.raw (.agg { toList := [.int .i64 rb, .int .i64 dg] }), iV 0, iV 0, V.raw (.bool false), uV, .slo 6 n, iV (↑n : Int), V.fn (Fn.func 81) [] [.ptr 9 0], uV, uV, uV, uV, uV, uV, uV, uV, uV, uV, uV, uV, uV, uV, uV, uV, uV, uV, uV, uV, uV, uV, uV, uV, uV, uV, uV, uV, uV, uV, uV, uV, uV, uV, uV, uV, uV, uV, uV], f := 15, i := 0, st := RSt.ready }), none, some (.cells (ints ps2) 71 (.row 2))]]) (cons := [(decide (i < (↑n : Int)) = true), (inR IntKind.i64 (i + 1)), (Runs cfx 0 12 none (.loop (loopOf cfx.P 81 1)) [V.yld 10, .ptr 9 0, .any 2, iV i, iV (i + 1), iV (↑n : Int), iV i, V.raw (.bool (decide (i < (↑n : Int)))), iV i, iV i, iV (i + 1), .any 11, .any 12, .any 13, .any 14, .any 15, .any 16, .any 17, .any 18, .any 19, .any 20, .any 21] [some (.cells (ints xs) TA .ro), some (.cells (ints ys) TB .ro), some (.cells [iV rb, iV dg] 56 .rw), some (.cells [V.raw (Value.slice none 0 0)] 58 .rw), some (.cells [V.raw (Value.slice none 0 0)] 67 .rw), some (.cells [iV 0] 32 .rw), some (.cells (ints zs) 124 (.row 8)), some (.cells [.slo 6 n] 116 .rw), some (.cells [.slo 11 m] 67 .rw), some (.cells [iV (↑n : Int)] 3 .rw), some (Blk.rcd { t := [.slo 0 n, .slo 1 n, V.raw (.agg { toList := [.int .i64 rb, .int .i64 dg] }), uV, uV, .ptr 2 0, .ptr 3 0, .ptr 4 0, .ptr 5 0, .ptr 7 0, iV 0, iV 0, .ptr 8 0, uV, uV, uV, uV, uV, V.tup [.slo 6 n, iV 0], .slo 0 n, .slo 1 n, V.tup [.slo 6 n, iV 0], .slo 6 n, iV 0, iV 0, V.raw (.bool false), uV, V.raw (.agg { toList := [.int .i64 rb, .int .i64 dg] }), iV 0, iV 0, V.raw (.bool false), uV, .slo 6 n, iV (↑n : Int), V.fn (Fn.func 81) [] [.ptr 9 0], uV, uV, uV, uV, uV, uV, uV, uV, uV, uV, uV, uV, uV, uV, uV, uV, uV, uV, uV, uV, uV, uV, uV, uV, uV, uV, uV, uV, uV, uV, uV, uV, uV, uV, uV, uV, uV, uV, uV], f := 15, i := 0, st := RSt.ready }), some (.cells (ints ps) 71 (.row 2))] (Ex.exit 2) [V.yld 10, .ptr 9 0, .any 2, iV i, iV (↑n : Int), iV (↑n : Int), iV i, .any 7, .any 8, .any 9, .any 10, .any 11, .any 12, .any 13, .any 14, .any 15, .any 16, .any 17, .any 18, .any 19, .any 20, .any 21] [some (.cells (ints xs) TA .ro), some (.cells (ints ys) TB .ro), some (.cells [iV rb, iV dg] 56 .rw), some (.cells [V.raw (Value.slice none 0 0)] 58 .rw), some (.cells [V.raw (Value.slice none 0 0)] 67 .rw), some (.cells [iV 0] 32 .rw), some (.cells (ints zs2) 124 (.row 8)), some (.cells [.slo 6 n] 116 .rw), some (.cells [.slo 12 m2] 67 .rw), some (.cells [iV (↑n : Int)] 3 .rw), some (Blk.rcd { t := [.slo 0 n, .slo 1 n, V.raw (.agg { toList := [.int .i64 rb, .int .i64 dg] }), uV, uV, .ptr 2 0, .ptr 3 0, .ptr 4 0, .ptr 5 0, .ptr 7 0, iV 0, iV 0, .ptr 8 0, uV, uV, uV, uV, uV, V.tup [.slo 6 n, iV 0], .slo 0 n, .slo 1 n, V.tup [.slo 6 n, iV 0], .slo 6 n, iV 0, iV 0, V.raw (.bool false), uV, V.raw (.agg { toList := [.int .i64 rb, .int .i64 dg] }), iV 0, iV 0, V.raw (.bool false), uV, .slo 6 n, iV (↑n : Int), V.fn (Fn.func 81) [] [.ptr 9 0], uV, uV, uV, uV, uV, uV, uV, uV, uV, uV, uV, uV, uV, uV, uV, uV, uV, uV, uV, uV, uV, uV, uV, uV, uV, uV, uV, uV, uV, uV, uV, uV, uV, uV, uV, uV, uV, uV, uV], f := 15, i := 0, st := RSt.ready }), none, some (.cells (ints ps2) 71 (.row 2))]), (inR IntKind.i64 (i + 1))]) (by kernel_rfl)
    ⟨(by first | omega | (simp; omega) | (simp_all; omega)), inR_i64 (by omega) (by omega), (by
      refine Runs.pre (fun b e => by cases e) (fun RT RH => ?_) (hR)
      exact reshape2 (lim := 0) 12 (t := [V.yld 10, .ptr 9 0, .any 2, iV i, iV (i + 1), iV (↑n : Int), iV i, V.raw (.bool (decide (i < (↑n : Int)))), iV i, iV i, iV (i + 1), .any 11, .any 12, .any 13, .any 14, .any 15, .any 16, .any 17, .any 18, .any 19, .any 20, .any 21]) (h := [some (.cells (ints xs) TA .ro), some (.cells (ints ys) TB .ro), some (.cells [iV rb, iV dg] 56 .rw), some (.cells [V.raw (Value.slice none 0 0)] 58 .rw), some (.cells [V.raw (Value.slice none 0 0)] 67 .rw), some (.cells [iV 0] 32 .rw), some (.cells (ints zs) 124 (.row 8)), some (.cells [.slo 6 n] 116 .rw), some (.cells [.slo 11 m] 67 .rw), some (.cells [iV (↑n : Int)] 3 .rw), some (Blk.rcd { t := [.slo 0 n, .slo 1 n, V.raw (.agg { toList := [.int .i64 rb, .int .i64 dg] }), uV, uV, .ptr 2 0, .ptr 3 0, .ptr 4 0, .ptr 5 0, .ptr 7 0, iV 0, iV 0, .ptr 8 0, uV, uV, uV, uV, uV, V.tup [.slo 6 n, iV 0], .slo 0 n, .slo 1 n, V.tup [.slo 6 n, iV 0], .slo 6 n, iV 0, iV 0, V.raw (.bool false), uV, V.raw (.agg { toList := [.int .i64 rb, .int .i64 dg] }), iV 0, iV 0, V.raw (.bool false), uV, .slo 6 n, iV (↑n : Int), V.fn (Fn.func 81) [] [.ptr 9 0], uV, uV, uV, uV, uV, uV, uV, uV, uV, uV, uV, uV, uV, uV, uV, uV, uV, uV, uV, uV, uV, uV, uV, uV, uV, uV, uV, uV, uV, uV, uV, uV, uV, uV, uV, uV, uV, uV, uV], f := 15, i := 0, st := RSt.ready }), some (.cells (ints ps) 71 (.row 2))]) cfx_G rfl [some 11] (by kernel_rfl) (by kernel_rfl) (by repeat first | exact ents_nil | refine ents_none ?_ | refine ents_raw (ints_all _) rfl rfl ?_ | refine ents_raw (bools_all _) rfl rfl ?_ | refine ents_raw (mix_all _ _) rfl rfl ?_ | refine ents_say rfl rfl rfl rfl ?_ | refine ents_nilC rfl rfl ?_) RT RH), inR_i64 (by omega) (by omega), trivial⟩ (Nat.le_of_ble_eq_true rfl) (Nat.le_of_ble_eq_true rfl) noRnd (noRanges (by kernel_rfl))) (fun RT RH => reshape2 (lim := 0) 11 cfx_G rfl [some 12] (by kernel_rfl) (by kernel_rfl) (by exact (ents_raw (ints_all _) rfl rfl (ents_raw (ints_all _) rfl rfl (ents_say rfl rfl rfl rfl (ents_say rfl rfl rfl rfl (ents_say rfl rfl rfl rfl (ents_say rfl rfl rfl rfl (ents_raw (ints_all _) rfl rfl (ents_say rfl rfl rfl rfl (ents_say rfl rfl rfl rfl (ents_say rfl rfl rfl rfl (ents_say rfl rfl rfl rfl (ents_raw (ints_all _) rfl rfl (ents_nil)))))))))))))) RT RH)
def psb_T1 (xs ys : List Int) (n : Nat) (TA TB : Nat) (rb dg : Int) (i : Int) (zs ps : List Int) (m : Nat) (zs2 ps2 : List Int) (m2 : Nat) (k : Nat) : List V := [V.yld 10, .ptr 9 0, .any 2, .any 3, .any 4, iV (↑n : Int), iV i, .any 7, .any 8, .any 9, .any 10, .any 11, .any 12, .any 13, .any 14, .any 15, .any 16, .any 17, .any 18, .any 19, .any 20, .any 21]
def psb_H1 (xs ys : List Int) (n : Nat) (TA TB : Nat) (rb dg : Int) (i : Int) (zs ps : List Int) (m : Nat) (zs2 ps2 : List Int) (m2 : Nat) (k : Nat) : Heap := [some (.cells (ints xs) TA .ro), some (.cells (ints ys) TB .ro), some (.cells [iV rb, iV dg] 56 .rw), some (.cells [V.raw (Value.slice none 0 0)] 58 .rw), some (.cells [V.raw (Value.slice none 0 0)] 67 .rw), some (.cells [iV (M.beZ zs2 rb dg i.toNat k)] 32 .rw), some (.cells (ints zs2) 124 (.row 8)), some (.cells [.slo 6 n] 116 .rw), some (.cells [.slo 11 m2] 67 .rw), some (.cells [iV (↑n : Int)] 3 .rw), some (Blk.rcd { t := [.slo 0 n, .slo 1 n, V.raw (.agg { toList := [.int .i64 rb, .int .i64 dg] }), uV, uV, .ptr 2 0, .ptr 3 0, .ptr 4 0, .ptr 5 0, .ptr 7 0, iV 0, iV 0, .ptr 8 0, uV, uV, uV, uV, uV, V.tup [.slo 6 n, iV 0], .slo 0 n, .slo 1 n, V.tup [.slo 6 n, iV 0], .slo 6 n, iV 0, iV 0, V.raw (.bool false), uV, V.raw (.agg { toList := [.int .i64 rb, .int .i64 dg] }), iV 0, iV 0, V.raw (.bool false), uV, .slo 6 n, iV (↑n : Int), V.fn (Fn.func 81) [] [.ptr 9 0], uV, uV, uV, uV, uV, uV, uV, uV, uV, uV, uV, uV, uV, uV, uV, uV, uV, uV, uV, uV, uV, uV, uV, uV, uV, uV, uV, uV, uV, uV, uV, uV, uV, uV, uV, uV, uV, uV, uV], f := 15, i := 0, st := RSt.done Ex.ret }), some (.cells (ints ps2) 71 (.row 2))]
theorem psb_1 (xs ys : List Int) (n : Nat) (TA TB : Nat) (rb dg : Int) (hn : n ≤ 8) (i : Int) (zs ps : List Int) (m : Nat) (hi1 : 0 ≤ i) (hi2 : i < (n : Int)) (zs2 ps2 : List Int) (m2 : Nat) (k : Nat) (hR : Runs cfx 0 12 none (.loop (loopOf cfx.P 81 1)) (psi_T xs ys n TA TB rb dg i (i + 1) zs ps m) (psi_H xs ys n TA TB rb dg i (i + 1) zs ps m) (.ret) (psi_T2 xs ys n TA TB rb dg i k zs2 ps2 m2) (psi_H2 xs ys n TA TB rb dg i k zs2 ps2 m2))  : Runs cfx 0 11 none (loopOf cfx.P 81 0) (pse_T xs ys n TA TB rb dg i zs ps m) (pse_H xs ys n TA TB rb dg i zs ps m) (Ex.ret) (psb_T1 xs ys n TA TB rb dg i zs ps m zs2 ps2 m2 k) (psb_H1 xs ys n TA TB rb dg i zs ps m zs2 ps2 m2 k) := by
  refine Runs.post (t1 := [V.yld 10, .ptr 9 0, .any 2, iV i, iV (↑k : Int), iV (↑n : Int), iV i, .any 7, .any 8, .any 9, .any 10, .any 11, .any 12, .any 13, .any 14, .any 15, .any 16, .any 17, .any 18, .any 19, .any 20, .any 21]) (h1 := [some (.cells (ints xs) TA .ro), some (.cells (ints ys) TB .ro), some (.cells [iV rb, iV dg] 56 .rw), some (.cells [V.raw (Value.slice none 0 0)] 58 .rw), some (.cells [V.raw (Value.slice none 0 0)] 67 .rw), some (.cells [iV (M.beZ zs2 rb dg i.toNat k)] 32 .rw), some (.cells (ints zs2) 124 (.row 8)), some (.cells [.slo 6 n] 116 .rw), some (.cells [.slo 12 m2] 67 .rw), some (.cells [iV (↑n : Int)] 3 .rw), some (Blk.rcd { t := [.slo 0 n, .slo 1 n, V.raw (.agg { toList := [.int .i64 rb, .int .i64 dg] }), uV, uV, .ptr 2 0, .ptr 3 0, .ptr 4 0, .ptr 5 0, .ptr 7 0, iV 0, iV 0, .ptr 8 0, uV, uV, uV, uV, uV, V.tup [.slo 6 n, iV 0], .slo 0 n, .slo 1 n, V.tup [.slo 6 n, iV 0], .slo 6 n, iV 0, iV 0, V.raw (.bool false), uV, V.raw (.agg { toList := [.int .i64 rb, .int .i64 dg] }), iV 0, iV 0, V.raw (.bool false), uV, .slo 6 n, iV (↑n : Int), V.fn (Fn.func 81) [] [.ptr 9 0], uV, uV, uV, uV, uV, uV, uV, uV, uV, uV, uV, uV, uV, uV, uV, uV, uV, uV, uV, uV, uV, uV, uV, uV, uV, uV, uV, uV, uV, uV, uV, uV, uV, uV, uV, uV, uV, uV, uV], f := 15, i := 0, st := RSt.done Ex.ret }), none, some (.cells (ints ps2) 71 (.row 2))]) (body_of cfx_mixed cfx_call (Nat.zero_le _) (rnd := none) (fi := 0) (k := 0) (n := 40) (n0 := 11) (ans := [Ans.br true, Ans.loop Ex.ret [V.yld 10, .ptr 9 0, .any 2, iV i, iV (↑k : Int), iV (↑n : Int), iV i, .any 7, .any 8, .any 9, .any 10, .any 11, .any 12, .any 13, .any 14, .any 15, .any 16, .any 17, .any 18, .any 19, .any 20, .any 21] [some (.cells (ints xs) TA .ro), some (.cells (ints ys) TB .ro), some (.cells [iV rb, iV dg] 56 .rw), some (.cells [V.raw (Value.slice none 0 0)] 58 .rw), some (.cells [V.raw (Value.slice none 0 0)] 67 .rw), some (.cells [iV (M.beZ zs2 rb dg i.toNat k)] 32 .rw), some (.cells (ints zs2) 124 (.row 8)), some (.cells [.slo 6 n] 116 .rw), some (.cells [.slo 12 m2] 67 .rw), some (.cells [iV (↑n : Int)] 3 .rw), some (Blk.rcd { t := [.slo 0 n, .slo 1 n, V.raw (.agg { toList := [.int .i64 rb, .int .i64 dg] }), uV, uV, .ptr 2 0, .ptr 3 0, .ptr 4 0, .ptr 5 0, .ptr 7 0, iV 0, iV 0, .ptr 8 0, uV, uV, uV, uV, uV, V.tup [.slo 6 n, iV 0], .slo 0 n, .slo 1 n, V.tup [.slo 6 n, iV 0], .slo 6 n, iV 0, iV 0, V.raw (.bool false), uV, V.raw (.agg { toList := [.int .i64 rb, .int .i64 dg] }), iV 0, iV 0, V.raw (.bool false), uV, .slo 6 n, iV (↑n : Int), V.fn (Fn.func 81) [] [.ptr 9 0], uV, uV, uV, uV, uV, uV, uV, uV, uV, uV, uV, uV, uV, uV, uV, uV, uV, uV, uV, uV, uV, uV, uV, uV, uV, uV, uV, uV, uV, uV, uV, uV, uV, uV, uV, uV, uV, uV, uV], f := 15, i := 0, st := RSt.done Ex.ret }), none, some (.cells (ints ps2) 71 (.row 2))]]) (cons := [(decide (i < (↑n : Int)) = true), (inR IntKind.i64 (i + 1)), (Runs cfx 0 12 none (.loop (loopOf cfx.P 81 1)) [V.yld 10, .ptr 9 0, .any 2, iV i, iV (i + 1), iV (↑n : Int), iV i, V.raw (.bool (decide (i < (↑n : Int)))), iV i, iV i, iV (i + 1), .any 11, .any 12, .any 13, .any 14, .any 15, .any 16, .any 17, .any 18, .any 19, .any 20, .any 21] [some (.cells (ints xs) TA .ro), some (.cells (ints ys) TB .ro), some (.cells [iV rb, iV dg] 56 .rw), some (.cells [V.raw (Value.slice none 0 0)] 58 .rw), some (.cells [V.raw (Value.slice none 0 0)] 67 .rw), some (.cells [iV 0] 32 .rw), some (.cells (ints zs) 124 (.row 8)), some (.cells [.slo 6 n] 116 .rw), some (.cells [.slo 11 m] 67 .rw), some (.cells [iV (↑n : Int)] 3 .rw), some (Blk.rcd { t := [.slo 0 n, .slo 1 n, V.raw (.agg { toList := [.int .i64 rb, .int .i64 dg] }), uV, uV, .ptr 2 0, .ptr 3 0, .ptr 4 0, .ptr 5 0, .ptr 7 0, iV 0, iV 0, .ptr 8 0, uV, uV, uV, uV, uV, V.tup [.slo 6 n, iV 0], .slo 0 n, .slo 1 n, V.tup [.slo 6 n, iV 0], .slo 6 n, iV 0, iV 0, V.raw (.bool false), uV, V.raw (.agg { toList := [.int .i64 rb, .int .i64 dg] }), iV 0, iV 0, V.raw (.bool false), uV, .slo 6 n, iV (↑n : Int), V.fn (Fn.func 81) [] [.ptr 9 0], uV, uV, uV, uV, uV, uV, uV, uV, uV, uV, uV, uV, uV, uV, uV, uV, uV, uV, uV, uV, uV, uV, uV, uV, uV, uV, uV, uV, uV, uV, uV, uV, uV, uV, uV, uV, uV, uV, uV], f := 15, i := 0, st := RSt.ready }), some (.cells (ints ps) 71 (.row 2))] (Ex.ret) [V.yld 10, .ptr 9 0, .any 2, iV i, iV (↑k : Int), iV (↑n : Int), iV i, .any 7, .any 8, .any 9, .any 10, .any 11, .any 12, .any 13, .any 14, .any 15, .any 16, .any 17, .any 18, .any 19, .any 20, .any 21] [some (.cells (ints xs) TA .ro), some (.cells (ints ys) TB .ro), some (.cells [iV rb, iV dg] 56 .rw), some (.cells [V.raw (Value.slice none 0 0)] 58 .rw), some (.cells [V.raw (Value.slice none 0 0)] 67 .rw), some (.cells [iV (M.beZ zs2 rb dg i.toNat k)] 32 .rw), some (.cells (ints zs2) 124 (.row 8)), some (.cells [.slo 6 n] 116 .rw), some (.cells [.slo 12 m2] 67 .rw), some (.cells [iV (↑n : Int)] 3 .rw), some (Blk.rcd { t := [.slo 0 n, .slo 1 n, V.raw (.agg { toList := [.int .i64 rb, .int .i64 dg] }), uV, uV, .ptr 2 0, .ptr 3 0, .ptr 4 0, .ptr 5 0, .ptr 7 0, iV 0, iV 0, .ptr 8 0, uV, uV, uV, uV, uV, V.tup [.slo 6 n, iV 0], .slo 0 n, .slo 1 n, V.tup [.slo 6 n, iV 0], .slo 6 n, iV 0, iV 0, V.raw (.bool false), uV, V.raw (.agg { toList := [.int .i64 rb, .int .i64 dg] }), iV 0, iV 0, V.raw (.bool false), uV, .slo 6 n, iV (↑n : Int), V.fn (Fn.func 81) [] [.ptr 9 0], uV, uV, uV, uV, uV, uV, uV, uV, uV, uV, uV, uV, uV, uV, uV, uV, uV, uV, uV, uV, uV, uV, uV, uV, uV, uV, uV, uV, uV, uV, uV, uV, uV, uV, uV, uV, uV, uV, uV], f := 15, i := 0, st := RSt.done Ex.ret }), none, some (.cells (ints ps2) 71 (.row 2))])]) (by kernel_rfl)
    ⟨(by first | omega | (simp; omega) | (simp_all; omega)), inR_i64 (by omega) (by omega), (by
      refine Runs.pre (fun b e => by cases e) (fun RT RH => ?_) (hR)
      exact reshape2 (lim := 0) 12 (t := [V.yld 10, .ptr 9 0, .any 2, iV i, iV (i + 1), iV (↑n : Int), iV i, V.raw (.bool (decide (i < (↑n : Int)))), iV i, iV i, iV (i + 1), .any 11, .any 12, .any 13, .any 14, .any 15, .any 16, .any 17, .any 18, .any 19, .any 20, .any 21]) (h := [some (.cells (ints xs) TA .ro), some (.cells (ints ys) TB .ro), some (.cells [iV rb, iV dg] 56 .rw), some (.cells [V.raw (Value.slice none 0 0)] 58 .rw), some (.cells [V.raw (Value.slice none 0 0)] 67 .rw), some (.cells [iV 0] 32 .rw), some (.cells (ints zs) 124 (.row 8)), some (.cells [.slo 6 n] 116 .rw), some (.cells [.slo 11 m] 67 .rw), some (.cells [iV (↑n : Int)] 3 .rw), some (Blk.rcd { t := [.slo 0 n, .slo 1 n, V.raw (.agg { toList := [.int .i64 rb, .int .i64 dg] }), uV, uV, .ptr 2 0, .ptr 3 0, .ptr 4 0, .ptr 5 0, .ptr 7 0, iV 0, iV 0, .ptr 8 0, uV, uV, uV, uV, uV, V.tup [.slo 6 n, iV 0], .slo 0 n, .slo 1 n, V.tup [.slo 6 n, iV 0], .slo 6 n, iV 0, iV 0, V.raw (.bool false), uV, V.raw (.agg { toList := [.int .i64 rb, .int .i64 dg] }), iV 0, iV 0, V.raw (.bool false), uV, .slo 6 n, iV (↑n : Int), V.fn (Fn.func 81) [] [.ptr 9 0], uV, uV, uV, uV, uV, uV, uV, uV, uV, uV, uV, uV, uV, uV, uV, uV, uV, uV, uV, uV, uV, uV, uV, uV, uV, uV, uV, uV, uV, uV, uV, uV, uV, uV, uV, uV, uV, uV, uV], f := 15, i := 0, st := RSt.ready }), some (.cells (ints ps) 71 (.row 2))]) cfx_G rfl [some 11] (by kernel_rfl) (by kernel_rfl) (by repeat first | exact ents_nil | refine ents_none ?_ | refine ents_raw (ints_all _) rfl rfl ?_ | refine ents_raw (bools_all _) rfl rfl ?_ | refine ents_raw (mix_all _ _) rfl rfl ?_ | refine ents_say rfl rfl rfl rfl ?_ | refine ents_nilC rfl rfl ?_) RT RH), trivial⟩ (Nat.le_of_ble_eq_true rfl) (Nat.le_of_ble_eq_true rfl) noRnd (noRanges (by kernel_rfl))) (fun RT RH => reshape2 (lim := 0) 11 cfx_G rfl [some 12] (by kernel_rfl) (by kernel_rfl) (by exact (ents_raw (ints_all _) rfl rfl (ents_raw (ints_all _) rfl rfl (ents_say rfl rfl rfl rfl (ents_say rfl rfl rfl rfl (ents_say rfl rfl rfl rfl (ents_say rfl rfl rfl rfl (ents_raw (ints_all _) rfl rfl (ents_say rfl rfl rfl rfl (ents_say rfl rfl rfl rfl (ents_say rfl rfl rfl rfl (ents_say rfl rfl rfl rfl (ents_raw (ints_all _) rfl rfl (ents_nil)))))))))))))) RT RH)
def psc_T1 (xs ys : List Int) (n : Nat) (TA TB : Nat) (rb dg : Int) (i : Int) (zs ps : List Int) (m : Nat) : List V := [V.yld 10, .ptr 9 0, .any 2, .any 3, .any 4, iV (↑n : Int), iV i, .any 7, .any 8, .any 9, .any 10, .any 11, .any 12, .any 13, .any 14, .any 15, .any 16, .any 17, .any 18, .any 19, .any 20, .any 21]
def psc_H1 (xs ys : List Int) (n : Nat) (TA TB : Nat) (rb dg : Int) (i : Int) (zs ps : List Int) (m : Nat) : Heap := [some (.cells (ints xs) TA .ro), some (.cells (ints ys) TB .ro), some (.cells [iV rb, iV dg] 56 .rw), some (.cells [V.raw (Value.slice none 0 0)] 58 .rw), some (.cells [V.raw (Value.slice none 0 0)] 67 .rw), some (.cells [iV 0] 32 .rw), some (.cells (ints zs) 124 (.row 8)), some (.cells [.slo 6 n] 116 .rw), some (.cells [.slo 11 m] 67 .rw), some (.cells [iV (↑n : Int)] 3 .rw), some (Blk.rcd { t := [.slo 0 n, .slo 1 n, V.raw (.agg { toList := [.int .i64 rb, .int .i64 dg] }), uV, uV, .ptr 2 0, .ptr 3 0, .ptr 4 0, .ptr 5 0, .ptr 7 0, iV 0, iV 0, .ptr 8 0, uV, uV, uV, uV, uV, V.tup [.slo 6 n, iV 0], .slo 0 n, .slo 1 n, V.tup [.slo 6 n, iV 0], .slo 6 n, iV 0, iV 0, V.raw (.bool false), uV, V.raw (.agg { toList := [.int .i64 rb, .int .i64 dg] }), iV 0, iV 0, V.raw (.bool false), uV, .slo 6 n, iV (↑n : Int), V.fn (Fn.func 81) [] [.ptr 9 0], uV, uV, uV, uV, uV, uV, uV, uV, uV, uV, uV, uV, uV, uV, uV, uV, uV, uV, uV, uV, uV, uV, uV, uV, uV, uV, uV, uV, uV, uV, uV, uV, uV, uV, uV, uV, uV, uV, uV], f := 15, i := 0, st := RSt.ready }), some (.cells (ints ps) 71 (.row 2))]
theorem psc_1 (xs ys : List Int) (n : Nat) (TA TB : Nat) (rb dg : Int) (hn : n ≤ 8) (i : Int) (zs ps : List Int) (m : Nat) (hi1 : 0 ≤ i) (hi2 : ¬ i < (n : Int))  : Runs cfx 0 11 none (loopOf cfx.P 81 0) (pse_T xs ys n TA TB rb dg i zs ps m) (pse_H xs ys n TA TB rb dg i zs ps m) (Ex.exit 0) (psc_T1 xs ys n TA TB rb dg i zs ps m) (psc_H1 xs ys n TA TB rb dg i zs ps m) := by
  refine Runs.post (t1 := [V.yld 10, .ptr 9 0, .any 2, .any 3, .any 4, iV (↑n : Int), iV i, V.raw (.bool (decide (i < (↑n : Int)))), .any 8, .any 9, .any 10, .any 11, .any 12, .any 13, .any 14, .any 15, .any 16, .any 17, .any 18, .any 19, .any 20, .any 21]) (h1 := [some (.cells (ints xs) TA .ro), some (.cells (ints ys) TB .ro), some (.cells [iV rb, iV dg] 56 .rw), some (.cells [V.raw (Value.slice none 0 0)] 58 .rw), some (.cells [V.raw (Value.slice none 0 0)] 67 .rw), some (.cells [iV 0] 32 .rw), some (.cells (ints zs) 124 (.row 8)), some (.cells [.slo 6 n] 116 .rw), some (.cells [.slo 11 m] 67 .rw), some (.cells [iV (↑n : Int)] 3 .rw), some (Blk.rcd { t := [.slo 0 n, .slo 1 n, V.raw (.agg { toList := [.int .i64 rb, .int .i64 dg] }), uV, uV, .ptr 2 0, .ptr 3 0, .ptr 4 0, .ptr 5 0, .ptr 7 0, iV 0, iV 0, .ptr 8 0, uV, uV, uV, uV, uV, V.tup [.slo 6 n, iV 0], .slo 0 n, .slo 1 n, V.tup [.slo 6 n, iV 0], .slo 6 n, iV 0, iV 0, V.raw (.bool false), uV, V.raw (.agg { toList := [.int .i64 rb, .int .i64 dg] }), iV 0, iV 0, V.raw (.bool false), uV, .slo 6 n, iV (↑n : Int), V.fn (Fn.func 81) [] [.ptr 9 0], uV, uV, uV, uV, uV, uV, uV, uV, uV, uV, uV, uV, uV, uV, uV, uV, uV, uV, uV, uV, uV, uV, uV, uV, uV, uV, uV, uV, uV, uV, uV, uV, uV, uV, uV, uV, uV, uV, uV], f := 15, i := 0, st := RSt.ready }), some (.cells (ints ps) 71 (.row 2))]) (body_of cfx_mixed cfx_call (Nat.zero_le _) (rnd := none) (fi := 0) (k := 0) (n := 40) (n0 := 11) (ans := [Ans.br false]) (cons := [(decide (i < (↑n : Int)) = false)]) (by kernel_rfl)
    ⟨(by first | omega | (simp; omega) | (simp_all; omega)), trivial⟩ (Nat.le_of_ble_eq_true rfl) (Nat.le_of_ble_eq_true rfl) noRnd (noRanges (by kernel_rfl))) (fun RT RH => reshape2 (lim := 0) 11 cfx_G rfl [some 11] (by kernel_rfl) (by kernel_rfl) (by exact (ents_raw (ints_all _) rfl rfl (ents_raw (ints_all _) rfl rfl (ents_say rfl rfl rfl rfl (ents_say rfl rfl rfl rfl (ents_say rfl rfl rfl rfl (ents_say rfl rfl rfl rfl (ents_raw (ints_all _) rfl rfl (ents_say rfl rfl rfl rfl (ents_say rfl rfl rfl rfl (ents_say rfl rfl rfl rfl (ents_say rfl rfl rfl rfl (ents_raw (ints_all _) rfl rfl (ents_nil)))))))))))))) RT RH)
theorem M.lE_ok {xs ys : List Int} {n k : Nat} (h : M.lE xs ys n k = 0) : n ≤ 8 ∧ k = n ∧ M.allB xs ys n = true := by
  unfold M.lE at h
  split at h
  · cases h
  · split at h
    · rename_i h1 h2
      exact ⟨by omega, by omega, M.err_eq.1 h⟩
    · cases h
def M.sE (xs ys : List Int) (n k : Nat) (rb dg : Int) : Int := if M.lE xs ys n k = 0 then (if M.err (M.bncB rb dg) = 0 then (match M.outr xs rb dg n ⟨List.take (n * 6) ys, [], 0⟩ with
  | some _ => 0
  | none => 4) else 2) else M.lE xs ys n k
theorem M.sE_ok {xs ys : List Int} {n k : Nat} {rb dg : Int} (h : M.sE xs ys n k rb dg = 0) : M.lE xs ys n k = 0 ∧ M.bncB rb dg = true ∧ ∃ s, M.outr xs rb dg n ⟨List.take (n * 6) ys, [], 0⟩ = some s := by
  unfold M.sE at h
  by_cases he : M.lE xs ys n k = 0
  · rw [if_pos he] at h
    by_cases hb : M.err (M.bncB rb dg) = 0
    · rw [if_pos hb] at h
      refine ⟨he, M.err_eq.1 hb, ?_⟩
      cases hs : M.outr xs rb dg n ⟨List.take (n * 6) ys, [], 0⟩ with
      | some s => exact ⟨s, rfl⟩
      | none => rw [hs] at h; cases h
    · rw [if_neg hb] at h; cases h
  · rw [if_neg he] at h; exact absurd h he
end Go.Proofs.YteefjegampdpoaaDoor
end
