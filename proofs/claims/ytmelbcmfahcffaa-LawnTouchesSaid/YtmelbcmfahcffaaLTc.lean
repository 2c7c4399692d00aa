/-
  Part of a claim: the reckoner and contracts.
-/
import Derived.Test.YtmelbcmfahcffaaLTb
set_option linter.unusedVariables false
set_option linter.unusedSimpArgs false
set_option maxRecDepth 100000
section
namespace Go.Proofs.Ytmelbcmfahcffaa.R
open Go Go.RowKit
inductive Item where
  | val (v : Value)
  | new (T : TypeId) (z : Array Value)
  | put (k : Nat) (cs : Array Value)
  | old (b : Nat) (T : TypeId) (cs : Array Value)
  | skip
def Item.value (β : Nat → Nat) (i : Nat) : Item → Value
  | .val v => v
  | .new _ _ => .pointer (some ⟨β i, 0, none⟩)
  | _ => undef
structure Rewrites (w w' : World) (b : Nat) (T : TypeId) (cs : Array Value) : Prop where
  os : w'.os = w.os
  tape : w'.tape = w.tape
  output : w'.output = w.output
  size : w'.heap.size = w.heap.size
  block : ∀ k, k ≠ b → w'.heap[k]? = w.heap[k]?
  this : w'.heap[b]? = some (.cells cs T (0, 0))
def known (ops : Array Oper) (its : List Item) (a0 : Act) (o : Oper) (s : Nat) : Option Value :=
  match (List.range ops.size).find? (fun j => (ops[j]?.bind (·.dst)) == some s) with
  | none => a0.tmps[s]?
  | some j => if o.after.toList.any (fun e => Region.binds .any e && e.on == j) then (match its[j]? with | some (.val v) => some v | _ => none) else none
def Env (ops : Array Oper) (its : List Item) (a0 : Act) (o : Oper) (a : Act) : Prop := ∀ s v, known ops its a0 o s = some v → a.tmps[s]? = some v
def waitsFor (ops : Array Oper) (j i : Nat) : Bool := match ops[j]? with | some o => o.after.toList.any (fun e => Region.binds .any e && e.on == i) | none => false
def isOld (ops : Array Oper) (its : List Item) (i b : Nat) : Bool := (List.range its.length).any fun j => match its[j]? with | some (.old b' _ _) => b' == b && !waitsFor ops j i | _ => false
structure Kept (blk : Nat → Bool) (w0 w : World) : Prop where
  os : w.os = w0.os
  tape : w.tape = w0.tape
  output : w.output = w0.output
  size : w0.heap.size ≤ w.heap.size
  block : ∀ b, b < w0.heap.size → blk b = false → w.heap[b]? = w0.heap[b]?
def StepOk (P : Program) (Q : Exit → Act → World → Prop) (ops : Array Oper) (its : List Item) (a0 : Act) (w0 : World) (i : Nat) (o : Oper) : Item → Prop
  | .val v => ∀ (a : Act) (w : World) (K : Act → World → Prop), Env ops its a0 o a → Kept (isOld ops its i) w0 w → (∀ w', Below w.heap.size w w' → K (a.put o.dst v) w') → o.wp P a w K Q
  | .new T z => ∀ (a : Act) (w : World) (K : Act → World → Prop), K (a.put o.dst (.pointer (some ⟨w.heap.size, 0, none⟩))) (w.alloc (.cells z T)) → o.wp P a w K Q
  | .put k cs => ∀ (T : TypeId) (z : Array Value), its[k]? = some (.new T z) → ∀ (a : Act) (w : World) (K : Act → World → Prop) (b : Nat) (cs0 : Array Value) (d : Nat), Env ops its a0 o a → Kept (isOld ops its i) w0 w →
      (ops[k]?.bind (·.dst)) = some d → a.tmps[d]? = some (.pointer (some ⟨b, 0, none⟩)) → w.heap[b]? = some (.cells cs0 T (0, 0)) → cs0.size = z.size →
      (∀ w', Rewrites w w' b T cs → K (a.put o.dst undef) w') → o.wp P a w K Q
  | .skip => True
  | .old b T cs => ∀ (a : Act) (w : World) (K : Act → World → Prop) (cs0 : Array Value), Env ops its a0 o a → Kept (isOld ops its i) w0 w →
      w.heap[b]? = some (.cells cs0 T (0, 0)) → cs0.size = cs.size →
      (∀ w', Rewrites w w' b T cs → K (a.put o.dst undef) w') → o.wp P a w K Q
def isSkip : Item → Bool
  | .skip => true
  | _ => false
def guardOk (ops : Array Oper) (its : List Item) (o : Oper) (it : Item) : Bool :=
  match o.guard with
  | none => !isSkip it
  | some (j, want) => o.after.toList.any (fun e => Region.binds .any e && e.on == j) &&
    (match ops[j]?, its[j]? with
      | some p, some (.val (.bool b)) => p.dst.isSome && ((b == want) != isSkip it)
      | _, _ => false)
def shape (ops : Array Oper) (its : List Item) (n : Nat) : Bool :=
  (its.length == ops.size) &&
  ((List.range ops.size).all fun i => match ops[i]?, its[i]? with
    | some o, some it => (guardOk ops its o it && o.after.all fun e => !Region.binds .any e || decide (e.on < i)) &&
      (match it with
        | .val _ => true
        | .skip => true
        | .new _ _ => o.dst.isSome
        | .put k _ => o.dst.isNone && o.after.any (fun e => Region.binds .any e && e.on == k) && (match its[k]? with | some (.new _ _) => true | _ => false)
        | .old _ _ _ => o.dst.isNone) &&
      (match o.dst with | some d => decide (d < n) | none => true) &&
      ((List.range ops.size).all fun j => i == j || match ops[j]?, its[j]? with
        | some p, some jt => (o.dst.isNone || o.dst != p.dst) &&
          (match it, jt with
            | .put k _, .put k' _ => k != k'
            | _, _ => true)
        | _, _ => false)
    | _, _ => false)
structure Inv (ops : Array Oper) (its : List Item) (a0 : Act) (w0 : World) (β : Nat → Nat) (listed : Array Bool) (a : Act) (w : World) : Prop where
  len : listed.size = ops.size
  defers : a.defers = a0.defers
  tsize : a.tmps.size = a0.tmps.size
  done : ∀ (i : Nat) (o : Oper) (it : Item) (d : Nat), ops[i]? = some o → its[i]? = some it → listed[i]? = some true → o.dst = some d → a.tmps[d]? = some (it.value β i)
  rest : ∀ k, (∀ (i : Nat) (o : Oper), ops[i]? = some o → listed[i]? = some true → o.dst ≠ some k) → a.tmps[k]? = a0.tmps[k]?
  kept : Kept (isOld ops its ops.size) w0 w
  closed : ∀ (i : Nat) (o : Oper), ops[i]? = some o → listed[i]? = some true → ∀ e ∈ o.after, Region.binds .any e = true → listed[e.on]? = some true
  news : ∀ (i : Nat) (T : TypeId) (z : Array Value), its[i]? = some (.new T z) → listed[i]? = some true → w0.heap.size ≤ β i ∧ β i < w.heap.size ∧ ∃ cs, w.heap[β i]? = some (.cells cs T (0, 0)) ∧ cs.size = z.size
  apart : ∀ (i j : Nat) (T T' : TypeId) (z z' : Array Value), its[i]? = some (.new T z) → its[j]? = some (.new T' z') → listed[i]? = some true → listed[j]? = some true → i ≠ j → β i ≠ β j
  puts : ∀ (i k : Nat) (cs : Array Value) (T : TypeId) (z : Array Value), its[i]? = some (.put k cs) → its[k]? = some (.new T z) → listed[i]? = some true → listed[k]? = some true → w.heap[β k]? = some (.cells cs T (0, 0))
  olds : ∀ (i b : Nat) (T : TypeId) (cs : Array Value), its[i]? = some (.old b T cs) → listed[i]? = some true → w.heap[b]? = some (.cells cs T (0, 0))
  behind : ∀ (i k : Nat) (cs : Array Value), its[i]? = some (.put k cs) → listed[i]? = some true → listed[k]? = some true
  waits : ∀ (i b : Nat) (T : TypeId) (cs : Array Value), its[i]? = some (.old b T cs) → listed[i]? = some false → w.heap[b]? = w0.heap[b]?
theorem lookL {listed : Array Bool} {i j : Nat} (h : (listed.setIfInBounds i true)[j]? = some true) (hne : j ≠ i) : listed[j]? = some true := by
  rwa [Array.getElem?_setIfInBounds_ne (Ne.symm hne)] at h
theorem listed_set {listed : Array Bool} {i j : Nat} (h : listed[j]? = some true) : (listed.setIfInBounds i true)[j]? = some true := by
  rcases Nat.decEq j i with hne | rfl
  · rwa [Array.getElem?_setIfInBounds_ne (Ne.symm hne)]
  · have : j < listed.size := by
      rcases Nat.lt_or_ge j listed.size with hlt | hge
      · exact hlt
      · rw [Array.getElem?_eq_none hge] at h; cases h
    simp [this]
theorem put_other {a : Act} {d k : Nat} {v : Value} (h : d ≠ k) : (a.put (some d) v).tmps[k]? = a.tmps[k]? := by
  simp [Act.put, Array.getElem?_setIfInBounds_ne h]
theorem put_this {a : Act} {d : Nat} {v : Value} (h : d < a.tmps.size) : (a.put (some d) v).tmps[d]? = some v := by
  simp [Act.put, h]
theorem put_size {a : Act} {d : Option Tmp} {v : Value} : (a.put d v).tmps.size = a.tmps.size := by
  cases d <;> simp [Act.put]
theorem put_defers {a : Act} {d : Option Tmp} {v : Value} : (a.put d v).defers = a.defers := by
  cases d <;> simp [Act.put]
def olds : List Item → List Nat
  | [] => []
  | .old b _ _ :: r => b :: olds r
  | _ :: r => olds r
theorem olds_mem {b : Nat} : ∀ (its : List Item) (j : Nat) (T : TypeId) (cs : Array Value), its[j]? = some (.old b T cs) → b ∈ olds its := by
  intro its
  induction its with
  | nil => intro j T cs h; simp at h
  | cons x l ih =>
    intro j T cs h
    cases j with
    | zero =>
      simp only [List.getElem?_cons_zero, Option.some.injEq] at h
      subst h
      simp [olds]
    | succ j =>
      simp only [List.getElem?_cons_succ] at h
      have := ih j T cs h
      cases x <;> simp [olds, this]
theorem olds_once {b : Nat} : ∀ (its : List Item), (olds its).Nodup → ∀ (i j : Nat) (T T' : TypeId) (cs cs' : Array Value), its[i]? = some (.old b T cs) → its[j]? = some (.old b T' cs') → i = j := by
  intro its
  induction its with
  | nil => intro _ i j T T' cs cs' h; simp at h
  | cons x l ih =>
    intro hn i j T T' cs cs' hi hj
    have hl : (olds l).Nodup := by
      cases x <;> simp only [olds, List.nodup_cons] at hn <;> first | exact hn | exact hn.2
    cases i with
    | zero =>
      cases j with
      | zero => rfl
      | succ j =>
        simp only [List.getElem?_cons_zero, Option.some.injEq] at hi
        subst hi
        simp only [olds, List.nodup_cons] at hn
        exact absurd (olds_mem l j T' cs' (by simpa using hj)) hn.1
    | succ i =>
      cases j with
      | zero =>
        simp only [List.getElem?_cons_zero, Option.some.injEq] at hj
        subst hj
        simp only [olds, List.nodup_cons] at hn
        exact absurd (olds_mem l i T cs (by simpa using hi)) hn.1
      | succ j => rw [ih hl i j T T' cs cs' (by simpa using hi) (by simpa using hj)]
structure Shape (ops : Array Oper) (its : List Item) (n : Nat) : Prop where
  len : its.length = ops.size
  guard : ∀ (i : Nat) (o : Oper) (it : Item), ops[i]? = some o → its[i]? = some it → guardOk ops its o it = true
  back : ∀ (i : Nat) (o : Oper), ops[i]? = some o → ∀ e ∈ o.after, Region.binds .any e = true → e.on < i
  lt : ∀ (i : Nat) (o : Oper) (d : Nat), ops[i]? = some o → o.dst = some d → d < n
  once : ∀ (i j : Nat) (o p : Oper) (d : Nat), ops[i]? = some o → ops[j]? = some p → o.dst = some d → p.dst = some d → i = j
  newDst : ∀ (i : Nat) (o : Oper) (T : TypeId) (z : Array Value), ops[i]? = some o → its[i]? = some (.new T z) → ∃ d, o.dst = some d
  putDst : ∀ (i : Nat) (o : Oper) (k : Nat) (cs : Array Value), ops[i]? = some o → its[i]? = some (.put k cs) → o.dst = none ∧ (∃ e ∈ o.after, Region.binds .any e = true ∧ e.on = k) ∧ ∃ T z, its[k]? = some (.new T z)
  oldDst : ∀ (i : Nat) (o : Oper) (b : Nat) (T : TypeId) (cs : Array Value), ops[i]? = some o → its[i]? = some (.old b T cs) → o.dst = none
  putOnce : ∀ (i j k : Nat) (cs cs' : Array Value), its[i]? = some (.put k cs) → its[j]? = some (.put k cs') → i = j
  oldOnce : ∀ (i j b : Nat) (T T' : TypeId) (cs cs' : Array Value), its[i]? = some (.old b T cs) → its[j]? = some (.old b T' cs') → i = j
theorem Shape.of {ops : Array Oper} {its : List Item} {n : Nat} (h : shape ops its n = true) (hnd : (olds its).Nodup) : Shape ops its n := by
  unfold shape at h
  rw [Bool.and_eq_true, beq_iff_eq, List.all_eq_true] at h
  obtain ⟨hl, ha⟩ := h
  have key : ∀ (i : Nat) (o : Oper) (it : Item), ops[i]? = some o → its[i]? = some it → _ := fun i o it ho hi => by
    have hlt : i < ops.size := by
      rcases Nat.lt_or_ge i ops.size with h | h
      · exact h
      · rw [Array.getElem?_eq_none h] at ho; cases ho
    have := ha i (List.mem_range.2 hlt)
    simp only [ho, hi] at this
    exact this
  have itm : ∀ (i : Nat) (o : Oper), ops[i]? = some o → ∃ it, its[i]? = some it := fun i o ho => by
    have hlt : i < ops.size := by
      rcases Nat.lt_or_ge i ops.size with h | h
      · exact h
      · rw [Array.getElem?_eq_none h] at ho; cases ho
    exact ⟨its[i]'(by omega), List.getElem?_eq_getElem (by omega)⟩
  have opm : ∀ (i : Nat) (it : Item), its[i]? = some it → ∃ o, ops[i]? = some o := fun i it hi => by
    have hlt : i < its.length := by
      rcases Nat.lt_or_ge i its.length with h | h
      · exact h
      · rw [List.getElem?_eq_none h] at hi; cases hi
    exact ⟨ops[i]'(by omega), Array.getElem?_eq_getElem (by omega)⟩
  have pair : ∀ (i j : Nat) (o p : Oper) (it jt : Item), ops[i]? = some o → its[i]? = some it → ops[j]? = some p → its[j]? = some jt → i ≠ j →
      ((o.dst.isNone || o.dst != p.dst) && (match it, jt with
            | .put k _, .put k' _ => k != k'
            | _, _ => true)) = true := fun i j o p it jt ho hi hp hj hne => by
    have h1 := key i o it ho hi
    rw [Bool.and_eq_true, List.all_eq_true] at h1
    have hlt : j < ops.size := by
      rcases Nat.lt_or_ge j ops.size with h | h
      · exact h
      · rw [Array.getElem?_eq_none h] at hp; cases hp
    have h2 := h1.2 j (List.mem_range.2 hlt)
    rw [Bool.or_eq_true, beq_iff_eq] at h2
    rcases h2 with h2 | h2
    · exact absurd h2 hne
    · simp only [hp, hj] at h2
      exact h2
  refine ⟨hl, fun i o it ho hi => ?_, fun i o ho e he hbind => ?_, fun i o d ho hd => ?_, fun i j o p d ho hp hd hd' => ?_, fun i o T z ho hi => ?_, fun i o k cs ho hi => ?_, fun i o b T cs ho hi => ?_, fun i j k cs cs' hi hj => ?_, fun i j b T T' cs cs' hi hj => ?_⟩
  · have := key i o it ho hi
    simp only [Bool.and_eq_true] at this
    exact this.1.1.1.1
  · obtain ⟨it, hi⟩ := itm i o ho
    have := key i o it ho hi
    simp only [Bool.and_eq_true] at this
    have h2 := this.1.1.1.2
    rw [Array.all_eq_true'] at h2
    have h3 := h2 e he
    rw [hbind] at h3
    simpa using h3
  · obtain ⟨it, hi⟩ := itm i o ho
    have := key i o it ho hi
    simp only [Bool.and_eq_true, hd, decide_eq_true_eq] at this
    exact this.1.2
  · obtain ⟨it, hi⟩ := itm i o ho
    obtain ⟨jt, hj⟩ := itm j p hp
    rcases Nat.decEq i j with hne | he
    · have := pair i j o p it jt ho hi hp hj hne
      simp [hd, hd'] at this
    · exact he
  · have := key i o _ ho hi
    simp only [Bool.and_eq_true] at this
    exact Option.isSome_iff_exists.1 this.1.1.2
  · have := key i o _ ho hi
    simp only [Bool.and_eq_true, Option.isNone_iff_eq_none] at this
    obtain ⟨⟨⟨_, ⟨h1, h2⟩, h3⟩, _⟩, _⟩ := this
    refine ⟨h1, ?_, ?_⟩
    · rw [Array.any_eq_true'] at h2
      obtain ⟨e, he, h2⟩ := h2
      rw [Bool.and_eq_true, beq_iff_eq] at h2
      exact ⟨e, he, h2.1, h2.2⟩
    · cases hk : its[k]? with
      | none => simp [hk] at h3
      | some it => cases it <;> simp [hk] at h3; exact ⟨_, _, rfl⟩
  · have := key i o _ ho hi
    simp only [Bool.and_eq_true, Option.isNone_iff_eq_none] at this
    exact this.1.1.2
  · obtain ⟨o, ho⟩ := opm i _ hi
    obtain ⟨p, hp⟩ := opm j _ hj
    rcases Nat.decEq i j with hne | he
    · have := pair i j o p _ _ ho hi hp hj hne
      simp at this
    · exact he
  · exact olds_once its hnd i j T T' cs cs' hi hj
theorem itm_lt {ops : Array Oper} {i : Nat} {o : Oper} (h : ops[i]? = some o) : i < ops.size := by
  rcases Nat.lt_or_ge i ops.size with hlt | hge
  · exact hlt
  · rw [Array.getElem?_eq_none hge] at h; cases h
theorem ready_spec {ops : Array Oper} {listed : Array Bool} {i : Nat} (hlen : listed.size = ops.size) (h : i ∈ Region.ready .any ops listed) :
    ∃ o, ops[i]? = some o ∧ listed[i]? = some false ∧ ∀ e ∈ o.after, Region.binds .any e = true → listed[e.on]? = some true := by
  unfold Region.ready at h
  rw [List.mem_filter, List.mem_range, Bool.and_eq_true] at h
  obtain ⟨hlt, hl, ha⟩ := h
  have ho : ops[i]? = some (ops[i]'hlt) := Array.getElem?_eq_getElem hlt
  refine ⟨_, ho, ?_, fun e he hb => ?_⟩
  · have hl2 : i < listed.size := by omega
    rw [Array.getElem?_eq_getElem hl2]
    simp [Array.getD, hl2] at hl
    rw [hl]
  · rw [ho] at ha
    simp only [Option.map_some, Option.getD_some, Array.all_eq_true'] at ha
    have := ha e he
    rw [hb] at this
    simp [Array.getD] at this
    obtain ⟨h1, h2⟩ := this
    rw [Array.getElem?_eq_getElem h1, h2]
theorem Inv.env {ops : Array Oper} {its : List Item} {a0 : Act} {w0 : World} {β : Nat → Nat} {listed : Array Bool} {a : Act} {w : World} {n : Nat} (sh : Shape ops its n) (I : Inv ops its a0 w0 β listed a w)
    {o : Oper} (hr : ∀ e ∈ o.after, Region.binds .any e = true → listed[e.on]? = some true) : Env ops its a0 o a := by
  intro s v hk
  unfold known at hk
  split at hk
  · rename_i hf
    rw [I.rest s (fun i p hp hl hd => ?_)]
    · exact hk
    · rw [List.find?_eq_none] at hf
      have := hf i (List.mem_range.2 (itm_lt hp))
      simp [hp, hd] at this
  · rename_i j hf
    have h1 := List.find?_some hf
    rw [beq_iff_eq, Option.bind_eq_some_iff] at h1
    obtain ⟨p, hp, hd⟩ := h1
    split at hk
    · rename_i hany
      rw [List.any_eq_true] at hany
      obtain ⟨e, he, hb⟩ := hany
      rw [Array.mem_toList_iff] at he
      rw [Bool.and_eq_true, beq_iff_eq] at hb
      have hl := hr e he hb.1
      rw [hb.2] at hl
      split at hk
      · rename_i v' hv
        rw [I.done j p _ s hp hv hl hd]
        exact hk
      · cases hk
    · cases hk
theorem below_kept {blk : Nat → Bool} {w0 w w' : World} (k : Kept blk w0 w) (h : Below w.heap.size w w') : Kept blk w0 w' :=
  ⟨h.os.trans k.os, h.tape.trans k.tape, h.output.trans k.output, Nat.le_trans k.size h.size, fun b hb ho => (h.block b (Nat.lt_of_lt_of_le hb k.size)).trans (k.block b hb ho)⟩
section
variable {P : Program} {Q : Exit → Act → World → Prop} {ops : Array Oper} {its : List Item} {a0 : Act} {w0 : World} {β : Nat → Nat} {listed : Array Bool} {a : Act} {w : World}
theorem heap_lt {w : World} {b : Nat} {x : Obj} (h : w.heap[b]? = some x) : b < w.heap.size := by
  rcases Nat.lt_or_ge b w.heap.size with hlt | hge
  · exact hlt
  · rw [Array.getElem?_eq_none hge] at h; cases h
theorem Inv.frameDone (sh : Shape ops its a0.tmps.size) (I : Inv ops its a0 w0 β listed a w) {i : Nat} {o : Oper} {it : Item} (ho : ops[i]? = some o) (hi : its[i]? = some it) (hlf : listed[i]? = some false) {β' : Nat → Nat}
    (hβ : ∀ k, k ≠ i → β' k = β k) {v : Value} (hv : ∀ d, o.dst = some d → v = it.value β' i) :
    ∀ (j : Nat) (p : Oper) (jt : Item) (d : Nat), ops[j]? = some p → its[j]? = some jt → (listed.setIfInBounds i true)[j]? = some true → p.dst = some d → (a.put o.dst v).tmps[d]? = some (jt.value β' j) := by
  intro j p jt d hp hj hl hd
  rcases Nat.decEq j i with hne | rfl
  · have hl' := lookL hl hne
    have h1 := I.done j p jt d hp hj hl' hd
    have e1 : jt.value β' j = jt.value β j := by cases jt <;> simp [Item.value, hβ j hne]
    rw [e1, ← h1]
    cases hod : o.dst with
    | none => rfl
    | some d' =>
      refine put_other (fun e => hne ?_)
      subst e
      exact sh.once j i p o d' hp ho hd hod
  · rw [ho] at hp
    cases hp
    rw [hi] at hj
    cases hj
    rw [hd, put_this (by rw [I.tsize]; exact sh.lt j o d ho hd)]
    exact congrArg some (hv d hd)
theorem Inv.frameRest (I : Inv ops its a0 w0 β listed a w) {i : Nat} {o : Oper} (ho : ops[i]? = some o) (hlt : i < listed.size) {v : Value} :
    ∀ k, (∀ (j : Nat) (p : Oper), ops[j]? = some p → (listed.setIfInBounds i true)[j]? = some true → p.dst ≠ some k) → (a.put o.dst v).tmps[k]? = a0.tmps[k]? := by
  intro k hk
  have h1 : o.dst ≠ some k := hk i o ho (by simp [hlt])
  have h2 : a.tmps[k]? = a0.tmps[k]? := I.rest k (fun j p hp hl => hk j p hp (by
    rcases Nat.decEq j i with hne | rfl
    · rwa [Array.getElem?_setIfInBounds_ne (Ne.symm hne)]
    · simp [hlt]))
  cases hod : o.dst with
  | none => simpa [Act.put] using h2
  | some d => rw [put_other (fun e => h1 (by rw [hod, e])), h2]
theorem lookF {listed : Array Bool} {i j : Nat} (h : (listed.setIfInBounds i true)[j]? = some false) : j ≠ i ∧ listed[j]? = some false := by
  rcases Nat.decEq j i with hne | rfl
  · exact ⟨hne, by rwa [Array.getElem?_setIfInBounds_ne (Ne.symm hne)] at h⟩
  · rw [Array.getElem?_setIfInBounds_self] at h
    split at h <;> cases h
theorem mem_lt {i : Nat} {it : Item} (h : its[i]? = some it) : i < its.length := by
  rcases Nat.lt_or_ge i its.length with hlt | hge
  · exact hlt
  · rw [List.getElem?_eq_none hge] at h; cases h
theorem isOld_mem {b : Nat} {i k : Nat} {T : TypeId} {cs : Array Value} (h : its[i]? = some (.old b T cs)) (hw : waitsFor ops i k = false) : isOld ops its k b = true := by
  unfold isOld
  rw [List.any_eq_true]
  exact ⟨i, List.mem_range.2 (mem_lt h), by simp [h, hw]⟩
theorem waits_end (sh : Shape ops its a0.tmps.size) (j : Nat) : waitsFor ops j ops.size = false := by
  unfold waitsFor
  split
  · rename_i o ho
    rw [List.any_eq_false]
    intro e he
    rw [Array.mem_toList_iff] at he
    have h1 := sh.back j o ho e he
    have h2 := itm_lt ho
    cases hb : Region.binds .any e with
    | false => simp
    | true =>
      have h3 := h1 hb
      have : e.on ≠ ops.size := by omega
      simp [this]
  · rfl
theorem Inv.keptAt (sh : Shape ops its a0.tmps.size) (I : Inv ops its a0 w0 β listed a w) {i : Nat} (hlf : listed[i]? = some false) : Kept (isOld ops its i) w0 w := by
  refine ⟨I.kept.os, I.kept.tape, I.kept.output, I.kept.size, fun b hb ho => ?_⟩
  by_cases hold : isOld ops its ops.size b = false
  · exact I.kept.block b hb hold
  · rw [Bool.not_eq_false] at hold
    unfold isOld at hold
    rw [List.any_eq_true] at hold
    obtain ⟨j, hj, hm⟩ := hold
    rw [List.mem_range] at hj
    split at hm
    · rename_i b' T cs hjt
      rw [Bool.and_eq_true, beq_iff_eq] at hm
      obtain ⟨rfl, _⟩ := hm
      have hw : waitsFor ops j i = true := by
        rcases hwt : waitsFor ops j i with _ | _
        · rw [isOld_mem hjt hwt] at ho; cases ho
        · rfl
      unfold waitsFor at hw
      split at hw
      · rename_i o hoj
        rw [List.any_eq_true] at hw
        obtain ⟨e, he, hb2⟩ := hw
        rw [Array.mem_toList_iff] at he
        rw [Bool.and_eq_true, beq_iff_eq] at hb2
        have hlj : listed[j]? = some (listed[j]'(by rw [I.len, ← sh.len]; exact hj)) := Array.getElem?_eq_getElem _
        cases hv : listed[j]'(by rw [I.len, ← sh.len]; exact hj) with
        | true =>
          rw [hv] at hlj
          have := I.closed j o hoj hlj e he hb2.1
          rw [hb2.2, hlf] at this
          cases this
        | false =>
          rw [hv] at hlj
          exact I.waits j b' T cs hjt hlj
      · cases hw
    · cases hm
theorem Inv.closedSet (I : Inv ops its a0 w0 β listed a w) {i : Nat} {o : Oper} (ho : ops[i]? = some o) (haft : ∀ e ∈ o.after, Region.binds .any e = true → listed[e.on]? = some true) :
    ∀ (j : Nat) (p : Oper), ops[j]? = some p → (listed.setIfInBounds i true)[j]? = some true → ∀ e ∈ p.after, Region.binds .any e = true → (listed.setIfInBounds i true)[e.on]? = some true := by
  intro j p hp hl e he hb
  rcases Nat.decEq j i with hne | rfl
  · exact listed_set (I.closed j p hp (lookL hl hne) e he hb)
  · rw [ho] at hp
    cases hp
    exact listed_set (haft e he hb)
theorem Inv.val (sh : Shape ops its a0.tmps.size) (I : Inv ops its a0 w0 β listed a w) {i : Nat} {o : Oper} {v : Value} (ho : ops[i]? = some o) (hi : its[i]? = some (.val v)) (hlf : listed[i]? = some false) {w' : World} (hb : Below w.heap.size w w') (haft : ∀ e ∈ o.after, Region.binds .any e = true → listed[e.on]? = some true)
    (hold : ∀ (j b : Nat) (T : TypeId) (cs : Array Value), its[j]? = some (.old b T cs) → b < w0.heap.size) :
    Inv ops its a0 w0 β (listed.setIfInBounds i true) (a.put o.dst v) w' := by
  have hlt : i < listed.size := by rw [I.len]; exact itm_lt ho
  refine ⟨by simpa using I.len, by rw [put_defers]; exact I.defers, by rw [put_size]; exact I.tsize, I.frameDone sh ho hi hlf (fun _ _ => rfl) (fun _ _ => rfl), I.frameRest ho hlt, below_kept I.kept hb, I.closedSet ho haft, ?_, ?_, ?_, ?_, ?_, ?_⟩
  · intro j T z hj hl
    have hne : j ≠ i := by rintro rfl; rw [hi] at hj; cases hj
    obtain ⟨h1, h2, cs, h3, h4⟩ := I.news j T z hj (lookL hl hne)
    exact ⟨h1, Nat.lt_of_lt_of_le h2 hb.size, cs, (hb.block _ h2).trans h3, h4⟩
  · intro j k T T' z z' hj hk hl hl' hne
    have h1 : j ≠ i := by rintro rfl; rw [hi] at hj; cases hj
    have h2 : k ≠ i := by rintro rfl; rw [hi] at hk; cases hk
    exact I.apart j k T T' z z' hj hk (lookL hl h1) (lookL hl' h2) hne
  · intro j k cs T z hj hk hl hl'
    have h1 : j ≠ i := by rintro rfl; rw [hi] at hj; cases hj
    have h2 : k ≠ i := by rintro rfl; rw [hi] at hk; cases hk
    have h3 := I.puts j k cs T z hj hk (lookL hl h1) (lookL hl' h2)
    exact (hb.block _ (heap_lt h3)).trans h3
  · intro j b T cs hj hl
    have h1 : j ≠ i := by rintro rfl; rw [hi] at hj; cases hj
    have h3 := I.olds j b T cs hj (lookL hl h1)
    exact (hb.block _ (heap_lt h3)).trans h3
  · intro j k cs hj hl
    have h1 : j ≠ i := by rintro rfl; rw [hi] at hj; cases hj
    exact listed_set (I.behind j k cs hj (lookL hl h1))
  · intro j b T cs hj hl
    obtain ⟨h1, h2⟩ := lookF hl
    exact (hb.block _ (Nat.lt_of_lt_of_le (hold j b T cs hj) I.kept.size)).trans (I.waits j b T cs hj h2)
theorem Inv.skip_ (sh : Shape ops its a0.tmps.size) (I : Inv ops its a0 w0 β listed a w) {i : Nat} {o : Oper} (ho : ops[i]? = some o) (hi : its[i]? = some .skip) (hlf : listed[i]? = some false) (haft : ∀ e ∈ o.after, Region.binds .any e = true → listed[e.on]? = some true)
    (hold : ∀ (j b : Nat) (T : TypeId) (cs : Array Value), its[j]? = some (.old b T cs) → b < w0.heap.size) :
    Inv ops its a0 w0 β (listed.setIfInBounds i true) (a.put o.dst undef) w := by
  have hb : Below w.heap.size w w := Below.refl _ _
  have hlt : i < listed.size := by rw [I.len]; exact itm_lt ho
  refine ⟨by simpa using I.len, by rw [put_defers]; exact I.defers, by rw [put_size]; exact I.tsize, I.frameDone sh ho hi hlf (fun _ _ => rfl) (fun _ _ => rfl), I.frameRest ho hlt, below_kept I.kept hb, I.closedSet ho haft, ?_, ?_, ?_, ?_, ?_, ?_⟩
  · intro j T z hj hl
    have hne : j ≠ i := by rintro rfl; rw [hi] at hj; cases hj
    obtain ⟨h1, h2, cs, h3, h4⟩ := I.news j T z hj (lookL hl hne)
    exact ⟨h1, Nat.lt_of_lt_of_le h2 hb.size, cs, (hb.block _ h2).trans h3, h4⟩
  · intro j k T T' z z' hj hk hl hl' hne
    have h1 : j ≠ i := by rintro rfl; rw [hi] at hj; cases hj
    have h2 : k ≠ i := by rintro rfl; rw [hi] at hk; cases hk
    exact I.apart j k T T' z z' hj hk (lookL hl h1) (lookL hl' h2) hne
  · intro j k cs T z hj hk hl hl'
    have h1 : j ≠ i := by rintro rfl; rw [hi] at hj; cases hj
    have h2 : k ≠ i := by rintro rfl; rw [hi] at hk; cases hk
    have h3 := I.puts j k cs T z hj hk (lookL hl h1) (lookL hl' h2)
    exact (hb.block _ (heap_lt h3)).trans h3
  · intro j b T cs hj hl
    have h1 : j ≠ i := by rintro rfl; rw [hi] at hj; cases hj
    have h3 := I.olds j b T cs hj (lookL hl h1)
    exact (hb.block _ (heap_lt h3)).trans h3
  · intro j k cs hj hl
    have h1 : j ≠ i := by rintro rfl; rw [hi] at hj; cases hj
    exact listed_set (I.behind j k cs hj (lookL hl h1))
  · intro j b T cs hj hl
    obtain ⟨h1, h2⟩ := lookF hl
    exact (hb.block _ (Nat.lt_of_lt_of_le (hold j b T cs hj) I.kept.size)).trans (I.waits j b T cs hj h2)
theorem Inv.new_ (sh : Shape ops its a0.tmps.size) (I : Inv ops its a0 w0 β listed a w) {i : Nat} {o : Oper} {T : TypeId} {z : Array Value} (ho : ops[i]? = some o) (hi : its[i]? = some (.new T z)) (hlf : listed[i]? = some false) (haft : ∀ e ∈ o.after, Region.binds .any e = true → listed[e.on]? = some true)
    (hold : ∀ (j b : Nat) (T : TypeId) (cs : Array Value), its[j]? = some (.old b T cs) → b < w0.heap.size) :
    Inv ops its a0 w0 (fun k => if k = i then w.heap.size else β k) (listed.setIfInBounds i true) (a.put o.dst (.pointer (some ⟨w.heap.size, 0, none⟩))) (w.alloc (.cells z T)) := by
  have hlt : i < listed.size := by rw [I.len]; exact itm_lt ho
  have hb : Below w.heap.size w (w.alloc (.cells z T)) := (Below.refl _ _).alloc (Nat.le_refl _) _
  have hne' : ∀ k, k ≠ i → (if k = i then w.heap.size else β k) = β k := fun k hk => if_neg hk
  refine ⟨by simpa using I.len, by rw [put_defers]; exact I.defers, by rw [put_size]; exact I.tsize, I.frameDone sh ho hi hlf hne' (fun _ _ => by simp [Item.value]), I.frameRest ho hlt, below_kept I.kept hb, I.closedSet ho haft, ?_, ?_, ?_, ?_, ?_, ?_⟩
  · intro j T' z' hj hl
    show _ ≤ (if j = i then w.heap.size else β j) ∧ (if j = i then w.heap.size else β j) < _ ∧ ∃ cs, _
    rcases Nat.decEq j i with hne | rfl
    · rw [if_neg hne]
      obtain ⟨h1, h2, cs, h3, h4⟩ := I.news j T' z' hj (lookL hl hne)
      exact ⟨h1, Nat.lt_of_lt_of_le h2 hb.size, cs, (hb.block _ h2).trans h3, h4⟩
    · rw [if_pos rfl]
      rw [hi] at hj
      cases hj
      exact ⟨I.kept.size, by simp, z, heap_alloc_new w _, rfl⟩
  · intro j k T1 T2 z1 z2 hj hk hl hl' hne
    show (if j = i then w.heap.size else β j) ≠ (if k = i then w.heap.size else β k)
    rcases Nat.decEq j i with h1 | rfl
    · rw [if_neg h1]
      obtain ⟨_, hj2, _⟩ := I.news j T1 z1 hj (lookL hl h1)
      rcases Nat.decEq k i with h2 | rfl
      · rw [if_neg h2]
        exact I.apart j k T1 T2 z1 z2 hj hk (lookL hl h1) (lookL hl' h2) hne
      · rw [if_pos rfl]; omega
    · rw [if_pos rfl, if_neg (Ne.symm hne)]
      obtain ⟨_, hk2, _⟩ := I.news k T2 z2 hk (lookL hl' (Ne.symm hne))
      omega
  · intro j k cs T1 z1 hj hk hl hl'
    show (w.alloc (.cells z T)).heap[(if k = i then w.heap.size else β k)]? = _
    have h1 : j ≠ i := by rintro rfl; rw [hi] at hj; cases hj
    have hlj := lookL hl h1
    rcases Nat.decEq k i with h2 | rfl
    · rw [if_neg h2]
      have h3 := I.puts j k cs T1 z1 hj hk hlj (lookL hl' h2)
      exact (hb.block _ (heap_lt h3)).trans h3
    · exact absurd (I.behind j k cs hj hlj) (by rw [hlf]; simp)
  · intro j b T1 cs hj hl
    have h1 : j ≠ i := by rintro rfl; rw [hi] at hj; cases hj
    have h3 := I.olds j b T1 cs hj (lookL hl h1)
    exact (hb.block _ (heap_lt h3)).trans h3
  · intro j k cs hj hl
    have h1 : j ≠ i := by rintro rfl; rw [hi] at hj; cases hj
    exact listed_set (I.behind j k cs hj (lookL hl h1))
  · intro j b T1 cs hj hl
    obtain ⟨h1, h2⟩ := lookF hl
    exact (hb.block _ (Nat.lt_of_lt_of_le (hold j b T1 cs hj) I.kept.size)).trans (I.waits j b T1 cs hj h2)
theorem Inv.put_ (sh : Shape ops its a0.tmps.size) (I : Inv ops its a0 w0 β listed a w) {i k : Nat} {o : Oper} {cs : Array Value} {T : TypeId} {z : Array Value} (ho : ops[i]? = some o) (hi : its[i]? = some (.put k cs)) (hk : its[k]? = some (.new T z))
    (hlf : listed[i]? = some false) (hlk : listed[k]? = some true) (hsz : cs.size = z.size) {w' : World} (hr : Rewrites w w' (β k) T cs) (haft : ∀ e ∈ o.after, Region.binds .any e = true → listed[e.on]? = some true)
    (hold : ∀ (j b : Nat) (T : TypeId) (cs : Array Value), its[j]? = some (.old b T cs) → b < w0.heap.size) :
    Inv ops its a0 w0 β (listed.setIfInBounds i true) (a.put o.dst undef) w' := by
  have hlt : i < listed.size := by rw [I.len]; exact itm_lt ho
  obtain ⟨n1, n2, cs0, n3, n4⟩ := I.news k T z hk hlk
  have hd := (sh.putDst i o k cs ho hi).1
  refine ⟨by simpa using I.len, by rw [put_defers]; exact I.defers, by rw [put_size]; exact I.tsize, I.frameDone sh ho hi hlf (fun _ _ => rfl) (fun d h => by rw [hd] at h; cases h), I.frameRest ho hlt,
    ⟨hr.os.trans I.kept.os, hr.tape.trans I.kept.tape, hr.output.trans I.kept.output, by rw [hr.size]; exact I.kept.size, fun b hb hb2 => (hr.block b (by omega)).trans (I.kept.block b hb hb2)⟩, I.closedSet ho haft, ?_, ?_, ?_, ?_, ?_, ?_⟩
  · intro j T' z' hj hl
    have hne : j ≠ i := by rintro rfl; rw [hi] at hj; cases hj
    obtain ⟨h1, h2, c, h3, h4⟩ := I.news j T' z' hj (lookL hl hne)
    refine ⟨h1, by rw [hr.size]; exact h2, ?_⟩
    rcases Nat.decEq j k with hjk | rfl
    · exact ⟨c, (hr.block _ (I.apart j k _ _ _ _ hj hk (lookL hl hne) hlk hjk)).trans h3, h4⟩
    · rw [hk] at hj
      cases hj
      exact ⟨cs, hr.this, hsz⟩
  · intro j l T1 T2 z1 z2 hj hl hlj hll hne
    have h1 : j ≠ i := by rintro rfl; rw [hi] at hj; cases hj
    have h2 : l ≠ i := by rintro rfl; rw [hi] at hl; cases hl
    exact I.apart j l T1 T2 z1 z2 hj hl (lookL hlj h1) (lookL hll h2) hne
  · intro j l c T1 z1 hj hl hlj hll
    have h2 : l ≠ i := by rintro rfl; rw [hi] at hl; cases hl
    have hll' := lookL hll h2
    rcases Nat.decEq j i with h1 | rfl
    · have h3 := I.puts j l c T1 z1 hj hl (lookL hlj h1) hll'
      have hlk' : l ≠ k := by
        rintro rfl
        exact h1 (sh.putOnce j i l c cs hj hi)
      exact (hr.block _ (I.apart l k _ _ _ _ hl hk hll' hlk hlk')).trans h3
    · rw [hi] at hj
      cases hj
      rw [hk] at hl
      cases hl
      exact hr.this
  · intro j b T1 c hj hl
    have h1 : j ≠ i := by rintro rfl; rw [hi] at hj; cases hj
    have h3 := I.olds j b T1 c hj (lookL hl h1)
    have := hold j b T1 c hj
    exact (hr.block _ (by omega)).trans h3
  · intro j l c hj hl
    rcases Nat.decEq j i with h1 | rfl
    · exact listed_set (I.behind j l c hj (lookL hl h1))
    · rw [hi] at hj
      cases hj
      exact listed_set hlk
  · intro j b T1 c hj hl
    obtain ⟨h1, h2⟩ := lookF hl
    have := hold j b T1 c hj
    exact (hr.block _ (by omega)).trans (I.waits j b T1 c hj h2)
theorem Inv.old_ (sh : Shape ops its a0.tmps.size) (I : Inv ops its a0 w0 β listed a w) {i b : Nat} {o : Oper} {cs : Array Value} {T : TypeId} (ho : ops[i]? = some o) (hi : its[i]? = some (.old b T cs))
    (hlf : listed[i]? = some false) {w' : World} (hr : Rewrites w w' b T cs) (haft : ∀ e ∈ o.after, Region.binds .any e = true → listed[e.on]? = some true)
    (hold : ∀ (j b : Nat) (T : TypeId) (cs : Array Value), its[j]? = some (.old b T cs) → b < w0.heap.size) :
    Inv ops its a0 w0 β (listed.setIfInBounds i true) (a.put o.dst undef) w' := by
  have hlt : i < listed.size := by rw [I.len]; exact itm_lt ho
  have hd := sh.oldDst i o b T cs ho hi
  have hbs := hold i b T cs hi
  refine ⟨by simpa using I.len, by rw [put_defers]; exact I.defers, by rw [put_size]; exact I.tsize, I.frameDone sh ho hi hlf (fun _ _ => rfl) (fun d h => by rw [hd] at h; cases h), I.frameRest ho hlt,
    ⟨hr.os.trans I.kept.os, hr.tape.trans I.kept.tape, hr.output.trans I.kept.output, by rw [hr.size]; exact I.kept.size, fun c hc hc2 => (hr.block c (by rintro rfl; rw [isOld_mem hi (waits_end sh i)] at hc2; cases hc2)).trans (I.kept.block c hc hc2)⟩, I.closedSet ho haft, ?_, ?_, ?_, ?_, ?_, ?_⟩
  · intro j T' z' hj hl
    have hne : j ≠ i := by rintro rfl; rw [hi] at hj; cases hj
    obtain ⟨h1, h2, c, h3, h4⟩ := I.news j T' z' hj (lookL hl hne)
    exact ⟨h1, by rw [hr.size]; exact h2, c, (hr.block _ (by omega)).trans h3, h4⟩
  · intro j l T1 T2 z1 z2 hj hl hlj hll hne
    have h1 : j ≠ i := by rintro rfl; rw [hi] at hj; cases hj
    have h2 : l ≠ i := by rintro rfl; rw [hi] at hl; cases hl
    exact I.apart j l T1 T2 z1 z2 hj hl (lookL hlj h1) (lookL hll h2) hne
  · intro j l c T1 z1 hj hl hlj hll
    have h1 : j ≠ i := by rintro rfl; rw [hi] at hj; cases hj
    have h2 : l ≠ i := by rintro rfl; rw [hi] at hl; cases hl
    have h3 := I.puts j l c T1 z1 hj hl (lookL hlj h1) (lookL hll h2)
    obtain ⟨h4, _, _⟩ := I.news l T1 z1 hl (lookL hll h2)
    exact (hr.block _ (by omega)).trans h3
  · intro j c T1 cs1 hj hl
    rcases Nat.decEq j i with h1 | rfl
    · have h3 := I.olds j c T1 cs1 hj (lookL hl h1)
      refine (hr.block _ ?_).trans h3
      rintro rfl
      exact h1 (sh.oldOnce j i c T1 T cs1 cs hj hi)
    · rw [hi] at hj
      cases hj
      exact hr.this
  · intro j l c hj hl
    have h1 : j ≠ i := by rintro rfl; rw [hi] at hj; cases hj
    exact listed_set (I.behind j l c hj (lookL hl h1))
  · intro j c T1 cs1 hj hl
    obtain ⟨h1, h2⟩ := lookF hl
    refine (hr.block _ ?_).trans (I.waits j c T1 cs1 hj h2)
    rintro rfl
    exact h1 (sh.oldOnce j i c T1 T cs1 cs hj hi)
structure Fin (ops : Array Oper) (its : List Item) (w0 : World) (β : Nat → Nat) (w : World) : Prop where
  kept : Kept (isOld ops its ops.size) w0 w
  news : ∀ (i : Nat) (T : TypeId) (z : Array Value), its[i]? = some (.new T z) → w0.heap.size ≤ β i ∧ β i < w.heap.size ∧ ∃ cs, w.heap[β i]? = some (.cells cs T (0, 0)) ∧ cs.size = z.size
  apart : ∀ (i j : Nat) (T T' : TypeId) (z z' : Array Value), its[i]? = some (.new T z) → its[j]? = some (.new T' z') → i ≠ j → β i ≠ β j
  puts : ∀ (i k : Nat) (cs : Array Value) (T : TypeId) (z : Array Value), its[i]? = some (.put k cs) → its[k]? = some (.new T z) → w.heap[β k]? = some (.cells cs T (0, 0))
  olds : ∀ (i b : Nat) (T : TypeId) (cs : Array Value), its[i]? = some (.old b T cs) → w.heap[b]? = some (.cells cs T (0, 0))
def finAct (ops : Array Oper) (its : List Item) (β : Nat → Nat) : Nat → Act → Act
  | 0, a => a
  | m + 1, a => match ops[m]?, its[m]? with
    | some o, some it => match o.dst with
      | some d => (finAct ops its β m a).put (some d) (it.value β m)
      | none => finAct ops its β m a
    | _, _ => finAct ops its β m a
theorem finAct_size (m : Nat) : (finAct ops its β m a).tmps.size = a.tmps.size ∧ (finAct ops its β m a).defers = a.defers := by
  induction m with
  | zero => exact ⟨rfl, rfl⟩
  | succ m ih =>
    unfold finAct
    split
    · split
      · exact ⟨by rw [put_size]; exact ih.1, by rw [put_defers]; exact ih.2⟩
      · exact ih
    · exact ih
theorem finAct_rest (m k : Nat) (h : ∀ (i : Nat) (o : Oper), i < m → ops[i]? = some o → o.dst ≠ some k) : (finAct ops its β m a).tmps[k]? = a.tmps[k]? := by
  induction m with
  | zero => rfl
  | succ m ih =>
    have ih' := ih (fun i o hi => h i o (by omega))
    unfold finAct
    split
    · rename_i o it ho hi
      split
      · rename_i d hd
        rw [put_other (fun e => h m o (by omega) ho (by rw [hd, e]))]
        exact ih'
      · exact ih'
    · exact ih'
theorem finAct_done (sh : Shape ops its a.tmps.size) (m : Nat) {i : Nat} {o : Oper} {it : Item} {d : Nat} (him : i < m) (ho : ops[i]? = some o) (hi : its[i]? = some it) (hd : o.dst = some d) :
    (finAct ops its β m a).tmps[d]? = some (it.value β i) := by
  induction m with
  | zero => omega
  | succ m ih =>
    unfold finAct
    rcases Nat.decEq i m with hne | rfl
    · have ih' := ih (by omega)
      split
      · rename_i p jt hp hj
        split
        · rename_i d' hd'
          rw [put_other (fun e => hne (by subst e; exact sh.once i m o p d' ho hp hd hd'))]
          exact ih'
        · exact ih'
      · exact ih'
    · rw [ho, hi]
      simp only [hd]
      exact put_this (by rw [(finAct_size i).1]; exact sh.lt i o d ho hd)
theorem Inv.fin_act (sh : Shape ops its a0.tmps.size) (I : Inv ops its a0 w0 β listed a w) (hall : ∀ i, i < ops.size → listed[i]? = some true) : a = finAct ops its β ops.size a0 := by
  obtain ⟨h1, h2⟩ := finAct_size (ops := ops) (its := its) (β := β) (a := a0) ops.size
  have ht : a.tmps = (finAct ops its β ops.size a0).tmps := by
    apply Array.ext_getElem?
    intro k
    by_cases hk : ∃ (i : Nat) (o : Oper), ops[i]? = some o ∧ o.dst = some k
    · obtain ⟨i, o, ho, hd⟩ := hk
      have hlt := itm_lt ho
      have hi : its[i]? = some (its[i]'(by rw [sh.len]; exact hlt)) := List.getElem?_eq_getElem _
      rw [I.done i o _ k ho hi (hall i hlt) hd, finAct_done sh ops.size hlt ho hi hd]
    · rw [I.rest k (fun i o ho _ hd => hk ⟨i, o, ho, hd⟩), finAct_rest ops.size k (fun i o _ ho hd => hk ⟨i, o, ho, hd⟩)]
  cases a with
  | mk t d =>
    cases hf : finAct ops its β ops.size a0 with
    | mk t' d' =>
      rw [hf] at ht h2
      simp only at ht h2
      have := I.defers
      simp only at this
      rw [ht, this, h2]
theorem Inv.fin_ (I : Inv ops its a0 w0 β listed a w) (hlen : its.length = ops.size) (hall : ∀ i, i < ops.size → listed[i]? = some true) : Fin ops its w0 β w := by
  have lt : ∀ (i : Nat) (it : Item), its[i]? = some it → listed[i]? = some true := fun i it h => hall i (by
    rcases Nat.lt_or_ge i its.length with h' | h'
    · omega
    · rw [List.getElem?_eq_none h'] at h; cases h)
  exact ⟨I.kept, fun i T z h => I.news i T z h (lt _ _ h), fun i j T T' z z' h h' hne => I.apart i j T T' z z' h h' (lt _ _ h) (lt _ _ h') hne,
    fun i k cs T z h h' => I.puts i k cs T z h h' (lt _ _ h) (lt _ _ h'), fun i b T cs h => I.olds i b T cs h (lt _ _ h)⟩
theorem Inv.wanted_ (I : Inv ops its a0 w0 β listed a w) {o : Oper} {it : Item} (haft : ∀ e ∈ o.after, Region.binds .any e = true → listed[e.on]? = some true) (hg : guardOk ops its o it = true) :
    Region.wanted o (yielded ops a.tmps) = !isSkip it := by
  unfold guardOk at hg
  unfold Region.wanted
  split at hg
  · rename_i hn
    rw [hn]
    simpa using hg.symm
  · rename_i j want hn
    rw [hn]
    rw [Bool.and_eq_true, List.any_eq_true] at hg
    obtain ⟨⟨e, he, hb⟩, hm⟩ := hg
    rw [Array.mem_toList_iff] at he
    rw [Bool.and_eq_true, beq_iff_eq] at hb
    have hl := haft e he hb.1
    rw [hb.2] at hl
    split at hm
    · rename_i q b hp hj
      rw [Bool.and_eq_true] at hm
      obtain ⟨hd, hx⟩ := hm
      obtain ⟨d, hd⟩ := Option.isSome_iff_exists.1 hd
      have hv := I.done j q _ d hp hj hl hd
      have hy : yielded ops a.tmps j = some b := by
        unfold yielded
        rw [hp]
        simp only [Option.bind_some, hd, hv, Item.value]
      simp only [hy]
      cases b <;> cases want <;> cases hs : isSkip it <;> simp_all
    · cases hm
def left (listed : Array Bool) : Nat := listed.toList.count false
theorem left_set {i : Nat} (h : listed[i]? = some false) : left (listed.setIfInBounds i true) + 1 = left listed := by
  unfold left
  rw [Array.toList_setIfInBounds]
  obtain ⟨l⟩ := listed
  simp only [List.getElem?_toArray] at h
  show List.count false (l.set i true) + 1 = List.count false l
  induction l generalizing i with
  | nil => simp at h
  | cons x l ih =>
    cases i with
    | zero =>
      simp only [List.getElem?_cons_zero, Option.some.injEq] at h
      subst h
      simp
    | succ i =>
      simp only [List.getElem?_cons_succ] at h
      have := ih h
      simp only [List.set_cons_succ, List.count_cons]
      omega
theorem all_of_ready (sh : Shape ops its a0.tmps.size) (hlen : listed.size = ops.size) (h : Region.ready .any ops listed = []) : ∀ i, i < ops.size → listed[i]? = some true := by
  intro i
  induction i using Nat.strongRecOn with
  | ind i ih =>
    intro hlt
    have hl : listed[i]? = some (listed[i]'(by omega)) := Array.getElem?_eq_getElem _
    cases hv : listed[i]'(by omega) with
    | true => rw [hl, hv]
    | false =>
      exfalso
      have ho : ops[i]? = some (ops[i]'hlt) := Array.getElem?_eq_getElem hlt
      have hmem : i ∈ Region.ready .any ops listed := by
        unfold Region.ready
        rw [List.mem_filter, List.mem_range, Bool.and_eq_true]
        refine ⟨hlt, ?_, ?_⟩
        · have hl2 : i < listed.size := by omega
          simp [Array.getD, hl2, hv]
        · rw [ho]
          simp only [Option.map_some, Option.getD_some, Array.all_eq_true']
          intro e he
          cases hbind : Region.binds .any e with
          | false => simp
          | true =>
            have hb := sh.back i _ ho e he hbind
            have h3 := ih e.on hb (by omega)
            have hl3 : e.on < listed.size := by omega
            rw [Array.getElem?_eq_getElem hl3] at h3
            simp [Array.getD, hl3, Option.some.inj h3]
      rw [h] at hmem
      cases hmem
theorem wpAny_inv (sh : Shape ops its a0.tmps.size)
    (hold : ∀ (j b : Nat) (T : TypeId) (cs : Array Value), its[j]? = some (.old b T cs) → ∃ cs0, w0.heap[b]? = some (.cells cs0 T (0, 0)) ∧ cs0.size = cs.size)
    (hput : ∀ (i k : Nat) (cs : Array Value) (T : TypeId) (z : Array Value), its[i]? = some (.put k cs) → its[k]? = some (.new T z) → cs.size = z.size)
    (hstep : ∀ (i : Nat) (o : Oper) (it : Item), ops[i]? = some o → its[i]? = some it → StepOk P Q ops its a0 w0 i o it)
    (hend : ∀ β w, Fin ops its w0 β w → Q .normal (finAct ops its β ops.size a0) w) :
    ∀ (fuel : Nat) (β : Nat → Nat) (listed : Array Bool) (a : Act) (w : World), Inv ops its a0 w0 β listed a w → left listed ≤ fuel → wpAny P .any ops Q fuel listed a w := by
  have hold' : ∀ (j b : Nat) (T : TypeId) (cs : Array Value), its[j]? = some (.old b T cs) → b < w0.heap.size := fun j b T cs h => by
    obtain ⟨cs0, h1, _⟩ := hold j b T cs h
    exact heap_lt h1
  have done : ∀ (β : Nat → Nat) (listed : Array Bool) (a : Act) (w : World), Inv ops its a0 w0 β listed a w → Region.ready .any ops listed = [] → Q .normal a w := fun β listed a w I hr => by
    have hall := all_of_ready sh I.len hr
    rw [I.fin_act sh hall]
    exact hend β w (I.fin_ sh.len hall)
  intro fuel
  induction fuel with
  | zero =>
    intro β listed a w I hc
    have hr : Region.ready .any ops listed = [] := by
      rcases hrd : Region.ready .any ops listed with _ | ⟨i, l⟩
      · rfl
      · exfalso
        obtain ⟨o, ho, hf, _⟩ := ready_spec I.len (i := i) (by rw [hrd]; exact List.mem_cons_self)
        have := left_set hf
        omega
    exact ⟨hr, done β listed a w I hr⟩
  | succ fuel ih =>
    intro β listed a w I hc
    refine ⟨done β listed a w I, fun i hi => ?_⟩
    obtain ⟨o, ho, hf, haft⟩ := ready_spec I.len hi
    have hlt := itm_lt ho
    have hit : its[i]? = some (its[i]'(by rw [sh.len]; exact hlt)) := List.getElem?_eq_getElem _
    have E := I.env sh haft
    have hstep' := hstep i o _ ho hit
    have hkA := I.keptAt sh hf
    have hcount := left_set hf
    have next : ∀ (β' : Nat → Nat) (a' : Act) (w' : World), Inv ops its a0 w0 β' (listed.setIfInBounds i true) a' w' → wpAny P .any ops Q fuel (listed.setIfInBounds i true) a' w' := fun β' a' w' I' => ih β' _ a' w' I' (by omega)
    unfold wpOp
    rw [ho]
    have hg := sh.guard i o _ ho hit
    generalize its[i]'(by rw [sh.len]; exact hlt) = it at hit hstep' hg
    have hw : Region.wanted o (yielded ops a.tmps) = !isSkip it := I.wanted_ haft hg
    simp only [hw]
    by_cases hs : isSkip it = true
    · rw [hs]
      simp only [Bool.not_true, Bool.false_eq_true, if_false]
      cases it <;> simp only [isSkip, Bool.false_eq_true] at hs
      exact next β _ _ (I.skip_ sh ho hit hf haft hold')
    rw [Bool.not_eq_true] at hs
    rw [hs]
    simp only [Bool.not_false, if_true]
    refine .inl ?_
    cases it with
    | skip => simp [isSkip] at hs
    | val v => exact hstep' a w _ E hkA (fun w' hb => next β _ _ (I.val sh ho hit hf hb haft hold'))
    | new T z => exact hstep' a w _ (next _ _ _ (I.new_ sh ho hit hf haft hold'))
    | put k cs =>
      obtain ⟨hd, ⟨e, he, hb, hek⟩, T, z, hk⟩ := sh.putDst i o k cs ho hit
      have hlk : listed[k]? = some true := by rw [← hek]; exact haft e he hb
      obtain ⟨n1, n2, cs0, n3, n4⟩ := I.news k T z hk hlk
      have hkl : k < ops.size := by
        rcases Nat.lt_or_ge k its.length with h | h
        · rw [← sh.len]; exact h
        · rw [List.getElem?_eq_none h] at hk; cases hk
      have hok : ops[k]? = some (ops[k]'hkl) := Array.getElem?_eq_getElem hkl
      obtain ⟨d, hdk⟩ := sh.newDst k _ T z hok hk
      exact hstep' T z hk a w _ (β k) cs0 d E hkA (by rw [hok]; exact hdk) (I.done k _ _ d hok hk hlk hdk) n3 n4 (fun w' hr => next β _ _ (I.put_ sh ho hit hk hf hlk (hput i k cs T z hit hk) hr haft hold'))
    | old b T cs =>
      obtain ⟨cs0, h1, h2⟩ := hold i b T cs hit
      exact hstep' a w _ cs0 E hkA ((I.waits i b T cs hit hf).trans h1) h2 (fun w' hr => next β _ _ (I.old_ sh ho hit hf hr haft hold'))
theorem inv_start : Inv ops its a0 w0 β (Array.replicate ops.size false) a0 w0 := by
  have no : ∀ i, (Array.replicate ops.size false)[i]? ≠ some true := fun i h => by
    rw [Array.getElem?_replicate] at h
    split at h <;> cases h
  exact ⟨by simp, rfl, rfl, fun i _ _ _ _ _ h => absurd h (no i), fun _ _ => rfl, ⟨rfl, rfl, rfl, Nat.le_refl _, fun _ _ _ => rfl⟩, fun i _ _ h => absurd h (no i), fun i _ _ _ h => absurd h (no i), fun i _ _ _ _ _ _ _ h => absurd h (no i),
    fun i _ _ _ _ _ _ h => absurd h (no i), fun i _ _ _ _ h => absurd h (no i), fun i _ _ _ h => absurd h (no i), fun _ _ _ _ _ _ => rfl⟩
theorem wp_region_grow {id : Nat} {ops : Array Oper} {a0 : Act} {w : World} (its : List Item) (hm : P.follows .mixedOrders = true) (sh : shape ops its a0.tmps.size = true) (hnd : (olds its).Nodup)
    (hold : ∀ (j b : Nat) (T : TypeId) (cs : Array Value), its[j]? = some (.old b T cs) → ∃ cs0, w.drew.heap[b]? = some (.cells cs0 T (0, 0)) ∧ cs0.size = cs.size)
    (hput : ∀ (i k : Nat) (cs : Array Value) (T : TypeId) (z : Array Value), its[i]? = some (.put k cs) → its[k]? = some (.new T z) → cs.size = z.size)
    (hstep : ∀ (i : Nat) (o : Oper) (it : Item), ops[i]? = some o → its[i]? = some it → StepOk P Q ops its a0 w.drew i o it)
    (hend : ∀ β w', Fin ops its w.drew β w' → Q .normal (finAct ops its β ops.size a0) w') : (Code.region id ops true).wp P Q a0 w :=
  wp_region_any hm (wpAny_inv (Shape.of sh hnd) hold hput hstep hend _ (fun _ => 0) _ _ _ inv_start (by simp [left]))
def StepsOk (P : Program) (Q : Exit → Act → World → Prop) (ops : Array Oper) (its : List Item) (a0 : Act) (w0 : World) : Nat → List Oper → List Item → Prop
  | k, o :: os, it :: is => StepOk P Q ops its a0 w0 k o it ∧ StepsOk P Q ops its a0 w0 (k + 1) os is
  | _, _, _ => True
theorem steps_of {l : List Oper} {its0 : List Item} : ∀ {k : Nat} {m : List Oper} {its : List Item}, StepsOk P Q l.toArray its0 a0 w0 k m its → ∀ (i : Nat) (o : Oper) (it : Item), m[i]? = some o → its[i]? = some it → StepOk P Q l.toArray its0 a0 w0 (k + i) o it
  | _, [], _, _, _, _, _, ho, _ => by simp at ho
  | _, _ :: _, [], _, _, _, _, _, hi => by simp at hi
  | k, o :: os, it :: is, h, i, p, jt, ho, hi => by
    cases i with
    | zero =>
      simp only [List.getElem?_cons_zero, Option.some.injEq] at ho hi
      subst ho; subst hi
      exact h.1
    | succ i =>
      have := steps_of h.2 i p jt (by simpa using ho) (by simpa using hi)
      rwa [show k + (i + 1) = k + 1 + i from by omega]
def noOlds (its : List Item) : Bool := its.all fun | .old _ _ _ => false | _ => true
theorem noOlds_spec (h : noOlds its = true) : ∀ (j b : Nat) (T : TypeId) (cs : Array Value), its[j]? ≠ some (.old b T cs) := fun j b T cs hj => by
  unfold noOlds at h
  rw [List.all_eq_true] at h
  have := h _ (List.mem_of_getElem? hj)
  cases this
theorem noOlds_nodup : ∀ {its : List Item}, noOlds its = true → (olds its).Nodup
  | [], _ => List.nodup_nil
  | x :: l, h => by
    unfold noOlds at h
    rw [List.all_cons, Bool.and_eq_true] at h
    have := noOlds_nodup (its := l) h.2
    cases x <;> simp_all [olds]
def putsFit (its : List Item) : Bool := its.all fun | .put k cs => (match its[k]? with | some (.new _ z) => cs.size == z.size | _ => false) | _ => true
theorem putsFit_spec (h : putsFit its = true) : ∀ (i k : Nat) (cs : Array Value) (T : TypeId) (z : Array Value), its[i]? = some (.put k cs) → its[k]? = some (.new T z) → cs.size = z.size := fun i k cs T z hi hk => by
  unfold putsFit at h
  rw [List.all_eq_true] at h
  have := h _ (List.mem_of_getElem? hi)
  simp only [hk, beq_iff_eq] at this
  exact this
theorem region_grow {id : Nat} {l : List Oper} {a0 : Act} {w : World} (its : List Item) (hm : P.follows .mixedOrders = true) (sh : shape l.toArray its a0.tmps.size = true) (hno : noOlds its = true) (hfit : putsFit its = true)
    (hstep : StepsOk P Q l.toArray its a0 w.drew 0 l its)
    (hend : ∀ β w', Fin l.toArray its w.drew β w' → Q .normal (finAct l.toArray its β l.toArray.size a0) w') : (Code.region id l.toArray true).wp P Q a0 w :=
  wp_region_grow its hm sh (noOlds_nodup hno) (fun j b T cs h => absurd h (noOlds_spec hno j b T cs)) (putsFit_spec hfit) (fun i o it ho hi => by have := steps_of hstep i o it (by simpa using ho) hi; rwa [Nat.zero_add] at this) hend
theorem noOlds_isOld (hno : noOlds its = true) (i b : Nat) : isOld ops its i b = false := by
  unfold isOld
  rw [List.any_eq_false]
  intro j hj
  split
  · rename_i b' T cs h
    exact absurd h (noOlds_spec hno j b' T cs)
  · simp
theorem Kept.cells {i : Nat} (h : Kept (isOld ops its i) w0 w) (hno : noOlds its = true) : (∀ b o, b < w0.heap.size → w.cell? ⟨b, o, none⟩ = w0.cell? ⟨b, o, none⟩) ∧ (∀ b o, b < w0.heap.size → w.frozen? ⟨b, o, none⟩ = w0.frozen? ⟨b, o, none⟩) :=
  ⟨fun b o hb => World.cell?_of_block (w := w0) (h.block b hb (noOlds_isOld hno i b)), fun b o hb => World.frozen?_of_block (w := w0) (h.block b hb (noOlds_isOld hno i b))⟩
theorem rewrites2 {b : Nat} {T : TypeId} {c0 c1 v0 v1 : Value} (h : w.heap[b]? = some (.cells #[c0, c1] T (0, 0))) :
    Rewrites w ((w.setCell ⟨b, 0, none⟩ v0).setCell ⟨b, 1, none⟩ v1) b T #[v0, v1] := by
  have hlt := heap_lt h
  refine ⟨rfl, rfl, rfl, by simp [World.setCell], fun k hk => ?_, ?_⟩
  · simp [World.setCell, Array.getElem?_modify, Ne.symm hk]
  · simp [World.setCell, Array.getElem?_modify, h]
theorem of_size2 {cs : Array Value} {c0 c1 : Value} (h : cs.size = #[c0, c1].size) : ∃ x y, cs = #[x, y] := by
  obtain ⟨l⟩ := cs
  match l, h with
  | [x, y], _ => exact ⟨x, y, rfl⟩
theorem cell_blk {b : Nat} {T : TypeId} {cs : Array Value} (h : w.heap[b]? = some (.cells cs T (0, 0))) (i : Nat) : w.cell? ⟨b, i, none⟩ = cs[i]? := cell_of_row w b i cs T (0, 0) h
theorem free_blk {b : Nat} {T : TypeId} {cs : Array Value} (h : w.heap[b]? = some (.cells cs T (0, 0))) (i : Nat) : w.frozen? ⟨b, i, none⟩ = false := by
  simp [World.frozen?, h]
theorem Kept.below {i : Nat} (h : Kept (isOld ops its i) w0 w) (hno : noOlds its = true) : Below w0.heap.size w0 w :=
  ⟨h.os, h.tape, h.output, h.size, fun b hb => h.block b hb (noOlds_isOld hno i b)⟩
end
end Go.Proofs.Ytmelbcmfahcffaa.R
end
section
namespace Go.Proofs.Ytmelbcmfahcffaa
open Go.ChangeShapes Go.WideShapes Go.ChangeAt Go.RowKit
set_option maxHeartbeats 1000000 in
theorem leftOf_any (x y u v p q : Int) (w : World) (hx : -16777216 ≤ x) (hx2 : x ≤ 16777216) (hy : -16777216 ≤ y) (hy2 : y ≤ 16777216) (hu : -16777216 ≤ u) (hu2 : u ≤ 16777216) (hv : -16777216 ≤ v) (hv2 : v ≤ 16777216)
    (hp : -16777216 ≤ p) (hp2 : p ≤ 16777216) (hq : -16777216 ≤ q) (hq2 : q ≤ 16777216) :
    Calls Try.prog 121 #[.agg #[.int .i64 x, .int .i64 y], .agg #[.int .i64 u, .int .i64 v], .agg #[.int .i64 p, .int .i64 q]] w fun e w' => e = .returned (.int .i64 (M.left x y u v p q)) ∧ Below w.heap.size w w' := by
  obtain ⟨b1, b2⟩ := M.mul_bd (u - x) (q - y) 33554432 33554432 (by omega) (by omega) (by omega) (by omega)
  obtain ⟨b3, b4⟩ := M.mul_bd (v - y) (p - x) 33554432 33554432 (by omega) (by omega) (by omega) (by omega)
  unfold M.left
  go_enter Try.func121, Try.ntmps121
  go_wp2
  refine R.region_grow [.val (.agg #[.int .i64 x, .int .i64 y]), .val (.agg #[.int .i64 u, .int .i64 v]), .val (.agg #[.int .i64 (u - x), .int .i64 (v - y)]), .val (.agg #[.int .i64 x, .int .i64 y]), .val (.agg #[.int .i64 p, .int .i64 q]), .val (.agg #[.int .i64 (p - x), .int .i64 (q - y)]), .new 24 #[.int .i64 0, .int .i64 0], .new 24 #[.int .i64 0, .int .i64 0], .put 6 #[.int .i64 (u - x), .int .i64 (v - y)], .put 7 #[.int .i64 (p - x), .int .i64 (q - y)]] (by kernel_rfl) (by kernel_rfl) (by kernel_rfl) (by kernel_rfl) ?_ ?_
  · refine ⟨?_, ?_, ?_, ?_, ?_, ?_, ?_, ?_, ?_, ?_, trivial⟩
    · intro act wx KK E hk hK
      have e3 := E 3 _ rfl
      obtain ⟨hc, hf⟩ := hk.cells rfl
      try simp only [World.size_drew] at hc hf
      go_simp
      exact hK _ (Below.refl _ _)
    · intro act wx KK E hk hK
      have e4 := E 4 _ rfl
      obtain ⟨hc, hf⟩ := hk.cells rfl
      try simp only [World.size_drew] at hc hf
      go_simp
      exact hK _ (Below.refl _ _)
    · intro act wx KK E hk hK
      have e9 := E 9 _ rfl
      have e10 := E 10 _ rfl
      go_simp
      refine (way_any _ _ _ _ _ (by omega) (by omega) (by omega) (by omega) (by omega) (by omega) (by omega) (by omega)).mono ?_
      rintro e w' ⟨rfl, rfl⟩
      exact hK _ (by go_grown)
    · intro act wx KK E hk hK
      have e3 := E 3 _ rfl
      obtain ⟨hc, hf⟩ := hk.cells rfl
      try simp only [World.size_drew] at hc hf
      go_simp
      exact hK _ (Below.refl _ _)
    · intro act wx KK E hk hK
      have e5 := E 5 _ rfl
      obtain ⟨hc, hf⟩ := hk.cells rfl
      try simp only [World.size_drew] at hc hf
      go_simp
      exact hK _ (Below.refl _ _)
    · intro act wx KK E hk hK
      have e12 := E 12 _ rfl
      have e13 := E 13 _ rfl
      go_simp
      refine (way_any _ _ _ _ _ (by omega) (by omega) (by omega) (by omega) (by omega) (by omega) (by omega) (by omega)).mono ?_
      rintro e w' ⟨rfl, rfl⟩
      exact hK _ (by go_grown)
    · intro act wx KK hK
      go_simp
      exact hK
    · intro act wx KK hK
      go_simp
      exact hK
    · intro TT zz hT act wx KK bb cs0 dd E hk hd hb hh hsz hK
      cases hT
      obtain ⟨c0, c1, rfl⟩ := R.of_size2 hsz
      cases hd
      have e11 := E 11 _ rfl
      have kc0 := R.cell_blk hh 0
      have kf0 := R.free_blk hh 0
      have kc1 := R.cell_blk hh 1
      have kf1 := R.free_blk hh 1
      have hK' := hK _ (R.rewrites2 hh)
      clear hK
      go_simp
      exact hK'
    · intro TT zz hT act wx KK bb cs0 dd E hk hd hb hh hsz hK
      cases hT
      obtain ⟨c0, c1, rfl⟩ := R.of_size2 hsz
      cases hd
      have e14 := E 14 _ rfl
      have kc0 := R.cell_blk hh 0
      have kf0 := R.free_blk hh 0
      have kc1 := R.cell_blk hh 1
      have kf1 := R.free_blk hh 1
      have hK' := hK _ (R.rewrites2 hh)
      clear hK
      go_simp
      exact hK'
  intro β1 w1 F
  simp only [R.finAct, R.Item.value, Act.put, List.getElem?_toArray, List.getElem?_cons_zero, List.getElem?_cons_succ, List.size_toArray, List.length_cons, List.length_nil, Nat.reduceAdd, List.setIfInBounds_toArray, List.set_cons_zero, List.set_cons_succ]
  have hB1 := stepB (w := w) (by go_grown) (F.kept.below rfl)
  obtain ⟨hc1, hf1⟩ := F.kept.cells rfl
  try simp only [World.size_drew] at hc1 hf1
  have hz1 := F.kept.size
  try simp only [World.size_alloc, World.size_setCell, World.size_drew] at hz1
  try have ha1 : w.heap.size < w1.heap.size := (by omega)
  try have hi1 : w.heap.size + 1 < w1.heap.size := (by omega)
  try have hj1 : w.heap.size + 1 + 1 < w1.heap.size := (by omega)
  try have hk1 : w.heap.size + 1 + 1 + 1 < w1.heap.size := (by omega)
  try have hl1 : w.heap.size + 1 + 1 + 1 + 1 < w1.heap.size := (by omega)
  obtain ⟨n6a1, n6b1, _⟩ := F.news 6 _ _ rfl
  obtain ⟨n7a1, n7b1, _⟩ := F.news 7 _ _ rfl
  have p81 := F.puts 8 6 _ _ _ rfl rfl
  have q8_01 := R.cell_blk p81 0
  have f8_01 := R.free_blk p81 0
  have q8_11 := R.cell_blk p81 1
  have f8_11 := R.free_blk p81 1
  replace p81 := Lib.hid p81
  have p91 := F.puts 9 7 _ _ _ rfl rfl
  have q9_01 := R.cell_blk p91 0
  have f9_01 := R.free_blk p91 0
  have q9_11 := R.cell_blk p91 1
  have f9_11 := R.free_blk p91 1
  replace p91 := Lib.hid p91
  have d6_71 := F.apart 6 7 _ _ _ _ rfl rfl (by omega)
  clear F
  go_wp2
  go_returns
  exact ⟨rfl, hB1⟩
set_option maxHeartbeats 1000000 in
theorem aheadOf_any (x y u v p q : Int) (w : World) (hx : -16777216 ≤ x) (hx2 : x ≤ 16777216) (hy : -16777216 ≤ y) (hy2 : y ≤ 16777216) (hu : -16777216 ≤ u) (hu2 : u ≤ 16777216) (hv : -16777216 ≤ v) (hv2 : v ≤ 16777216)
    (hp : -16777216 ≤ p) (hp2 : p ≤ 16777216) (hq : -16777216 ≤ q) (hq2 : q ≤ 16777216) :
    Calls Try.prog 119 #[.agg #[.int .i64 x, .int .i64 y], .agg #[.int .i64 u, .int .i64 v], .agg #[.int .i64 p, .int .i64 q]] w fun e w' => e = .returned (.int .i64 (M.ahead x y u v p q)) ∧ Below w.heap.size w w' := by
  obtain ⟨b1, b2⟩ := M.mul_bd (u - x) (p - x) 33554432 33554432 (by omega) (by omega) (by omega) (by omega)
  obtain ⟨b3, b4⟩ := M.mul_bd (v - y) (q - y) 33554432 33554432 (by omega) (by omega) (by omega) (by omega)
  unfold M.ahead
  go_enter Try.func119, Try.ntmps119
  go_wp2
  refine R.region_grow [.val (.agg #[.int .i64 x, .int .i64 y]), .val (.agg #[.int .i64 u, .int .i64 v]), .val (.agg #[.int .i64 (u - x), .int .i64 (v - y)]), .val (.agg #[.int .i64 x, .int .i64 y]), .val (.agg #[.int .i64 p, .int .i64 q]), .val (.agg #[.int .i64 (p - x), .int .i64 (q - y)]), .new 24 #[.int .i64 0, .int .i64 0], .new 24 #[.int .i64 0, .int .i64 0], .put 6 #[.int .i64 (u - x), .int .i64 (v - y)], .put 7 #[.int .i64 (p - x), .int .i64 (q - y)]] (by kernel_rfl) (by kernel_rfl) (by kernel_rfl) (by kernel_rfl) ?_ ?_
  · refine ⟨?_, ?_, ?_, ?_, ?_, ?_, ?_, ?_, ?_, ?_, trivial⟩
    · intro act wx KK E hk hK
      have e3 := E 3 _ rfl
      obtain ⟨hc, hf⟩ := hk.cells rfl
      try simp only [World.size_drew] at hc hf
      go_simp
      exact hK _ (Below.refl _ _)
    · intro act wx KK E hk hK
      have e4 := E 4 _ rfl
      obtain ⟨hc, hf⟩ := hk.cells rfl
      try simp only [World.size_drew] at hc hf
      go_simp
      exact hK _ (Below.refl _ _)
    · intro act wx KK E hk hK
      have e9 := E 9 _ rfl
      have e10 := E 10 _ rfl
      go_simp
      refine (way_any _ _ _ _ _ (by omega) (by omega) (by omega) (by omega) (by omega) (by omega) (by omega) (by omega)).mono ?_
      rintro e w' ⟨rfl, rfl⟩
      exact hK _ (by go_grown)
    · intro act wx KK E hk hK
      have e3 := E 3 _ rfl
      obtain ⟨hc, hf⟩ := hk.cells rfl
      try simp only [World.size_drew] at hc hf
      go_simp
      exact hK _ (Below.refl _ _)
    · intro act wx KK E hk hK
      have e5 := E 5 _ rfl
      obtain ⟨hc, hf⟩ := hk.cells rfl
      try simp only [World.size_drew] at hc hf
      go_simp
      exact hK _ (Below.refl _ _)
    · intro act wx KK E hk hK
      have e12 := E 12 _ rfl
      have e13 := E 13 _ rfl
      go_simp
      refine (way_any _ _ _ _ _ (by omega) (by omega) (by omega) (by omega) (by omega) (by omega) (by omega) (by omega)).mono ?_
      rintro e w' ⟨rfl, rfl⟩
      exact hK _ (by go_grown)
    · intro act wx KK hK
      go_simp
      exact hK
    · intro act wx KK hK
      go_simp
      exact hK
    · intro TT zz hT act wx KK bb cs0 dd E hk hd hb hh hsz hK
      cases hT
      obtain ⟨c0, c1, rfl⟩ := R.of_size2 hsz
      cases hd
      have e11 := E 11 _ rfl
      have kc0 := R.cell_blk hh 0
      have kf0 := R.free_blk hh 0
      have kc1 := R.cell_blk hh 1
      have kf1 := R.free_blk hh 1
      have hK' := hK _ (R.rewrites2 hh)
      clear hK
      go_simp
      exact hK'
    · intro TT zz hT act wx KK bb cs0 dd E hk hd hb hh hsz hK
      cases hT
      obtain ⟨c0, c1, rfl⟩ := R.of_size2 hsz
      cases hd
      have e14 := E 14 _ rfl
      have kc0 := R.cell_blk hh 0
      have kf0 := R.free_blk hh 0
      have kc1 := R.cell_blk hh 1
      have kf1 := R.free_blk hh 1
      have hK' := hK _ (R.rewrites2 hh)
      clear hK
      go_simp
      exact hK'
  intro β1 w1 F
  simp only [R.finAct, R.Item.value, Act.put, List.getElem?_toArray, List.getElem?_cons_zero, List.getElem?_cons_succ, List.size_toArray, List.length_cons, List.length_nil, Nat.reduceAdd, List.setIfInBounds_toArray, List.set_cons_zero, List.set_cons_succ]
  have hB1 := stepB (w := w) (by go_grown) (F.kept.below rfl)
  obtain ⟨hc1, hf1⟩ := F.kept.cells rfl
  try simp only [World.size_drew] at hc1 hf1
  have hz1 := F.kept.size
  try simp only [World.size_alloc, World.size_setCell, World.size_drew] at hz1
  try have ha1 : w.heap.size < w1.heap.size := (by omega)
  try have hi1 : w.heap.size + 1 < w1.heap.size := (by omega)
  try have hj1 : w.heap.size + 1 + 1 < w1.heap.size := (by omega)
  try have hk1 : w.heap.size + 1 + 1 + 1 < w1.heap.size := (by omega)
  try have hl1 : w.heap.size + 1 + 1 + 1 + 1 < w1.heap.size := (by omega)
  obtain ⟨n6a1, n6b1, _⟩ := F.news 6 _ _ rfl
  obtain ⟨n7a1, n7b1, _⟩ := F.news 7 _ _ rfl
  have p81 := F.puts 8 6 _ _ _ rfl rfl
  have q8_01 := R.cell_blk p81 0
  have f8_01 := R.free_blk p81 0
  have q8_11 := R.cell_blk p81 1
  have f8_11 := R.free_blk p81 1
  replace p81 := Lib.hid p81
  have p91 := F.puts 9 7 _ _ _ rfl rfl
  have q9_01 := R.cell_blk p91 0
  have f9_01 := R.free_blk p91 0
  have q9_11 := R.cell_blk p91 1
  have f9_11 := R.free_blk p91 1
  replace p91 := Lib.hid p91
  have d6_71 := F.apart 6 7 _ _ _ _ rfl rfl (by omega)
  clear F
  go_wp2
  go_returns
  exact ⟨rfl, hB1⟩
end Go.Proofs.Ytmelbcmfahcffaa
end
section
namespace Go.Proofs.Ytmelbcmfahcffaa
open Go.ChangeShapes Go.WideShapes Go.ChangeAt Go.RowKit
def Pts (w : World) (b : Nat) (ps : List (Int × Int)) : Prop :=
  ∀ j, j < ps.length → w.cell? ⟨b, j * 2, none⟩ = some (.int .i64 (ps.getD j (0, 0)).1) ∧ w.cell? ⟨b, j * 2 + 1, none⟩ = some (.int .i64 (ps.getD j (0, 0)).2)
theorem Pts.below {w w' : World} {b B : Nat} {ps : List (Int × Int)} (h : Pts w b ps) (hb : Below B w w') (hB : b < B) : Pts w' b ps := fun j hj => by
  obtain ⟨h1, h2⟩ := h j hj
  exact ⟨(hb.cell (p := ⟨b, j * 2, none⟩) hB).trans h1, (hb.cell (p := ⟨b, j * 2 + 1, none⟩) hB).trans h2⟩
set_option maxHeartbeats 1000000 in
theorem checkAll_any (ps : List (Int × Int)) (b c : Nat) (w : World) (hb : b < w.heap.size) (hn : ps.length ≤ 1000000) (hp : Pts w b ps) :
    Calls Try.prog 112 #[.slice (some ⟨b, 0, none⟩) ps.length c] w fun e w' => e = .returned (.int .i64 (M.chk ps)) ∧ Below w.heap.size w w' := by
  have HP := Lib.hid hp
  clear hp
  go_enter Try.func112, Try.ntmps112
  go_wp2
  generalize hl : ps.length = n at *
  have HL := Lib.hid hl
  clear hl
  go_loopw [7] (fun i wr => ∃ k : Nat, k ≤ n ∧ i = .int .i64 k ∧ M.okAll (ps.take k) = true ∧ Below w.heap.size w wr) (fun i _ => n - (intOf i).toNat)
  case atStart => exact ⟨0, Nat.zero_le _, rfl, rfl, Below.refl _ _⟩
  case round =>
    obtain ⟨k, hk, rfl, hok, hB⟩ := hrel
    have HO := Lib.hid hok
    clear hok
    by_cases hlt : k < n
    · obtain ⟨c1, c2⟩ := (HP.out.below hB hb) k (by have := HL.out; omega)
      have hs := M.okAll_take_succ ps k (by have := HL.out; omega)
      rw [HO.out] at hs
      have HS := Lib.hid hs
      clear hs
      have hzr := hB.size
      generalize (ps.getD k (0, 0)).1 = x at *
      generalize (ps.getD k (0, 0)).2 = y at *
      have fin2 : M.okAll (ps.take (k + 1)) = false → Ending.returned (.int .i64 2) = Ending.returned (.int .i64 (M.chk ps)) := fun h => by
        unfold M.chk
        rw [M.okAll_of_take ps (k + 1) h]
        rfl
      have FIN := Lib.hid fin2
      clear fin2
      cases hx : M.fits x
      · go_wp2_with (go_at_call 117; refine (fits_any _ _).mono ?_; rintro e w' ⟨rfl, rfl⟩)
        go_returns
        exact ⟨FIN.out (by rw [HS.out, hx]; rfl), by go_grown⟩
      · cases hy : M.fits y
        · go_wp2_with (go_at_call 117; refine (fits_any _ _).mono ?_; rintro e w' ⟨rfl, rfl⟩)
          go_returns
          exact ⟨FIN.out (by rw [HS.out, hx, hy]; rfl), by go_grown⟩
        · go_wp2_with (go_at_call 117; refine (fits_any _ _).mono ?_; rintro e w' ⟨rfl, rfl⟩)
          exact ⟨⟨k + 1, by omega, by go_num, by rw [HS.out, hx, hy]; rfl, by go_grown⟩, by simp [intOf]; omega⟩
    · go_wp2
      go_returns
      refine ⟨?_, hB⟩
      have e : k = ps.length := by have := HL.out; omega
      have h := HO.out
      rw [e, List.take_length] at h
      unfold M.chk
      rw [h]
      rfl
theorem checkAll_one (x y : Int) (b c : Nat) (w : World) (hb : b < w.heap.size) (h0 : w.cell? ⟨b, 0, none⟩ = some (.int .i64 x)) (h1 : w.cell? ⟨b, 1, none⟩ = some (.int .i64 y)) :
    Calls Try.prog 112 #[.slice (some ⟨b, 0, none⟩) 1 c] w fun e w' => e = .returned (.int .i64 (M.chk [(x, y)])) ∧ Below w.heap.size w w' :=
  checkAll_any [(x, y)] b c w hb (by simp) (fun j hj => by
    obtain rfl : j = 0 := by simpa using hj
    exact ⟨h0, h1⟩)
theorem checkAll_two (x y u v : Int) (b c : Nat) (w : World) (hb : b < w.heap.size) (h0 : w.cell? ⟨b, 0, none⟩ = some (.int .i64 x)) (h1 : w.cell? ⟨b, 1, none⟩ = some (.int .i64 y)) (h2 : w.cell? ⟨b, 2, none⟩ = some (.int .i64 u)) (h3 : w.cell? ⟨b, 3, none⟩ = some (.int .i64 v)) :
    Calls Try.prog 112 #[.slice (some ⟨b, 0, none⟩) 2 c] w fun e w' => e = .returned (.int .i64 (M.chk [(x, y), (u, v)])) ∧ Below w.heap.size w w' :=
  checkAll_any [(x, y), (u, v)] b c w hb (by simp) (fun j hj => by
    have hj' : j < 2 := hj
    match j, hj' with
    | 0, _ => exact ⟨h0, h1⟩
    | 1, _ => exact ⟨h2, h3⟩)
theorem Check_any (x y : Int) (w : World) :
    Calls Try.prog 98 #[.agg #[.int .i64 x, .int .i64 y]] w fun e w' => e = .returned (.int .i64 (M.chk [(x, y)])) ∧ Below w.heap.size w w' := by
  go_enter Try.func98, Try.ntmps98
  go_wp2_with (go_at_call 112; refine (checkAll_one x y _ _ _ (by go_size) (by go_cell) (by go_cell)).mono ?_; rintro e w1 ⟨rfl, hb1⟩; obtain ⟨hB1, hz1, hc1, hf1⟩ := grow4 (w := w) (by go_grown) hb1; (try simp only [World.size_alloc, World.size_setCell, World.size_drew] at hz1); (try have hy1 := Nat.lt_of_succ_le hz1); (try have hx1 := Nat.lt_of_succ_lt hy1); (try have hw1 := Nat.lt_of_succ_lt hx1); (try have hv1 := Nat.lt_of_succ_lt hw1); (try have ha1 : w.heap.size < w1.heap.size := (by omega)); (try have hi1 : w.heap.size + 1 < w1.heap.size := (by omega)); (try have hj1 : w.heap.size + 1 + 1 < w1.heap.size := (by omega)); (try have hk1 : w.heap.size + 1 + 1 + 1 < w1.heap.size := (by omega)); (try have hl1 : w.heap.size + 1 + 1 + 1 + 1 < w1.heap.size := (by omega)))
  go_returns
  exact ⟨rfl, hB1⟩
def chkDisc (x y r : Int) : Int := if r < 1 ∨ 65536 < r then 2 else M.chk [(x, y)]
theorem CheckDisc_any (x y r : Int) (w : World) :
    Calls Try.prog 113 #[.agg #[.int .i64 x, .int .i64 y, .int .i64 r]] w fun e w' => e = .returned (.int .i64 (chkDisc x y r)) ∧ Below w.heap.size w w' := by
  unfold chkDisc
  by_cases h : r < 1 ∨ 65536 < r
  · rw [if_pos h]
    by_cases h1 : r < 1
    all_goals
      go_enter Try.func113, Try.ntmps113
      go_wp2_with fail
      all_goals first | (exfalso; omega) | (go_returns; exact ⟨rfl, by go_grown⟩)
  · rw [if_neg h]
    have h1 : 1 ≤ r := by omega
    have h2 : r ≤ 65536 := by omega
    clear h
    go_enter Try.func113, Try.ntmps113
    go_wp2_with (go_at_call 112; refine (checkAll_one x y _ _ _ (by go_size) (by go_cell) (by go_cell)).mono ?_; rintro e w1 ⟨rfl, hb1⟩; obtain ⟨hB1, hz1, hc1, hf1⟩ := grow4 (w := w) (by go_grown) hb1; (try simp only [World.size_alloc, World.size_setCell, World.size_drew] at hz1); (try have hy1 := Nat.lt_of_succ_le hz1); (try have hx1 := Nat.lt_of_succ_lt hy1); (try have hw1 := Nat.lt_of_succ_lt hx1); (try have hv1 := Nat.lt_of_succ_lt hw1); (try have ha1 : w.heap.size < w1.heap.size := (by omega)); (try have hi1 : w.heap.size + 1 < w1.heap.size := (by omega)); (try have hj1 : w.heap.size + 1 + 1 < w1.heap.size := (by omega)); (try have hk1 : w.heap.size + 1 + 1 + 1 < w1.heap.size := (by omega)); (try have hl1 : w.heap.size + 1 + 1 + 1 + 1 < w1.heap.size := (by omega)))
    go_returns
    exact ⟨rfl, hB1⟩
end Go.Proofs.Ytmelbcmfahcffaa
end
section
namespace Go.Proofs
open Go.Shelf
def Try.lays264_ren : Go.Shelf.Ren := ⟨fun | 264 => 127 | n => n, fun | 53 => 142 | 46 => 151 | n => n, fun | n => n⟩
theorem Try.lays264 : Go.Proofs.Lays.n264 Try.prog Try.lays264_ren := {
  mixed := by kernel_rfl
  f264 := Try.func127.trans (congrArg some (by kernel_rfl))
  t46 := Try.underlying151
  a46 := Try.isAgg151
  z46 := Try.sizeOf151
  v46 := Try.zeroValue151
  t53 := Try.underlying142
  a53 := Try.isAgg142
  z53 := Try.sizeOf142
  v53 := Try.zeroValue142 }
open Go.RowKit Go.Lib in
theorem Try.bits_Mul64 (x y : Nat) (hx : x < 18446744073709551616) (hy : y < 18446744073709551616) (w : World) :
    Calls Try.prog 127 #[.int .u64 x, .int .u64 y] w fun e w' => e = .returned (.tuple #[.int .u64 ((x * y / 18446744073709551616 : Nat) : Int), .int .u64 ((x * y % 18446744073709551616 : Nat) : Int)]) ∧ w' = w := Any.bits_Mul64 Try.lays264 x y hx hy w
end Go.Proofs
end
section
namespace Go.Proofs.Ytmelbcmfahcffaa
open Go.ChangeShapes Go.WideShapes Go.ChangeAt Go.RowKit
theorem mul64_any (a b : Int) (w : World) (h1 : 0 ≤ a) (h2 : a ≤ 4611686018427387904) (h3 : 0 ≤ b) (h4 : b ≤ 4611686018427387904) :
    Calls Try.prog 127 #[.int .u64 a, .int .u64 b] w fun e w' => e = .returned (.tuple #[.int .u64 (M.hi (a * b)), .int .u64 (M.lo (a * b))]) ∧ w = w' := by
  obtain ⟨x, rfl⟩ := Int.eq_ofNat_of_zero_le h1
  obtain ⟨y, rfl⟩ := Int.eq_ofNat_of_zero_le h3
  refine (Try.bits_Mul64 x y (by omega) (by omega) w).mono fun e w' h => ⟨?_, h.2.symm⟩
  rw [h.1]
  unfold M.hi M.lo
  rw [Int.natCast_ediv, Int.natCast_emod, Int.natCast_mul]
  rfl
theorem product_any (a b : Int) (w : World) (h1 : 0 ≤ a) (h2 : a ≤ 4611686018427387904) (h3 : 0 ≤ b) (h4 : b ≤ 4611686018427387904) :
    Calls Try.prog 123 #[.int .i64 a, .int .i64 b] w fun e w' => e = .returned (.agg #[.int .u64 (M.hi (a * b)), .int .u64 (M.lo (a * b))]) ∧ Below w.heap.size w w' := by
  go_enter Try.func123, Try.ntmps123
  go_wp2_with (go_at_call 127; refine (mul64_any a b _ h1 h2 h3 h4).mono ?_; rintro e w' ⟨rfl, rfl⟩)
  go_returns
  exact ⟨rfl, by go_grown⟩
theorem arr_eq (d : Nat) (a b c e : Int) (w : World) : (Op.equalIn (d + 2) 149 (.agg #[.int .u64 a, .int .u64 b]) (.agg #[.int .u64 c, .int .u64 e])).run Try.prog w = .ok (a == c && b == e) w := by
  have h : ∀ (x y : Int) (w : World), (Op.equalIn (d + 1) 142 (.int .u64 x) (.int .u64 y)).run Try.prog w = .ok (x == y) w := fun x y w => run_equalIn_int w d _ _ _ x y Try.underlying142
  rw [show d + 2 = (d + 1) + 1 from rfl]
  simp only [Op.equalIn, Sem.run_bind, run_underlying Try.underlying149, Result.andThen_ok]
  rw [Try.sizeOf142]
  simp only [Result.andThen_ok]
  rw [Std.Legacy.Range.forIn_eq_forIn_range']
  simp [Std.Legacy.Range.size, List.range', go_sem, h]
  by_cases h1 : a = c <;> by_cases h2 : b = e <;> simp [h1, h2]
theorem arr_eq' (a b c e : Int) (w : World) : (Op.equalIn 10000 149 (.agg #[.int .u64 a, .int .u64 b]) (.agg #[.int .u64 c, .int .u64 e])).run Try.prog w = .ok (a == c && b == e) w := arr_eq 9998 a b c e w
set_option maxHeartbeats 1000000 in
theorem compareWide_any (x y : Int) (w : World) :
    Calls Try.prog 122 #[.agg #[.int .u64 (M.hi x), .int .u64 (M.lo x)], .agg #[.int .u64 (M.hi y), .int .u64 (M.lo y)]] w fun e w' => e = .returned (.int .i64 (M.cmp x y)) ∧ Below w.heap.size w w' := by
  have hq := arr_eq'
  by_cases h : M.hi x = M.hi y
  · rw [← M.cmp_lo h]
    by_cases h2 : M.lo x = M.lo y
    · rw [h, h2, M.cmp_eq]
      clear h h2
      go_enter Try.func122, Try.ntmps122
      go_wp2
      go_returns
      exact ⟨rfl, by go_grown⟩
    · rw [h]
      have h3 : (M.lo x == M.lo y) = false := by simpa using h2
      clear h h2
      go_enter Try.func122, Try.ntmps122
      go_wp2_with (go_at_call 126; refine (cmpu _ _ _).mono ?_; rintro e w' ⟨rfl, rfl⟩)
      go_returns
      exact ⟨rfl, by go_grown⟩
  · rw [← M.cmp_hi h]
    have h3 : (M.hi x == M.hi y) = false := by simpa using h
    clear h
    go_enter Try.func122, Try.ntmps122
    go_wp2_with (go_at_call 126; refine (cmpu _ _ _).mono ?_; rintro e w' ⟨rfl, rfl⟩)
    go_returns
    exact ⟨rfl, by go_grown⟩
end Go.Proofs.Ytmelbcmfahcffaa
end
section
namespace Go.Proofs.Ytmelbcmfahcffaa
open Go.ChangeShapes Go.WideShapes Go.ChangeAt Go.RowKit
theorem sq_call (x y u v : Int) (w : World) (h1 : M.In x y) (h2 : M.In u v) :
    Calls Try.prog 118 #[.agg #[.int .i64 x, .int .i64 y], .agg #[.int .i64 u, .int .i64 v]] w fun e w' => e = .returned (.int .i64 (M.sq x y u v)) ∧ Below w.heap.size w w' := by
  unfold M.In at h1 h2
  exact square_any x y u v w (by omega) (by omega) (by omega) (by omega) (by omega) (by omega) (by omega) (by omega)
theorem left_call (x y u v p q : Int) (w : World) (h1 : M.In x y) (h2 : M.In u v) (h3 : M.In p q) :
    Calls Try.prog 121 #[.agg #[.int .i64 x, .int .i64 y], .agg #[.int .i64 u, .int .i64 v], .agg #[.int .i64 p, .int .i64 q]] w fun e w' => e = .returned (.int .i64 (M.left x y u v p q)) ∧ Below w.heap.size w w' := by
  unfold M.In at h1 h2 h3
  exact leftOf_any x y u v p q w (by omega) (by omega) (by omega) (by omega) (by omega) (by omega) (by omega) (by omega) (by omega) (by omega) (by omega) (by omega)
theorem ahead_call (x y u v p q : Int) (w : World) (h1 : M.In x y) (h2 : M.In u v) (h3 : M.In p q) :
    Calls Try.prog 119 #[.agg #[.int .i64 x, .int .i64 y], .agg #[.int .i64 u, .int .i64 v], .agg #[.int .i64 p, .int .i64 q]] w fun e w' => e = .returned (.int .i64 (M.ahead x y u v p q)) ∧ Below w.heap.size w w' := by
  unfold M.In at h1 h2 h3
  exact aheadOf_any x y u v p q w (by omega) (by omega) (by omega) (by omega) (by omega) (by omega) (by omega) (by omega) (by omega) (by omega) (by omega) (by omega)
set_option maxHeartbeats 2000000 in
theorem lies_any (x y u v p q r : Int) (w : World) (h1 : M.In x y) (h2 : M.In u v) (h3 : M.In p q) (r1 : 0 ≤ r) (r2 : r ≤ 8388608) :
    Calls Try.prog 114 #[.agg #[.int .i64 x, .int .i64 y], .agg #[.int .i64 u, .int .i64 v], .agg #[.int .i64 p, .int .i64 q], .int .i64 r] w fun e w' => e = .returned (.int .i64 (M.liesV x y u v p q r)) ∧ Below w.heap.size w w' := by
  obtain ⟨s1, s2⟩ := M.sq_bd h1 h2
  obtain ⟨a1, a2⟩ := M.ahead_bd h1 h2 h3
  obtain ⟨l1, l2⟩ := M.left_bd h1 h2 h3
  obtain ⟨m1, m2⟩ := M.mul_range r r 8388608 8388608 (by omega) (by omega) (by omega) (by omega)
  have H1 := Lib.hid h1
  have H2 := Lib.hid h2
  have H3 := Lib.hid h3
  clear h1 h2 h3
  unfold M.liesV
  by_cases c1 : M.ahead x y u v p q ≤ 0
  · rw [if_pos c1]
    go_enter Try.func114, Try.ntmps114
    go_wp2
    refine R.region_grow [.val (.agg #[.int .i64 x, .int .i64 y]), .val (.agg #[.int .i64 u, .int .i64 v]), .val (.int .i64 (M.sq x y u v)), .val (.agg #[.int .i64 x, .int .i64 y]), .val (.agg #[.int .i64 u, .int .i64 v]), .val (.agg #[.int .i64 p, .int .i64 q]), .val (.int .i64 (M.ahead x y u v p q)), .val (.int .i64 (M.sq x y u v)), .val (.int .i64 (M.ahead x y u v p q))] (by kernel_rfl) (by kernel_rfl) (by kernel_rfl) (by kernel_rfl) ?_ ?_
    · refine ⟨?_, ?_, ?_, ?_, ?_, ?_, ?_, ?_, ?_, trivial⟩
      · intro act wx KK E hk hK
        have e4 := E 4 _ rfl
        obtain ⟨hc, hf⟩ := hk.cells rfl
        try simp only [World.size_drew] at hc hf
        go_simp
        exact hK _ (Below.refl _ _)
      · intro act wx KK E hk hK
        have e5 := E 5 _ rfl
        obtain ⟨hc, hf⟩ := hk.cells rfl
        try simp only [World.size_drew] at hc hf
        go_simp
        exact hK _ (Below.refl _ _)
      · intro act wx KK E hk hK
        have e12 := E 12 _ rfl
        have e13 := E 13 _ rfl
        go_simp
        refine (sq_call _ _ _ _ _ H1.out H2.out).mono ?_
        rintro e w' ⟨rfl, hb⟩
        exact hK _ hb
      · intro act wx KK E hk hK
        have e4 := E 4 _ rfl
        obtain ⟨hc, hf⟩ := hk.cells rfl
        try simp only [World.size_drew] at hc hf
        go_simp
        exact hK _ (Below.refl _ _)
      · intro act wx KK E hk hK
        have e5 := E 5 _ rfl
        obtain ⟨hc, hf⟩ := hk.cells rfl
        try simp only [World.size_drew] at hc hf
        go_simp
        exact hK _ (Below.refl _ _)
      · intro act wx KK E hk hK
        have e6 := E 6 _ rfl
        obtain ⟨hc, hf⟩ := hk.cells rfl
        try simp only [World.size_drew] at hc hf
        go_simp
        exact hK _ (Below.refl _ _)
      · intro act wx KK E hk hK
        have e15 := E 15 _ rfl
        have e16 := E 16 _ rfl
        have e17 := E 17 _ rfl
        go_simp
        refine (ahead_call _ _ _ _ _ _ _ H1.out H2.out H3.out).mono ?_
        rintro e w' ⟨rfl, hb⟩
        exact hK _ hb
      · intro act wx KK E hk hK
        have e14 := E 14 _ rfl
        go_simp
        exact hK _ (Below.refl _ _)
      · intro act wx KK E hk hK
        have e18 := E 18 _ rfl
        go_simp
        exact hK _ (Below.refl _ _)
    intro β1 w1 F
    simp only [R.finAct, R.Item.value, Act.put, List.getElem?_toArray, List.getElem?_cons_zero, List.getElem?_cons_succ, List.size_toArray, List.length_cons, List.length_nil, Nat.reduceAdd, List.setIfInBounds_toArray, List.set_cons_zero, List.set_cons_succ]
    have hB1 := stepB (w := w) (by go_grown) (F.kept.below rfl)
    obtain ⟨hc1, hf1⟩ := F.kept.cells rfl
    try simp only [World.size_drew] at hc1 hf1
    have hz1 := F.kept.size
    try simp only [World.size_alloc, World.size_setCell, World.size_drew] at hz1
    try have ha1 : w.heap.size < w1.heap.size := (by omega)
    try have hi1 : w.heap.size + 1 < w1.heap.size := (by omega)
    try have hj1 : w.heap.size + 1 + 1 < w1.heap.size := (by omega)
    try have hk1 : w.heap.size + 1 + 1 + 1 < w1.heap.size := (by omega)
    try have hl1 : w.heap.size + 1 + 1 + 1 + 1 < w1.heap.size := (by omega)
    clear F
    go_wp2_with (first | (go_at_call 118; refine (sq_call x y p q _ H1.out H3.out).mono ?_; rintro e w2 ⟨rfl, hb2⟩; obtain ⟨hB2, hz2, hc2, hf2⟩ := grow4 (w := w) (by go_grown) hb2; (try simp only [World.size_alloc, World.size_setCell, World.size_drew] at hz2); (try have hy2 := Nat.lt_of_succ_le hz2); (try have hx2 := Nat.lt_of_succ_lt hy2); (try have hw2 := Nat.lt_of_succ_lt hx2); (try have hv2 := Nat.lt_of_succ_lt hw2); (try have ha2 : w.heap.size < w2.heap.size := (by omega)); (try have hi2 : w.heap.size + 1 < w2.heap.size := (by omega)); (try have hj2 : w.heap.size + 1 + 1 < w2.heap.size := (by omega)); (try have hk2 : w.heap.size + 1 + 1 + 1 < w2.heap.size := (by omega)); (try have hl2 : w.heap.size + 1 + 1 + 1 + 1 < w2.heap.size := (by omega))) | (go_at_call 120; refine (cmp64 _ _ _).mono ?_; rintro e w' ⟨rfl, rfl⟩))
    go_returns
    exact ⟨rfl, hB2⟩
  rw [if_neg c1]
  by_cases c2 : M.sq x y u v ≤ M.ahead x y u v p q
  · rw [if_pos c2]
    go_enter Try.func114, Try.ntmps114
    go_wp2
    refine R.region_grow [.val (.agg #[.int .i64 x, .int .i64 y]), .val (.agg #[.int .i64 u, .int .i64 v]), .val (.int .i64 (M.sq x y u v)), .val (.agg #[.int .i64 x, .int .i64 y]), .val (.agg #[.int .i64 u, .int .i64 v]), .val (.agg #[.int .i64 p, .int .i64 q]), .val (.int .i64 (M.ahead x y u v p q)), .val (.int .i64 (M.sq x y u v)), .val (.int .i64 (M.ahead x y u v p q))] (by kernel_rfl) (by kernel_rfl) (by kernel_rfl) (by kernel_rfl) ?_ ?_
    · refine ⟨?_, ?_, ?_, ?_, ?_, ?_, ?_, ?_, ?_, trivial⟩
      · intro act wx KK E hk hK
        have e4 := E 4 _ rfl
        obtain ⟨hc, hf⟩ := hk.cells rfl
        try simp only [World.size_drew] at hc hf
        go_simp
        exact hK _ (Below.refl _ _)
      · intro act wx KK E hk hK
        have e5 := E 5 _ rfl
        obtain ⟨hc, hf⟩ := hk.cells rfl
        try simp only [World.size_drew] at hc hf
        go_simp
        exact hK _ (Below.refl _ _)
      · intro act wx KK E hk hK
        have e12 := E 12 _ rfl
        have e13 := E 13 _ rfl
        go_simp
        refine (sq_call _ _ _ _ _ H1.out H2.out).mono ?_
        rintro e w' ⟨rfl, hb⟩
        exact hK _ hb
      · intro act wx KK E hk hK
        have e4 := E 4 _ rfl
        obtain ⟨hc, hf⟩ := hk.cells rfl
        try simp only [World.size_drew] at hc hf
        go_simp
        exact hK _ (Below.refl _ _)
      · intro act wx KK E hk hK
        have e5 := E 5 _ rfl
        obtain ⟨hc, hf⟩ := hk.cells rfl
        try simp only [World.size_drew] at hc hf
        go_simp
        exact hK _ (Below.refl _ _)
      · intro act wx KK E hk hK
        have e6 := E 6 _ rfl
        obtain ⟨hc, hf⟩ := hk.cells rfl
        try simp only [World.size_drew] at hc hf
        go_simp
        exact hK _ (Below.refl _ _)
      · intro act wx KK E hk hK
        have e15 := E 15 _ rfl
        have e16 := E 16 _ rfl
        have e17 := E 17 _ rfl
        go_simp
        refine (ahead_call _ _ _ _ _ _ _ H1.out H2.out H3.out).mono ?_
        rintro e w' ⟨rfl, hb⟩
        exact hK _ hb
      · intro act wx KK E hk hK
        have e14 := E 14 _ rfl
        go_simp
        exact hK _ (Below.refl _ _)
      · intro act wx KK E hk hK
        have e18 := E 18 _ rfl
        go_simp
        exact hK _ (Below.refl _ _)
    intro β1 w1 F
    simp only [R.finAct, R.Item.value, Act.put, List.getElem?_toArray, List.getElem?_cons_zero, List.getElem?_cons_succ, List.size_toArray, List.length_cons, List.length_nil, Nat.reduceAdd, List.setIfInBounds_toArray, List.set_cons_zero, List.set_cons_succ]
    have hB1 := stepB (w := w) (by go_grown) (F.kept.below rfl)
    obtain ⟨hc1, hf1⟩ := F.kept.cells rfl
    try simp only [World.size_drew] at hc1 hf1
    have hz1 := F.kept.size
    try simp only [World.size_alloc, World.size_setCell, World.size_drew] at hz1
    try have ha1 : w.heap.size < w1.heap.size := (by omega)
    try have hi1 : w.heap.size + 1 < w1.heap.size := (by omega)
    try have hj1 : w.heap.size + 1 + 1 < w1.heap.size := (by omega)
    try have hk1 : w.heap.size + 1 + 1 + 1 < w1.heap.size := (by omega)
    try have hl1 : w.heap.size + 1 + 1 + 1 + 1 < w1.heap.size := (by omega)
    clear F
    go_wp2_with (first | (go_at_call 118; refine (sq_call u v p q _ H2.out H3.out).mono ?_; rintro e w2 ⟨rfl, hb2⟩; obtain ⟨hB2, hz2, hc2, hf2⟩ := grow4 (w := w) (by go_grown) hb2; (try simp only [World.size_alloc, World.size_setCell, World.size_drew] at hz2); (try have hy2 := Nat.lt_of_succ_le hz2); (try have hx2 := Nat.lt_of_succ_lt hy2); (try have hw2 := Nat.lt_of_succ_lt hx2); (try have hv2 := Nat.lt_of_succ_lt hw2); (try have ha2 : w.heap.size < w2.heap.size := (by omega)); (try have hi2 : w.heap.size + 1 < w2.heap.size := (by omega)); (try have hj2 : w.heap.size + 1 + 1 < w2.heap.size := (by omega)); (try have hk2 : w.heap.size + 1 + 1 + 1 < w2.heap.size := (by omega)); (try have hl2 : w.heap.size + 1 + 1 + 1 + 1 < w2.heap.size := (by omega))) | (go_at_call 120; refine (cmp64 _ _ _).mono ?_; rintro e w' ⟨rfl, rfl⟩))
    go_returns
    exact ⟨rfl, hB2⟩
  rw [if_neg c2]
  by_cases c3 : M.left x y u v p q < 0
  · rw [← M.neg_sq (M.left x y u v p q)]
    go_enter Try.func114, Try.ntmps114
    go_wp2
    refine R.region_grow [.val (.agg #[.int .i64 x, .int .i64 y]), .val (.agg #[.int .i64 u, .int .i64 v]), .val (.int .i64 (M.sq x y u v)), .val (.agg #[.int .i64 x, .int .i64 y]), .val (.agg #[.int .i64 u, .int .i64 v]), .val (.agg #[.int .i64 p, .int .i64 q]), .val (.int .i64 (M.ahead x y u v p q)), .val (.int .i64 (M.sq x y u v)), .val (.int .i64 (M.ahead x y u v p q))] (by kernel_rfl) (by kernel_rfl) (by kernel_rfl) (by kernel_rfl) ?_ ?_
    · refine ⟨?_, ?_, ?_, ?_, ?_, ?_, ?_, ?_, ?_, trivial⟩
      · intro act wx KK E hk hK
        have e4 := E 4 _ rfl
        obtain ⟨hc, hf⟩ := hk.cells rfl
        try simp only [World.size_drew] at hc hf
        go_simp
        exact hK _ (Below.refl _ _)
      · intro act wx KK E hk hK
        have e5 := E 5 _ rfl
        obtain ⟨hc, hf⟩ := hk.cells rfl
        try simp only [World.size_drew] at hc hf
        go_simp
        exact hK _ (Below.refl _ _)
      · intro act wx KK E hk hK
        have e12 := E 12 _ rfl
        have e13 := E 13 _ rfl
        go_simp
        refine (sq_call _ _ _ _ _ H1.out H2.out).mono ?_
        rintro e w' ⟨rfl, hb⟩
        exact hK _ hb
      · intro act wx KK E hk hK
        have e4 := E 4 _ rfl
        obtain ⟨hc, hf⟩ := hk.cells rfl
        try simp only [World.size_drew] at hc hf
        go_simp
        exact hK _ (Below.refl _ _)
      · intro act wx KK E hk hK
        have e5 := E 5 _ rfl
        obtain ⟨hc, hf⟩ := hk.cells rfl
        try simp only [World.size_drew] at hc hf
        go_simp
        exact hK _ (Below.refl _ _)
      · intro act wx KK E hk hK
        have e6 := E 6 _ rfl
        obtain ⟨hc, hf⟩ := hk.cells rfl
        try simp only [World.size_drew] at hc hf
        go_simp
        exact hK _ (Below.refl _ _)
      · intro act wx KK E hk hK
        have e15 := E 15 _ rfl
        have e16 := E 16 _ rfl
        have e17 := E 17 _ rfl
        go_simp
        refine (ahead_call _ _ _ _ _ _ _ H1.out H2.out H3.out).mono ?_
        rintro e w' ⟨rfl, hb⟩
        exact hK _ hb
      · intro act wx KK E hk hK
        have e14 := E 14 _ rfl
        go_simp
        exact hK _ (Below.refl _ _)
      · intro act wx KK E hk hK
        have e18 := E 18 _ rfl
        go_simp
        exact hK _ (Below.refl _ _)
    intro β1 w1 F
    simp only [R.finAct, R.Item.value, Act.put, List.getElem?_toArray, List.getElem?_cons_zero, List.getElem?_cons_succ, List.size_toArray, List.length_cons, List.length_nil, Nat.reduceAdd, List.setIfInBounds_toArray, List.set_cons_zero, List.set_cons_succ]
    have hB1 := stepB (w := w) (by go_grown) (F.kept.below rfl)
    obtain ⟨hc1, hf1⟩ := F.kept.cells rfl
    try simp only [World.size_drew] at hc1 hf1
    have hz1 := F.kept.size
    try simp only [World.size_alloc, World.size_setCell, World.size_drew] at hz1
    try have ha1 : w.heap.size < w1.heap.size := (by omega)
    try have hi1 : w.heap.size + 1 < w1.heap.size := (by omega)
    try have hj1 : w.heap.size + 1 + 1 < w1.heap.size := (by omega)
    try have hk1 : w.heap.size + 1 + 1 + 1 < w1.heap.size := (by omega)
    try have hl1 : w.heap.size + 1 + 1 + 1 + 1 < w1.heap.size := (by omega)
    clear F
    go_wp2_with (first | (go_at_call 121; refine (left_call x y u v p q _ H1.out H2.out H3.out).mono ?_; rintro e w2 ⟨rfl, hb2⟩; obtain ⟨hB2, hz2, hc2, hf2⟩ := grow4 (w := w) (by go_grown) hb2; (try simp only [World.size_alloc, World.size_setCell, World.size_drew] at hz2); (try have hy2 := Nat.lt_of_succ_le hz2); (try have hx2 := Nat.lt_of_succ_lt hy2); (try have hw2 := Nat.lt_of_succ_lt hx2); (try have hv2 := Nat.lt_of_succ_lt hw2); (try have ha2 : w.heap.size < w2.heap.size := (by omega)); (try have hi2 : w.heap.size + 1 < w2.heap.size := (by omega)); (try have hj2 : w.heap.size + 1 + 1 < w2.heap.size := (by omega)); (try have hk2 : w.heap.size + 1 + 1 + 1 < w2.heap.size := (by omega)); (try have hl2 : w.heap.size + 1 + 1 + 1 + 1 < w2.heap.size := (by omega))) | (go_at_call 123; refine (product_any _ _ _ (by omega) (by omega) (by omega) (by omega)).mono ?_; rintro e w3 ⟨rfl, hb3⟩; obtain ⟨hB3, hz3, hc3, hf3⟩ := grow4 (w := w) (by go_grown) hb3; (try simp only [World.size_alloc, World.size_setCell, World.size_drew] at hz3); (try have hy3 := Nat.lt_of_succ_le hz3); (try have hx3 := Nat.lt_of_succ_lt hy3); (try have hw3 := Nat.lt_of_succ_lt hx3); (try have hv3 := Nat.lt_of_succ_lt hw3); (try have ha3 : w.heap.size < w3.heap.size := (by omega)); (try have hi3 : w.heap.size + 1 < w3.heap.size := (by omega)); (try have hj3 : w.heap.size + 1 + 1 < w3.heap.size := (by omega)); (try have hk3 : w.heap.size + 1 + 1 + 1 < w3.heap.size := (by omega)); (try have hl3 : w.heap.size + 1 + 1 + 1 + 1 < w3.heap.size := (by omega))) | (go_at_call 122; refine (compareWide_any _ _ _).mono ?_; rintro e w4 ⟨rfl, hb4⟩; obtain ⟨hB4, hz4, hc4, hf4⟩ := grow4 (w := w) (by go_grown) hb4; (try simp only [World.size_alloc, World.size_setCell, World.size_drew] at hz4); (try have hy4 := Nat.lt_of_succ_le hz4); (try have hx4 := Nat.lt_of_succ_lt hy4); (try have hw4 := Nat.lt_of_succ_lt hx4); (try have hv4 := Nat.lt_of_succ_lt hw4); (try have ha4 : w.heap.size < w4.heap.size := (by omega)); (try have hi4 : w.heap.size + 1 < w4.heap.size := (by omega)); (try have hj4 : w.heap.size + 1 + 1 < w4.heap.size := (by omega)); (try have hk4 : w.heap.size + 1 + 1 + 1 < w4.heap.size := (by omega)); (try have hl4 : w.heap.size + 1 + 1 + 1 + 1 < w4.heap.size := (by omega))))
    go_returns
    exact ⟨rfl, hB4⟩
  · go_enter Try.func114, Try.ntmps114
    go_wp2
    refine R.region_grow [.val (.agg #[.int .i64 x, .int .i64 y]), .val (.agg #[.int .i64 u, .int .i64 v]), .val (.int .i64 (M.sq x y u v)), .val (.agg #[.int .i64 x, .int .i64 y]), .val (.agg #[.int .i64 u, .int .i64 v]), .val (.agg #[.int .i64 p, .int .i64 q]), .val (.int .i64 (M.ahead x y u v p q)), .val (.int .i64 (M.sq x y u v)), .val (.int .i64 (M.ahead x y u v p q))] (by kernel_rfl) (by kernel_rfl) (by kernel_rfl) (by kernel_rfl) ?_ ?_
    · refine ⟨?_, ?_, ?_, ?_, ?_, ?_, ?_, ?_, ?_, trivial⟩
      · intro act wx KK E hk hK
        have e4 := E 4 _ rfl
        obtain ⟨hc, hf⟩ := hk.cells rfl
        try simp only [World.size_drew] at hc hf
        go_simp
        exact hK _ (Below.refl _ _)
      · intro act wx KK E hk hK
        have e5 := E 5 _ rfl
        obtain ⟨hc, hf⟩ := hk.cells rfl
        try simp only [World.size_drew] at hc hf
        go_simp
        exact hK _ (Below.refl _ _)
      · intro act wx KK E hk hK
        have e12 := E 12 _ rfl
        have e13 := E 13 _ rfl
        go_simp
        refine (sq_call _ _ _ _ _ H1.out H2.out).mono ?_
        rintro e w' ⟨rfl, hb⟩
        exact hK _ hb
      · intro act wx KK E hk hK
        have e4 := E 4 _ rfl
        obtain ⟨hc, hf⟩ := hk.cells rfl
        try simp only [World.size_drew] at hc hf
        go_simp
        exact hK _ (Below.refl _ _)
      · intro act wx KK E hk hK
        have e5 := E 5 _ rfl
        obtain ⟨hc, hf⟩ := hk.cells rfl
        try simp only [World.size_drew] at hc hf
        go_simp
        exact hK _ (Below.refl _ _)
      · intro act wx KK E hk hK
        have e6 := E 6 _ rfl
        obtain ⟨hc, hf⟩ := hk.cells rfl
        try simp only [World.size_drew] at hc hf
        go_simp
        exact hK _ (Below.refl _ _)
      · intro act wx KK E hk hK
        have e15 := E 15 _ rfl
        have e16 := E 16 _ rfl
        have e17 := E 17 _ rfl
        go_simp
        refine (ahead_call _ _ _ _ _ _ _ H1.out H2.out H3.out).mono ?_
        rintro e w' ⟨rfl, hb⟩
        exact hK _ hb
      · intro act wx KK E hk hK
        have e14 := E 14 _ rfl
        go_simp
        exact hK _ (Below.refl _ _)
      · intro act wx KK E hk hK
        have e18 := E 18 _ rfl
        go_simp
        exact hK _ (Below.refl _ _)
    intro β1 w1 F
    simp only [R.finAct, R.Item.value, Act.put, List.getElem?_toArray, List.getElem?_cons_zero, List.getElem?_cons_succ, List.size_toArray, List.length_cons, List.length_nil, Nat.reduceAdd, List.setIfInBounds_toArray, List.set_cons_zero, List.set_cons_succ]
    have hB1 := stepB (w := w) (by go_grown) (F.kept.below rfl)
    obtain ⟨hc1, hf1⟩ := F.kept.cells rfl
    try simp only [World.size_drew] at hc1 hf1
    have hz1 := F.kept.size
    try simp only [World.size_alloc, World.size_setCell, World.size_drew] at hz1
    try have ha1 : w.heap.size < w1.heap.size := (by omega)
    try have hi1 : w.heap.size + 1 < w1.heap.size := (by omega)
    try have hj1 : w.heap.size + 1 + 1 < w1.heap.size := (by omega)
    try have hk1 : w.heap.size + 1 + 1 + 1 < w1.heap.size := (by omega)
    try have hl1 : w.heap.size + 1 + 1 + 1 + 1 < w1.heap.size := (by omega)
    clear F
    go_wp2_with (first | (go_at_call 121; refine (left_call x y u v p q _ H1.out H2.out H3.out).mono ?_; rintro e w2 ⟨rfl, hb2⟩; obtain ⟨hB2, hz2, hc2, hf2⟩ := grow4 (w := w) (by go_grown) hb2; (try simp only [World.size_alloc, World.size_setCell, World.size_drew] at hz2); (try have hy2 := Nat.lt_of_succ_le hz2); (try have hx2 := Nat.lt_of_succ_lt hy2); (try have hw2 := Nat.lt_of_succ_lt hx2); (try have hv2 := Nat.lt_of_succ_lt hw2); (try have ha2 : w.heap.size < w2.heap.size := (by omega)); (try have hi2 : w.heap.size + 1 < w2.heap.size := (by omega)); (try have hj2 : w.heap.size + 1 + 1 < w2.heap.size := (by omega)); (try have hk2 : w.heap.size + 1 + 1 + 1 < w2.heap.size := (by omega)); (try have hl2 : w.heap.size + 1 + 1 + 1 + 1 < w2.heap.size := (by omega))) | (go_at_call 123; refine (product_any _ _ _ (by omega) (by omega) (by omega) (by omega)).mono ?_; rintro e w3 ⟨rfl, hb3⟩; obtain ⟨hB3, hz3, hc3, hf3⟩ := grow4 (w := w) (by go_grown) hb3; (try simp only [World.size_alloc, World.size_setCell, World.size_drew] at hz3); (try have hy3 := Nat.lt_of_succ_le hz3); (try have hx3 := Nat.lt_of_succ_lt hy3); (try have hw3 := Nat.lt_of_succ_lt hx3); (try have hv3 := Nat.lt_of_succ_lt hw3); (try have ha3 : w.heap.size < w3.heap.size := (by omega)); (try have hi3 : w.heap.size + 1 < w3.heap.size := (by omega)); (try have hj3 : w.heap.size + 1 + 1 < w3.heap.size := (by omega)); (try have hk3 : w.heap.size + 1 + 1 + 1 < w3.heap.size := (by omega)); (try have hl3 : w.heap.size + 1 + 1 + 1 + 1 < w3.heap.size := (by omega))) | (go_at_call 122; refine (compareWide_any _ _ _).mono ?_; rintro e w4 ⟨rfl, hb4⟩; obtain ⟨hB4, hz4, hc4, hf4⟩ := grow4 (w := w) (by go_grown) hb4; (try simp only [World.size_alloc, World.size_setCell, World.size_drew] at hz4); (try have hy4 := Nat.lt_of_succ_le hz4); (try have hx4 := Nat.lt_of_succ_lt hy4); (try have hw4 := Nat.lt_of_succ_lt hx4); (try have hv4 := Nat.lt_of_succ_lt hw4); (try have ha4 : w.heap.size < w4.heap.size := (by omega)); (try have hi4 : w.heap.size + 1 < w4.heap.size := (by omega)); (try have hj4 : w.heap.size + 1 + 1 < w4.heap.size := (by omega)); (try have hk4 : w.heap.size + 1 + 1 + 1 < w4.heap.size := (by omega)); (try have hl4 : w.heap.size + 1 + 1 + 1 + 1 < w4.heap.size := (by omega))))
    go_returns
    exact ⟨rfl, hB4⟩
end Go.Proofs.Ytmelbcmfahcffaa
end
section
namespace Go.Proofs.Ytmelbcmfahcffaa
open Go.ChangeShapes Go.WideShapes Go.ChangeAt Go.RowKit
theorem chk2 {x y u v : Int} : (M.chk [(x, y), (u, v)] = 0 ∧ M.In x y ∧ M.In u v) ∨ (M.chk [(x, y), (u, v)] = 2 ∧ ¬ (M.In x y ∧ M.In u v)) := by
  rcases M.chk_cases [(x, y), (u, v)] with ⟨h, k⟩ | ⟨h, p, hp, hn⟩
  · exact .inl ⟨h, k (x, y) (by simp), k (u, v) (by simp)⟩
  · refine .inr ⟨h, fun ⟨a, b⟩ => hn ?_⟩
    simp at hp
    rcases hp with rfl | rfl
    · exact a
    · exact b
theorem chkDisc_in {x y r : Int} (h : chkDisc x y r = 0) : M.In x y ∧ 1 ≤ r ∧ r ≤ 65536 := by
  unfold chkDisc at h
  split at h
  · omega
  · rcases M.chk_cases [(x, y)] with ⟨_, k⟩ | ⟨k, _⟩
    · exact ⟨k (x, y) (by simp), by omega, by omega⟩
    · omega
set_option maxHeartbeats 1000000 in
theorem Cuts_ok (x y u v p q r : Int) (w : World) (h1 : M.In x y) (h2 : M.In u v) (h3 : chkDisc p q r = 0) :
    Calls Try.prog 103 #[.agg #[.int .i64 x, .int .i64 y], .agg #[.int .i64 u, .int .i64 v], .agg #[.int .i64 p, .int .i64 q, .int .i64 r]] w fun e w' => e = .returned (.tuple #[.bool (decide (M.liesV x y u v p q r < 0)), .int .i64 0]) ∧ Below w.heap.size w w' := by
  rcases chk2 (x := x) (y := y) (u := u) (v := v) with ⟨hc, _⟩ | ⟨_, hn⟩
  · obtain ⟨h4, r1, r2⟩ := chkDisc_in h3
    have H1 := Lib.hid h1
    have H2 := Lib.hid h2
    have H4 := Lib.hid h4
    clear h1 h2 h4
    go_enter Try.func103, Try.ntmps103
    go_wp2_with (first | (go_at_call 112; refine (checkAll_two x y u v _ _ _ (by go_size) (by go_cell) (by go_cell) (by go_cell) (by go_cell)).mono ?_; rintro e w1 ⟨rfl, hb1⟩; obtain ⟨hB1, hz1, hc1, hf1⟩ := grow4 (w := w) (by go_grown) hb1; (try simp only [World.size_alloc, World.size_setCell, World.size_drew] at hz1); (try have hy1 := Nat.lt_of_succ_le hz1); (try have hx1 := Nat.lt_of_succ_lt hy1); (try have hw1 := Nat.lt_of_succ_lt hx1); (try have hv1 := Nat.lt_of_succ_lt hw1); (try have ha1 : w.heap.size < w1.heap.size := (by omega)); (try have hi1 : w.heap.size + 1 < w1.heap.size := (by omega)); (try have hj1 : w.heap.size + 1 + 1 < w1.heap.size := (by omega)); (try have hk1 : w.heap.size + 1 + 1 + 1 < w1.heap.size := (by omega)); (try have hl1 : w.heap.size + 1 + 1 + 1 + 1 < w1.heap.size := (by omega))) | (go_at_call 113; refine (CheckDisc_any p q r _).mono ?_; rintro e w2 ⟨rfl, hb2⟩; obtain ⟨hB2, hz2, hc2, hf2⟩ := grow4 (w := w) (by go_grown) hb2; (try simp only [World.size_alloc, World.size_setCell, World.size_drew] at hz2); (try have hy2 := Nat.lt_of_succ_le hz2); (try have hx2 := Nat.lt_of_succ_lt hy2); (try have hw2 := Nat.lt_of_succ_lt hx2); (try have hv2 := Nat.lt_of_succ_lt hw2); (try have ha2 : w.heap.size < w2.heap.size := (by omega)); (try have hi2 : w.heap.size + 1 < w2.heap.size := (by omega)); (try have hj2 : w.heap.size + 1 + 1 < w2.heap.size := (by omega)); (try have hk2 : w.heap.size + 1 + 1 + 1 < w2.heap.size := (by omega)); (try have hl2 : w.heap.size + 1 + 1 + 1 + 1 < w2.heap.size := (by omega))) | (go_at_call 114; refine (lies_any x y u v p q r _ H1.out H2.out H4.out (by omega) (by omega)).mono ?_; rintro e w3 ⟨rfl, hb3⟩; obtain ⟨hB3, hz3, hc3, hf3⟩ := grow4 (w := w) (by go_grown) hb3; (try simp only [World.size_alloc, World.size_setCell, World.size_drew] at hz3); (try have hy3 := Nat.lt_of_succ_le hz3); (try have hx3 := Nat.lt_of_succ_lt hy3); (try have hw3 := Nat.lt_of_succ_lt hx3); (try have hv3 := Nat.lt_of_succ_lt hw3); (try have ha3 : w.heap.size < w3.heap.size := (by omega)); (try have hi3 : w.heap.size + 1 < w3.heap.size := (by omega)); (try have hj3 : w.heap.size + 1 + 1 < w3.heap.size := (by omega)); (try have hk3 : w.heap.size + 1 + 1 + 1 < w3.heap.size := (by omega)); (try have hl3 : w.heap.size + 1 + 1 + 1 + 1 < w3.heap.size := (by omega))))
    go_returns
    exact ⟨rfl, hB3⟩
  · exact absurd ⟨h1, h2⟩ hn
end Go.Proofs.Ytmelbcmfahcffaa
end
section
namespace Go.Proofs.Ytmelbcmfahcffaa
open Go.ChangeShapes Go.WideShapes Go.ChangeAt Go.RowKit
structure Tab (w : World) : Prop where
  size : 0 < w.heap.size
  c0 : w.cell? ⟨0, 0, none⟩ = some (.int .i64 4096)
  c1 : w.cell? ⟨0, 1, none⟩ = some (.int .i64 0)
  c2 : w.cell? ⟨0, 2, none⟩ = some (.int .i64 3784)
  c3 : w.cell? ⟨0, 3, none⟩ = some (.int .i64 1567)
  c4 : w.cell? ⟨0, 4, none⟩ = some (.int .i64 2896)
  c5 : w.cell? ⟨0, 5, none⟩ = some (.int .i64 2896)
  c6 : w.cell? ⟨0, 6, none⟩ = some (.int .i64 1567)
  c7 : w.cell? ⟨0, 7, none⟩ = some (.int .i64 3784)
theorem Tab.below {B : Nat} {w w' : World} (h : Tab w) (hb : Below B w w') (hB : 0 < B) : Tab w' :=
  ⟨Nat.lt_of_lt_of_le h.size hb.size, (hb.cell (p := ⟨0, 0, none⟩) hB).trans h.c0, (hb.cell (p := ⟨0, 1, none⟩) hB).trans h.c1, (hb.cell (p := ⟨0, 2, none⟩) hB).trans h.c2, (hb.cell (p := ⟨0, 3, none⟩) hB).trans h.c3,
    (hb.cell (p := ⟨0, 4, none⟩) hB).trans h.c4, (hb.cell (p := ⟨0, 5, none⟩) hB).trans h.c5, (hb.cell (p := ⟨0, 6, none⟩) hB).trans h.c6, (hb.cell (p := ⟨0, 7, none⟩) hB).trans h.c7⟩
def pairs : List (Int × Int) := [(4096, 0), (3784, 1567), (2896, 2896), (1567, 3784), (0, 4096), (-1567, 3784), (-2896, 2896), (-3784, 1567), (-4096, 0), (-3784, -1567), (-2896, -2896), (-1567, -3784), (0, -4096), (1567, -3784), (2896, -2896), (3784, -1567)]
def pc (k : Nat) : Int := (pairs.getD k (0, 0)).1
def ps (k : Nat) : Int := (pairs.getD k (0, 0)).2
end Go.Proofs.Ytmelbcmfahcffaa
end
section
namespace Go.Proofs.Ytmelbcmfahcffaa
open Go.ChangeShapes Go.WideShapes Go.ChangeAt Go.RowKit
def rpt (x y r : Int) (k : Nat) : Int × Int := (x + (r * pc k).tdiv 4096, y + (r * ps k).tdiv 4096)
def Row (w : World) (g : Nat) (x y r : Int) (k : Nat) : Prop :=
  ∃ cs : Array Value, w.heap[g]? = some (.cells cs 24 (0, 0)) ∧ cs.size = 32 ∧ ∀ j, j < k → cs[j * 2]? = some (.int .i64 (rpt x y r j).1) ∧ cs[j * 2 + 1]? = some (.int .i64 (rpt x y r j).2)
theorem Row.below {w w' : World} {g k B : Nat} {x y r : Int} (h : Row w g x y r k) (hb : Below B w w') (hg : g < B) : Row w' g x y r k := by
  obtain ⟨cs, h1, h2, h3⟩ := h
  exact ⟨cs, (hb.block g hg).trans h1, h2, h3⟩
theorem Row.cells {w : World} {g k : Nat} {x y r : Int} (h : Row w g x y r k) (i : Nat) (hi : i < 32) : (∃ v, w.cell? ⟨g, i, none⟩ = some v) ∧ w.frozen? ⟨g, i, none⟩ = false := by
  obtain ⟨cs, h1, h2, h3⟩ := h
  exact ⟨⟨cs[i], by rw [R.cell_blk h1 i]; exact Array.getElem?_eq_getElem (by omega)⟩, R.free_blk h1 i⟩
theorem Row.store {w : World} {g k : Nat} {x y r : Int} (h : Row w g x y r k) (hk : k < 16) :
    Row ((w.setCell ⟨g, k * 2, none⟩ (.int .i64 (rpt x y r k).1)).setCell ⟨g, k * 2 + 1, none⟩ (.int .i64 (rpt x y r k).2)) g x y r (k + 1) := by
  obtain ⟨cs, h1, h2, h3⟩ := h
  refine ⟨(cs.setIfInBounds (k * 2) (.int .i64 (rpt x y r k).1)).setIfInBounds (k * 2 + 1) (.int .i64 (rpt x y r k).2), ?_, by simp [h2], fun j hj => ?_⟩
  · simp [World.setCell, Array.getElem?_modify, h1]
  · rcases Nat.decEq j k with hne | rfl
    · have hlt : j < k := by omega
      rw [Array.getElem?_setIfInBounds_ne (by omega), Array.getElem?_setIfInBounds_ne (by omega), Array.getElem?_setIfInBounds_ne (by omega), Array.getElem?_setIfInBounds_ne (by omega)]
      exact h3 j hlt
    · have hk1 : j * 2 < cs.size := by omega
      have hk2 : j * 2 + 1 < cs.size := by omega
      constructor
      · rw [Array.getElem?_setIfInBounds_ne (by omega)]
        simp [hk1]
      · simp [hk2]
end Go.Proofs.Ytmelbcmfahcffaa
end
section
namespace Go.Proofs.Ytmelbcmfahcffaa
open Go.ChangeShapes Go.WideShapes Go.ChangeAt Go.RowKit
set_option maxHeartbeats 1000000 in
theorem Touch_ok (x y r u v s : Int) (w : World) (h1 : chkDisc x y r = 0) (h2 : chkDisc u v s = 0) :
    Calls Try.prog 116 #[.agg #[.int .i64 x, .int .i64 y, .int .i64 r], .agg #[.int .i64 u, .int .i64 v, .int .i64 s]] w fun e w' => e = .returned (.tuple #[.int .i64 (M.cmp (M.sq x y u v) ((r + s) * (r + s))), .int .i64 0]) ∧ Below w.heap.size w w' := by
  obtain ⟨k1, r1, r2⟩ := chkDisc_in h1
  obtain ⟨k2, s1, s2⟩ := chkDisc_in h2
  obtain ⟨m1, m2⟩ := M.mul_range (r + s) (r + s) 131072 131072 (by omega) (by omega) (by omega) (by omega)
  have K1 := Lib.hid k1
  have K2 := Lib.hid k2
  clear k1 k2
  have i0 : ∀ w, (Instr.index 152 (.agg #[.int .i64 x, .int .i64 y, .int .i64 r, .int .i64 u, .int .i64 v, .int .i64 s]) (.int .i64 0)).run Try.prog w = .ok (.agg #[.int .i64 x, .int .i64 y, .int .i64 r]) w := fun _ => by kernel_rfl
  have i1 : ∀ w, (Instr.index 152 (.agg #[.int .i64 x, .int .i64 y, .int .i64 r, .int .i64 u, .int .i64 v, .int .i64 s]) (.int .i64 1)).run Try.prog w = .ok (.agg #[.int .i64 u, .int .i64 v, .int .i64 s]) w := fun _ => by kernel_rfl
  go_enter Try.func116, Try.ntmps116
  go_wp2
  refine wp_loop_rounds 3 ?_
  rw [rounds_succ]
  go_wp2_with (go_at_call 113; refine (CheckDisc_any _ _ _ _).mono ?_; rintro e w1 ⟨rfl, hb1⟩; obtain ⟨hB1, hz1, hc1, hf1⟩ := grow4 (w := w) (by go_grown) hb1; (try simp only [World.size_alloc, World.size_setCell, World.size_drew] at hz1); (try have hy1 := Nat.lt_of_succ_le hz1); (try have hx1 := Nat.lt_of_succ_lt hy1); (try have hw1 := Nat.lt_of_succ_lt hx1); (try have hv1 := Nat.lt_of_succ_lt hw1); (try have ha1 : w.heap.size < w1.heap.size := (by omega)); (try have hi1 : w.heap.size + 1 < w1.heap.size := (by omega)); (try have hj1 : w.heap.size + 1 + 1 < w1.heap.size := (by omega)); (try have hk1 : w.heap.size + 1 + 1 + 1 < w1.heap.size := (by omega)); (try have hl1 : w.heap.size + 1 + 1 + 1 + 1 < w1.heap.size := (by omega)))
  rw [rounds_succ]
  go_wp2_with (go_at_call 113; refine (CheckDisc_any _ _ _ _).mono ?_; rintro e w2 ⟨rfl, hb2⟩; obtain ⟨hB2, hz2, hc2, hf2⟩ := grow4 (w := w) (by go_grown) hb2; (try simp only [World.size_alloc, World.size_setCell, World.size_drew] at hz2); (try have hy2 := Nat.lt_of_succ_le hz2); (try have hx2 := Nat.lt_of_succ_lt hy2); (try have hw2 := Nat.lt_of_succ_lt hx2); (try have hv2 := Nat.lt_of_succ_lt hw2); (try have ha2 : w.heap.size < w2.heap.size := (by omega)); (try have hi2 : w.heap.size + 1 < w2.heap.size := (by omega)); (try have hj2 : w.heap.size + 1 + 1 < w2.heap.size := (by omega)); (try have hk2 : w.heap.size + 1 + 1 + 1 < w2.heap.size := (by omega)); (try have hl2 : w.heap.size + 1 + 1 + 1 + 1 < w2.heap.size := (by omega)))
  rw [rounds_succ]
  go_wp2_with (first | (go_at_call 118; refine (sq_call x y u v _ K1.out K2.out).mono ?_; rintro e w3 ⟨rfl, hb3⟩; obtain ⟨hB3, hz3, hc3, hf3⟩ := grow4 (w := w) (by go_grown) hb3; (try simp only [World.size_alloc, World.size_setCell, World.size_drew] at hz3); (try have hy3 := Nat.lt_of_succ_le hz3); (try have hx3 := Nat.lt_of_succ_lt hy3); (try have hw3 := Nat.lt_of_succ_lt hx3); (try have hv3 := Nat.lt_of_succ_lt hw3); (try have ha3 : w.heap.size < w3.heap.size := (by omega)); (try have hi3 : w.heap.size + 1 < w3.heap.size := (by omega)); (try have hj3 : w.heap.size + 1 + 1 < w3.heap.size := (by omega)); (try have hk3 : w.heap.size + 1 + 1 + 1 < w3.heap.size := (by omega)); (try have hl3 : w.heap.size + 1 + 1 + 1 + 1 < w3.heap.size := (by omega))) | (go_at_call 120; refine (cmp64 _ _ _).mono ?_; rintro e w' ⟨rfl, rfl⟩))
  go_returns
  exact ⟨rfl, hB3⟩
end Go.Proofs.Ytmelbcmfahcffaa
end
section
namespace Go.Proofs.Ytmelbcmfahcffaa
open Go Go.RowKit Go.Proofs.Ytmelbcmfahcffaa.E2
def M.overB (x y r u v s : Int) : Bool := decide (M.cmp (M.sq x y u v) ((r + s) * (r + s)) < 0)
theorem lnOverlap0 (x y r u v s : Int) (h1 : chkDisc x y r = 0) (h2 : chkDisc u v s = 0)  : Ret cfx 107 [.raw (.agg #[.int .i64 x, .int .i64 y, .int .i64 r]), .raw (.agg #[.int .i64 u, .int .i64 v, .int .i64 s])] (V.raw (.bool (decide (M.cmp (M.sq x y u v) ((r + s) * (r + s)) < 0)))) := by
  exact fn_of cfx_mixed cfx_call cfx_base.1 cfx_base.2.1 cfx_base.2.2 (n := 40) (ans := [Ans.go, Ans.ret (V.raw (.tuple { toList := [.int .i64 (M.cmp (M.sq x y u v) ((r + s) * (r + s))), .int .i64 0] }))]) (cons := [(Ret cfx 116 [V.raw (.agg { toList := [.int .i64 x, .int .i64 y, .int .i64 r] }), V.raw (.agg { toList := [.int .i64 u, .int .i64 v, .int .i64 s] })] (V.raw (.tuple { toList := [.int .i64 (M.cmp (M.sq x y u v) ((r + s) * (r + s))), .int .i64 0] })))]) zk rfl rfl
    ⟨(fn_of_calls (args := [.agg #[.int .i64 x, .int .i64 y, .int .i64 r], .agg #[.int .i64 u, .int .i64 v, .int .i64 s]]) fun w => Touch_ok x y r u v s w h1 h2), trivial⟩
theorem lnOverlap (x y r u v s : Int) (h1 : chkDisc x y r = 0) (h2 : chkDisc u v s = 0) : Ret cfx 107 [.raw (.agg #[.int .i64 x, .int .i64 y, .int .i64 r]), .raw (.agg #[.int .i64 u, .int .i64 v, .int .i64 s])] (.raw (.bool (M.overB x y r u v s))) := lnOverlap0 x y r u v s h1 h2
end Go.Proofs.Ytmelbcmfahcffaa
end
section
namespace Go.Proofs.Ytmelbcmfahcffaa
open Go Go.RowKit Go.Proofs.Ytmelbcmfahcffaa.E2
theorem rcl_loop (nm : ByteArray) (gs cs : List Int) (n k : Nat) (T U : Nat) (w g y a b r p q : Int) (hn1 : ¬ (n : Int) < 1) (hn2 : ¬ 12 < n) (hk : ¬ 256 < k) (hz : n * 5 ≤ gs.length) (hnm : Ret cfx 87 [.raw (.string nm)] (.raw (.bool true))) (hs1 : M.btw w 65536 4194304 = true) (hs2 : M.btw g 65536 4194304 = true) (hs3 : M.btw y 0 ((if g < w then g else w).tdiv 4) = true) (hzc : k * 3 ≤ cs.length) (hr : M.btw r 1 8192 = true) (ha : M.btw a 0 4194304 = true) (hb : M.btw b 0 4194304 = true) (hp1 : ¬ p < 1) (hp2 : ¬ 16 < p) (hq1 : ¬ q < 1) (hq2 : ¬ 16 < q) (hpq : 0 ≤ p * q ∧ p * q ≤ 256) (hkk : (k : Int) = p * q) (hR0 : (zq160 nm gs cs n k T U w g y a b r p q)) : (M.cellsB cs k = true ∧ Runs cfx 0 3 none (.loop (loopOf cfx.P 45 1)) (rcl_T nm gs cs n k T U w g y a b r p q 0) (rcl_H nm gs cs n k T U w g y a b r p q 0) (.exit 2) (rcl_T3 nm gs cs n k T U w g y a b r p q k) (rcl_H3 nm gs cs n k T U w g y a b r p q k)) ∨ (M.cellsB cs k = false ∧ ∃ i : Nat, Runs cfx 0 3 none (.loop (loopOf cfx.P 45 1)) (rcl_T nm gs cs n k T U w g y a b r p q 0) (rcl_H nm gs cs n k T U w g y a b r p q 0) (.ret) (rcl_T1 nm gs cs n k T U w g y a b r p q i) (rcl_H1 nm gs cs n k T U w g y a b r p q i)) := by
  rcases upto_find (c := cfx) (lim := 0) (n0 := 3) (x := loopOf cfx.P 45 1) noRnd (M.cellZ cs) (fun i : Nat => rcl_T nm gs cs n k T U w g y a b r p q i) (fun i : Nat => rcl_H nm gs cs n k T U w g y a b r p q i) k (fun i : Nat => rcl_T1 nm gs cs n k T U w g y a b r p q i) (fun i : Nat => rcl_H1 nm gs cs n k T U w g y a b r p q i) (e := .exit 2) (e1 := .ret) (by simp) (by simp)
    (fun i hi hgd => rcl_2 nm gs cs n k T U w g y a b r p q hn1 hn2 hk hz hnm hs1 hs2 hs3 hzc hr ha hb hp1 hp2 hq1 hq2 hpq hkk hR0 i zo zo hgd)
    (fun i hi hgd => rcl_1 nm gs cs n k T U w g y a b r p q hn1 hn2 hk hz hnm hs1 hs2 hs3 hzc hr ha hb hp1 hp2 hq1 hq2 hpq hkk hR0 i zo zo hgd)
    (rcl_3 nm gs cs n k T U w g y a b r p q hn1 hn2 hk hz hnm hs1 hs2 hs3 hzc hr ha hb hp1 hp2 hq1 hq2 hpq hkk hR0 k zo zo) with ⟨h1, h2⟩ | ⟨h1, i, hi, h2, h3, h4⟩
  · exact .inl ⟨h1, h2⟩
  · exact .inr ⟨h1, i, h4⟩
theorem lnSquare (x y u v : Int) (h1 : 0 ≤ (x - u) * (x - u) ∧ (x - u) * (x - u) ≤ 281474976710656) (h2 : 0 ≤ (y - v) * (y - v) ∧ (y - v) * (y - v) ≤ 281474976710656) (hx : -8388608 ≤ x ∧ x ≤ 8388608) (hy : -8388608 ≤ y ∧ y ≤ 8388608) (hu : -8388608 ≤ u ∧ u ≤ 8388608) (hv : -8388608 ≤ v ∧ v ≤ 8388608)  : Ret cfx 90 [.raw (.agg #[.int .i64 x, .int .i64 y]), .raw (.agg #[.int .i64 u, .int .i64 v])] (iV ((x - u) * (x - u) + (y - v) * (y - v))) := by
  exact fn_of cfx_mixed cfx_call cfx_base.1 cfx_base.2.1 cfx_base.2.2 (n := 40) (ans := [Ans.go]) (cons := [(inR IntKind.i64 (x - u)), (inR IntKind.i64 (x - u)), (inR IntKind.i64 ((x - u) * (x - u))), (inR IntKind.i64 (y - v)), (inR IntKind.i64 (y - v)), (inR IntKind.i64 ((y - v) * (y - v))), (inR IntKind.i64 ((x - u) * (x - u) + (y - v) * (y - v)))]) zk rfl rfl
    ⟨inR_i64 zo zo, inR_i64 zo zo, inR_i64 zo zo, inR_i64 zo zo, inR_i64 zo zo, inR_i64 zo zo, inR_i64 zo zo, trivial⟩
abbrev zq15 (nm : ByteArray) (w : Int) (g : Int) (y : Int) (n : Nat) (a : Int) (b : Int) (r : Int) (p : Int) (q : Int) (k : Nat) (m : Nat) (i : Int) : List V := (catV [lwA nm w g y n a b r p q k, .ptr 2 0, iV 0, iV (n : Int), iV (k : Int), .slo 3 m, iV i] (anyR 7 217 []))
def rpg_T (nm : ByteArray) (gs cs : List Int) (n k : Nat) (T U : Nat) (w g y a b r p q : Int) (zs : List Int) (m : Nat) (i : Int) : List V := (zq15 nm w g y n a b r p q k m i)
abbrev zq258 (gs : List Int) (T : Nat) (cs : List Int) (U : Nat) (nm : ByteArray) (w : Int) (g : Int) (y : Int) (n : Nat) (a : Int) (b : Int) (r : Int) (p : Int) (q : Int) (k : Nat) (zs : List Int) : Heap := [bkG gs T, bkI cs U, bkW nm w g y n a b r p q k, some (.cells (ints zs) 26 (.row 3))]
abbrev zq219 (gs : List Int) (T : Nat) (cs : List Int) (U : Nat) (nm : ByteArray) (w : Int) (g : Int) (y : Int) (n : Nat) (a : Int) (b : Int) (r : Int) (p : Int) (q : Int) (k : Nat) (zs : List Int) : Heap := (zq258 gs T cs U nm w g y n a b r p q k zs)
def rpg_H (nm : ByteArray) (gs cs : List Int) (n k : Nat) (T U : Nat) (w g y a b r p q : Int) (zs : List Int) (m : Nat) (i : Int) : Heap := (zq219 gs T cs U nm w g y n a b r p q k zs)
end Go.Proofs.Ytmelbcmfahcffaa
end
section
namespace Go.Proofs.Ytmelbcmfahcffaa
open Go Go.RowKit Go.Proofs.Ytmelbcmfahcffaa.E2
def M.okP (x y : Int) : Prop := (-8388608 ≤ x ∧ x ≤ 8388608) ∧ (-8388608 ≤ y ∧ y ≤ 8388608)
theorem rnSquare {x y u v : Int} (h1 : M.okP x y) (h2 : M.okP u v) : Ret cfx 90 [.raw (.agg #[.int .i64 x, .int .i64 y]), .raw (.agg #[.int .i64 u, .int .i64 v])] (.raw (.int .i64 (M.sq x y u v))) := by
  obtain ⟨a1, a2⟩ := h1
  obtain ⟨b1, b2⟩ := h2
  have e : M.sq x y u v = (x - u) * (x - u) + (y - v) * (y - v) := by
    unfold M.sq
    rw [show u - x = -(x - u) by omega, show v - y = -(y - v) by omega, Int.neg_mul_neg, Int.neg_mul_neg]
  rw [e]
  have m1 := M.mul_bd (x - u) (x - u) 16777216 16777216 zo zo zo zo
  have m2 := M.mul_bd (y - v) (y - v) 16777216 16777216 zo zo zo zo
  have p1 : 0 ≤ (x - u) * (x - u) := (by rcases Int.le_total 0 (x - u) with h | h; exact Int.mul_nonneg h h; exact Int.mul_nonneg_of_nonpos_of_nonpos h h)
  have p2 : 0 ≤ (y - v) * (y - v) := (by rcases Int.le_total 0 (y - v) with h | h; exact Int.mul_nonneg h h; exact Int.mul_nonneg_of_nonpos_of_nonpos h h)
  exact lnSquare x y u v ⟨p1, by omega⟩ ⟨p2, by omega⟩ a1 a2 b1 b2
end Go.Proofs.Ytmelbcmfahcffaa
end
section
namespace Go.Proofs.Ytmelbcmfahcffaa
open Go Go.RowKit Go.Proofs.Ytmelbcmfahcffaa.E2
abbrev zq17 (nm : ByteArray) (w : Int) (g : Int) (y : Int) (n : Nat) (a : Int) (b : Int) (r : Int) (p : Int) (q : Int) (k : Nat) (m : Nat) (i : Int) (j : Int) : List V := (catV [lwA nm w g y n a b r p q k, .ptr 2 0, iV 0, iV (n : Int), iV (k : Int), .slo 3 m, iV i, iV j] (anyR 8 216 []))
def rph_T (nm : ByteArray) (gs cs : List Int) (n k : Nat) (T U : Nat) (w g y a b r p q : Int) (zs : List Int) (m : Nat) (i : Int) (j : Int) : List V := (zq17 nm w g y n a b r p q k m i j)
def rph_H (nm : ByteArray) (gs cs : List Int) (n k : Nat) (T U : Nat) (w g y a b r p q : Int) (zs : List Int) (m : Nat) (i : Int) (j : Int) : Heap := (zq219 gs T cs U nm w g y n a b r p q k zs)
def rph_T1 (nm : ByteArray) (gs cs : List Int) (n k : Nat) (T U : Nat) (w g y a b r p q : Int) (zs : List Int) (m : Nat) (i : Int) (j : Int) : List V := (catV [lwA nm w g y n a b r p q k, .ptr 2 0, iV 2, iV (n : Int), iV (k : Int), .slo 3 m, iV i, iV j] (anyR 8 216 []))
def rph_H1 (nm : ByteArray) (gs cs : List Int) (n k : Nat) (T U : Nat) (w g y a b r p q : Int) (zs : List Int) (m : Nat) (i : Int) (j : Int) : Heap := (zq219 gs T cs U nm w g y n a b r p q k zs)
abbrev zq118 (zs : List Int) (i : Int) (j : Int) : Prop := Ret cfx 90 [V.raw (.agg { toList := [.int .i64 (at' zs (i.toNat * 3)), .int .i64 (at' zs (i.toNat * 3 + 1))] }), V.raw (.agg { toList := [.int .i64 (at' zs (j.toNat * 3)), .int .i64 (at' zs (j.toNat * 3 + 1))] })] (iV (M.sq (at' zs (i.toNat * 3)) (at' zs (i.toNat * 3 + 1)) (at' zs (j.toNat * 3)) (at' zs (j.toNat * 3 + 1))))
abbrev zq161 (nm : ByteArray) (gs : List Int) (cs : List Int) (n : Nat) (k : Nat) (T : Nat) (U : Nat) (w : Int) (g : Int) (y : Int) (a : Int) (b : Int) (r : Int) (p : Int) (q : Int) : Prop := Runs cfx 0 3 none (.loop (loopOf cfx.P 45 1)) (rcl_T nm gs cs n k T U w g y a b r p q 0) (rcl_H nm gs cs n k T U w g y a b r p q 0) (.exit 2) (rcl_T3 nm gs cs n k T U w g y a b r p q k) (rcl_H3 nm gs cs n k T U w g y a b r p q k)
abbrev zq200 (nm : ByteArray) (w : Int) (g : Int) (y : Int) (n : Nat) (a : Int) (b : Int) (r : Int) (p : Int) (q : Int) (k : Nat) (gs : List Int) (T : Nat) (cs : List Int) (U : Nat) (m : Nat) (zs : List Int) : Prop := Meets cfx 0 54 [lwA nm w g y n a b r p q k] [bkG gs T, bkI cs U] (.slo 2 m) ([bkG gs T, bkI cs U, some (.cells (ints zs) 26 (.row 3))])
theorem rph_1 (nm : ByteArray) (gs cs : List Int) (n k : Nat) (T U : Nat) (w g y a b r p q : Int) (zs : List Int) (m : Nat) (hn1 : ¬ (n : Int) < 1) (hn2 : ¬ 12 < n) (hk : ¬ 256 < k) (hz : n * 5 ≤ gs.length) (hnm : Ret cfx 87 [.raw (.string nm)] (.raw (.bool true))) (hs1 : M.btw w 65536 4194304 = true) (hs2 : M.btw g 65536 4194304 = true) (hs3 : M.btw y 0 ((if g < w then g else w).tdiv 4) = true) (hzc : k * 3 ≤ cs.length) (hr : M.btw r 1 8192 = true) (ha : M.btw a 0 4194304 = true) (hb : M.btw b 0 4194304 = true) (hp1 : ¬ p < 1) (hp2 : ¬ 16 < p) (hq1 : ¬ q < 1) (hq2 : ¬ 16 < q) (hpq : 0 ≤ p * q ∧ p * q ≤ 256) (hkk : (k : Int) = p * q) (hR0 : (zq160 nm gs cs n k T U w g y a b r p q)) (hR1 : (zq161 nm gs cs n k T U w g y a b r p q)) (hpo : (zq200 nm w g y n a b r p q k gs T cs U m zs)) (hzl : zs.length = m * 3) (hm : m ≤ 100) (hwg : (-4194304 ≤ w ∧ w ≤ 4194304) ∧ (-4194304 ≤ g ∧ g ≤ 4194304)) (i : Int) (hi1 : 0 ≤ i) (hi2 : i < m) (hd : ∀ j : Nat, j < m → M.okP (at' zs (j * 3)) (at' zs (j * 3 + 1))) (hf1 : M.btw (at' zs (i.toNat * 3)) (at' zs (i.toNat * 3 + 2)) (w - at' zs (i.toNat * 3 + 2)) = true) (hf2 : M.btw (at' zs (i.toNat * 3 + 1)) (at' zs (i.toNat * 3 + 2)) (g - at' zs (i.toNat * 3 + 2)) = true) (j : Int) (hj1 : 0 ≤ j) (hrr : j < i → ((-20000000 ≤ at' zs (i.toNat * 3 + 2) + at' zs (j.toNat * 3 + 2) ∧ at' zs (i.toNat * 3 + 2) + at' zs (j.toNat * 3 + 2) ≤ 20000000) ∧ (0 ≤ (at' zs (i.toNat * 3 + 2) + at' zs (j.toNat * 3 + 2)) * (at' zs (i.toNat * 3 + 2) + at' zs (j.toNat * 3 + 2)) ∧ (at' zs (i.toNat * 3 + 2) + at' zs (j.toNat * 3 + 2)) * (at' zs (i.toNat * 3 + 2) + at' zs (j.toNat * 3 + 2)) ≤ 400000000000000))) (f0 : j < i) (f1 : M.sq (at' zs (i.toNat * 3)) (at' zs (i.toNat * 3 + 1)) (at' zs (j.toNat * 3)) (at' zs (j.toNat * 3 + 1)) < (at' zs (i.toNat * 3 + 2) + at' zs (j.toNat * 3 + 2)) * (at' zs (i.toNat * 3 + 2) + at' zs (j.toNat * 3 + 2))) : Runs cfx 0 4 none (loopOf cfx.P 45 3) (rph_T nm gs cs n k T U w g y a b r p q zs m i j) (rph_H nm gs cs n k T U w g y a b r p q zs m i j) (Ex.ret) (rph_T1 nm gs cs n k T U w g y a b r p q zs m i j) (rph_H1 nm gs cs n k T U w g y a b r p q zs m i j) := by
  refine Runs.post (t1 := (catV [lwA nm w g y n a b r p q k, .ptr 2 0, iV 2, iV (n : Int), iV (k : Int), .slo 3 m, iV i, iV j] (anyR 8 176 [iV j, iV i, V.raw (.bool (decide (j < i))), .any 187, .any 188, .slo 3 m, iV i, V.ptr 3 (i.toNat * 3), V.ptr 3 (i.toNat * 3), (rowV zs (i.toNat * 3) 2), .slo 3 m, iV j, V.ptr 3 (j.toNat * 3), V.ptr 3 (j.toNat * 3), (rowV zs (j.toNat * 3) 2), iV (M.sq (at' zs (i.toNat * 3)) (at' zs (i.toNat * 3 + 1)) (at' zs (j.toNat * 3)) (at' zs (j.toNat * 3 + 1))), .slo 3 m, iV i, V.ptr 3 (i.toNat * 3), V.ptr 3 (i.toNat * 3 + 2), iV (at' zs (i.toNat * 3 + 2)), .slo 3 m, iV j, V.ptr 3 (j.toNat * 3), V.ptr 3 (j.toNat * 3 + 2), iV (at' zs (j.toNat * 3 + 2)), iV (at' zs (i.toNat * 3 + 2) + at' zs (j.toNat * 3 + 2)), .slo 3 m, iV i, V.ptr 3 (i.toNat * 3), V.ptr 3 (i.toNat * 3 + 2), iV (at' zs (i.toNat * 3 + 2)), .slo 3 m, iV j, V.ptr 3 (j.toNat * 3), V.ptr 3 (j.toNat * 3 + 2), iV (at' zs (j.toNat * 3 + 2)), iV (at' zs (i.toNat * 3 + 2) + at' zs (j.toNat * 3 + 2)), iV ((at' zs (i.toNat * 3 + 2) + at' zs (j.toNat * 3 + 2)) * (at' zs (i.toNat * 3 + 2) + at' zs (j.toNat * 3 + 2))), V.raw (.bool (decide (M.sq (at' zs (i.toNat * 3)) (at' zs (i.toNat * 3 + 1)) (at' zs (j.toNat * 3)) (at' zs (j.toNat * 3 + 1)) < (at' zs (i.toNat * 3 + 2) + at' zs (j.toNat * 3 + 2)) * (at' zs (i.toNat * 3 + 2) + at' zs (j.toNat * 3 + 2)))))]))) (h1 := (zq219 gs T cs U nm w g y n a b r p q k zs)) (body_of cfx_mixed cfx_call zz (rnd := none) (fi := 0) (k := 0) (n := 40) (n0 := 4) (ans := [zT, Ans.olds [], Ans.val 3 ((rowV zs (i.toNat * 3) 2)), Ans.val 3 ((rowV zs (j.toNat * 3) 2)), Ans.ret (iV (M.sq (at' zs (i.toNat * 3)) (at' zs (i.toNat * 3 + 1)) (at' zs (j.toNat * 3)) (at' zs (j.toNat * 3 + 1)))), Ans.val 3 (iV (at' zs (i.toNat * 3 + 2))), Ans.val 3 (iV (at' zs (j.toNat * 3 + 2))), Ans.val 3 (iV (at' zs (i.toNat * 3 + 2))), Ans.val 3 (iV (at' zs (j.toNat * 3 + 2))), zT]) (cons := [(decide (j < i) = true), (0 ≤ i ∧ i < (m : Int)), (loadRow cfx 24 (ints zs) (i.toNat * 3) = some ((rowV zs (i.toNat * 3) 2))), (0 ≤ j ∧ j < (m : Int)), (loadRow cfx 24 (ints zs) (j.toNat * 3) = some ((rowV zs (j.toNat * 3) 2))), ((zq118 zs i j)), (0 ≤ i ∧ i < (m : Int)), (loadRow cfx 2 (ints zs) (i.toNat * 3 + 2) = some (iV (at' zs (i.toNat * 3 + 2)))), (0 ≤ j ∧ j < (m : Int)), (loadRow cfx 2 (ints zs) (j.toNat * 3 + 2) = some (iV (at' zs (j.toNat * 3 + 2)))), (inR IntKind.i64 (at' zs (i.toNat * 3 + 2) + at' zs (j.toNat * 3 + 2))), (0 ≤ i ∧ i < (m : Int)), (loadRow cfx 2 (ints zs) (i.toNat * 3 + 2) = some (iV (at' zs (i.toNat * 3 + 2)))), (0 ≤ j ∧ j < (m : Int)), (loadRow cfx 2 (ints zs) (j.toNat * 3 + 2) = some (iV (at' zs (j.toNat * 3 + 2)))), (inR IntKind.i64 (at' zs (i.toNat * 3 + 2) + at' zs (j.toNat * 3 + 2))), (inR IntKind.i64 ((at' zs (i.toNat * 3 + 2) + at' zs (j.toNat * 3 + 2)) * (at' zs (i.toNat * 3 + 2) + at' zs (j.toNat * 3 + 2)))), (decide (M.sq (at' zs (i.toNat * 3)) (at' zs (i.toNat * 3 + 1)) (at' zs (j.toNat * 3)) (at' zs (j.toNat * 3 + 1)) < (at' zs (i.toNat * 3 + 2) + at' zs (j.toNat * 3 + 2)) * (at' zs (i.toNat * 3 + 2) + at' zs (j.toNat * 3 + 2))) = true)]) zk
    ⟨zdf, zo, (load_agg 2 zk zk zb zo), zo, (load_agg 2 zk zk zb zo), (rnSquare (hd _ zo) (hd _ zo)), zo, (load_one zk zo), zo, (load_one zk zo), inR_i64 zo zo, zo, (load_one zk zo), zo, (load_one zk zo), inR_i64 zo zo, inR_i64 zo zo, zdf, trivial⟩ zb zb noRnd (noRanges zk)) zt3
theorem rph_2 (nm : ByteArray) (gs cs : List Int) (n k : Nat) (T U : Nat) (w g y a b r p q : Int) (zs : List Int) (m : Nat) (hn1 : ¬ (n : Int) < 1) (hn2 : ¬ 12 < n) (hk : ¬ 256 < k) (hz : n * 5 ≤ gs.length) (hnm : Ret cfx 87 [.raw (.string nm)] (.raw (.bool true))) (hs1 : M.btw w 65536 4194304 = true) (hs2 : M.btw g 65536 4194304 = true) (hs3 : M.btw y 0 ((if g < w then g else w).tdiv 4) = true) (hzc : k * 3 ≤ cs.length) (hr : M.btw r 1 8192 = true) (ha : M.btw a 0 4194304 = true) (hb : M.btw b 0 4194304 = true) (hp1 : ¬ p < 1) (hp2 : ¬ 16 < p) (hq1 : ¬ q < 1) (hq2 : ¬ 16 < q) (hpq : 0 ≤ p * q ∧ p * q ≤ 256) (hkk : (k : Int) = p * q) (hR0 : (zq160 nm gs cs n k T U w g y a b r p q)) (hR1 : (zq161 nm gs cs n k T U w g y a b r p q)) (hpo : (zq200 nm w g y n a b r p q k gs T cs U m zs)) (hzl : zs.length = m * 3) (hm : m ≤ 100) (hwg : (-4194304 ≤ w ∧ w ≤ 4194304) ∧ (-4194304 ≤ g ∧ g ≤ 4194304)) (i : Int) (hi1 : 0 ≤ i) (hi2 : i < m) (hd : ∀ j : Nat, j < m → M.okP (at' zs (j * 3)) (at' zs (j * 3 + 1))) (hf1 : M.btw (at' zs (i.toNat * 3)) (at' zs (i.toNat * 3 + 2)) (w - at' zs (i.toNat * 3 + 2)) = true) (hf2 : M.btw (at' zs (i.toNat * 3 + 1)) (at' zs (i.toNat * 3 + 2)) (g - at' zs (i.toNat * 3 + 2)) = true) (j : Int) (hj1 : 0 ≤ j) (hrr : j < i → ((-20000000 ≤ at' zs (i.toNat * 3 + 2) + at' zs (j.toNat * 3 + 2) ∧ at' zs (i.toNat * 3 + 2) + at' zs (j.toNat * 3 + 2) ≤ 20000000) ∧ (0 ≤ (at' zs (i.toNat * 3 + 2) + at' zs (j.toNat * 3 + 2)) * (at' zs (i.toNat * 3 + 2) + at' zs (j.toNat * 3 + 2)) ∧ (at' zs (i.toNat * 3 + 2) + at' zs (j.toNat * 3 + 2)) * (at' zs (i.toNat * 3 + 2) + at' zs (j.toNat * 3 + 2)) ≤ 400000000000000))) (f0 : j < i) (f1 : ¬M.sq (at' zs (i.toNat * 3)) (at' zs (i.toNat * 3 + 1)) (at' zs (j.toNat * 3)) (at' zs (j.toNat * 3 + 1)) < (at' zs (i.toNat * 3 + 2) + at' zs (j.toNat * 3 + 2)) * (at' zs (i.toNat * 3 + 2) + at' zs (j.toNat * 3 + 2))) : Runs cfx 0 4 none (loopOf cfx.P 45 3) (rph_T nm gs cs n k T U w g y a b r p q zs m i j) (rph_H nm gs cs n k T U w g y a b r p q zs m i j) (Ex.normal) (rph_T nm gs cs n k T U w g y a b r p q zs m i (j + 1)) (rph_H nm gs cs n k T U w g y a b r p q zs m i (j + 1)) := by
  refine Runs.post (t1 := (catV [lwA nm w g y n a b r p q k, .ptr 2 0, iV 0, iV (n : Int), iV (k : Int), .slo 3 m, iV i, iV (j + 1)] (anyR 8 176 [iV j, iV i, V.raw (.bool (decide (j < i))), iV j, iV (j + 1), .slo 3 m, iV i, V.ptr 3 (i.toNat * 3), V.ptr 3 (i.toNat * 3), (rowV zs (i.toNat * 3) 2), .slo 3 m, iV j, V.ptr 3 (j.toNat * 3), V.ptr 3 (j.toNat * 3), (rowV zs (j.toNat * 3) 2), iV (M.sq (at' zs (i.toNat * 3)) (at' zs (i.toNat * 3 + 1)) (at' zs (j.toNat * 3)) (at' zs (j.toNat * 3 + 1))), .slo 3 m, iV i, V.ptr 3 (i.toNat * 3), V.ptr 3 (i.toNat * 3 + 2), iV (at' zs (i.toNat * 3 + 2)), .slo 3 m, iV j, V.ptr 3 (j.toNat * 3), V.ptr 3 (j.toNat * 3 + 2), iV (at' zs (j.toNat * 3 + 2)), iV (at' zs (i.toNat * 3 + 2) + at' zs (j.toNat * 3 + 2)), .slo 3 m, iV i, V.ptr 3 (i.toNat * 3), V.ptr 3 (i.toNat * 3 + 2), iV (at' zs (i.toNat * 3 + 2)), .slo 3 m, iV j, V.ptr 3 (j.toNat * 3), V.ptr 3 (j.toNat * 3 + 2), iV (at' zs (j.toNat * 3 + 2)), iV (at' zs (i.toNat * 3 + 2) + at' zs (j.toNat * 3 + 2)), iV ((at' zs (i.toNat * 3 + 2) + at' zs (j.toNat * 3 + 2)) * (at' zs (i.toNat * 3 + 2) + at' zs (j.toNat * 3 + 2))), V.raw (.bool (decide (M.sq (at' zs (i.toNat * 3)) (at' zs (i.toNat * 3 + 1)) (at' zs (j.toNat * 3)) (at' zs (j.toNat * 3 + 1)) < (at' zs (i.toNat * 3 + 2) + at' zs (j.toNat * 3 + 2)) * (at' zs (i.toNat * 3 + 2) + at' zs (j.toNat * 3 + 2)))))]))) (h1 := (zq219 gs T cs U nm w g y n a b r p q k zs)) (body_of cfx_mixed cfx_call zz (rnd := none) (fi := 0) (k := 0) (n := 40) (n0 := 4) (ans := [zT, Ans.olds [], Ans.val 3 ((rowV zs (i.toNat * 3) 2)), Ans.val 3 ((rowV zs (j.toNat * 3) 2)), Ans.ret (iV (M.sq (at' zs (i.toNat * 3)) (at' zs (i.toNat * 3 + 1)) (at' zs (j.toNat * 3)) (at' zs (j.toNat * 3 + 1)))), Ans.val 3 (iV (at' zs (i.toNat * 3 + 2))), Ans.val 3 (iV (at' zs (j.toNat * 3 + 2))), Ans.val 3 (iV (at' zs (i.toNat * 3 + 2))), Ans.val 3 (iV (at' zs (j.toNat * 3 + 2))), zF]) (cons := [(decide (j < i) = true), (0 ≤ i ∧ i < (m : Int)), (loadRow cfx 24 (ints zs) (i.toNat * 3) = some ((rowV zs (i.toNat * 3) 2))), (0 ≤ j ∧ j < (m : Int)), (loadRow cfx 24 (ints zs) (j.toNat * 3) = some ((rowV zs (j.toNat * 3) 2))), ((zq118 zs i j)), (0 ≤ i ∧ i < (m : Int)), (loadRow cfx 2 (ints zs) (i.toNat * 3 + 2) = some (iV (at' zs (i.toNat * 3 + 2)))), (0 ≤ j ∧ j < (m : Int)), (loadRow cfx 2 (ints zs) (j.toNat * 3 + 2) = some (iV (at' zs (j.toNat * 3 + 2)))), (inR IntKind.i64 (at' zs (i.toNat * 3 + 2) + at' zs (j.toNat * 3 + 2))), (0 ≤ i ∧ i < (m : Int)), (loadRow cfx 2 (ints zs) (i.toNat * 3 + 2) = some (iV (at' zs (i.toNat * 3 + 2)))), (0 ≤ j ∧ j < (m : Int)), (loadRow cfx 2 (ints zs) (j.toNat * 3 + 2) = some (iV (at' zs (j.toNat * 3 + 2)))), (inR IntKind.i64 (at' zs (i.toNat * 3 + 2) + at' zs (j.toNat * 3 + 2))), (inR IntKind.i64 ((at' zs (i.toNat * 3 + 2) + at' zs (j.toNat * 3 + 2)) * (at' zs (i.toNat * 3 + 2) + at' zs (j.toNat * 3 + 2)))), (decide (M.sq (at' zs (i.toNat * 3)) (at' zs (i.toNat * 3 + 1)) (at' zs (j.toNat * 3)) (at' zs (j.toNat * 3 + 1)) < (at' zs (i.toNat * 3 + 2) + at' zs (j.toNat * 3 + 2)) * (at' zs (i.toNat * 3 + 2) + at' zs (j.toNat * 3 + 2))) = false), (inR IntKind.i64 (j + 1))]) zk
    ⟨zdf, zo, (load_agg 2 zk zk zb zo), zo, (load_agg 2 zk zk zb zo), (rnSquare (hd _ zo) (hd _ zo)), zo, (load_one zk zo), zo, (load_one zk zo), inR_i64 zo zo, zo, (load_one zk zo), zo, (load_one zk zo), inR_i64 zo zo, inR_i64 zo zo, zdf, inR_i64 zo zo, trivial⟩ zb zb noRnd (noRanges zk)) zt3
def rph_T3 (nm : ByteArray) (gs cs : List Int) (n k : Nat) (T U : Nat) (w g y a b r p q : Int) (zs : List Int) (m : Nat) (i : Int) (j : Int) : List V := (zq17 nm w g y n a b r p q k m i j)
def rph_H3 (nm : ByteArray) (gs cs : List Int) (n k : Nat) (T U : Nat) (w g y a b r p q : Int) (zs : List Int) (m : Nat) (i : Int) (j : Int) : Heap := (zq219 gs T cs U nm w g y n a b r p q k zs)
theorem rph_3 (nm : ByteArray) (gs cs : List Int) (n k : Nat) (T U : Nat) (w g y a b r p q : Int) (zs : List Int) (m : Nat) (hn1 : ¬ (n : Int) < 1) (hn2 : ¬ 12 < n) (hk : ¬ 256 < k) (hz : n * 5 ≤ gs.length) (hnm : Ret cfx 87 [.raw (.string nm)] (.raw (.bool true))) (hs1 : M.btw w 65536 4194304 = true) (hs2 : M.btw g 65536 4194304 = true) (hs3 : M.btw y 0 ((if g < w then g else w).tdiv 4) = true) (hzc : k * 3 ≤ cs.length) (hr : M.btw r 1 8192 = true) (ha : M.btw a 0 4194304 = true) (hb : M.btw b 0 4194304 = true) (hp1 : ¬ p < 1) (hp2 : ¬ 16 < p) (hq1 : ¬ q < 1) (hq2 : ¬ 16 < q) (hpq : 0 ≤ p * q ∧ p * q ≤ 256) (hkk : (k : Int) = p * q) (hR0 : (zq160 nm gs cs n k T U w g y a b r p q)) (hR1 : (zq161 nm gs cs n k T U w g y a b r p q)) (hpo : (zq200 nm w g y n a b r p q k gs T cs U m zs)) (hzl : zs.length = m * 3) (hm : m ≤ 100) (hwg : (-4194304 ≤ w ∧ w ≤ 4194304) ∧ (-4194304 ≤ g ∧ g ≤ 4194304)) (i : Int) (hi1 : 0 ≤ i) (hi2 : i < m) (hd : ∀ j : Nat, j < m → M.okP (at' zs (j * 3)) (at' zs (j * 3 + 1))) (hf1 : M.btw (at' zs (i.toNat * 3)) (at' zs (i.toNat * 3 + 2)) (w - at' zs (i.toNat * 3 + 2)) = true) (hf2 : M.btw (at' zs (i.toNat * 3 + 1)) (at' zs (i.toNat * 3 + 2)) (g - at' zs (i.toNat * 3 + 2)) = true) (j : Int) (hj1 : 0 ≤ j) (hrr : j < i → ((-20000000 ≤ at' zs (i.toNat * 3 + 2) + at' zs (j.toNat * 3 + 2) ∧ at' zs (i.toNat * 3 + 2) + at' zs (j.toNat * 3 + 2) ≤ 20000000) ∧ (0 ≤ (at' zs (i.toNat * 3 + 2) + at' zs (j.toNat * 3 + 2)) * (at' zs (i.toNat * 3 + 2) + at' zs (j.toNat * 3 + 2)) ∧ (at' zs (i.toNat * 3 + 2) + at' zs (j.toNat * 3 + 2)) * (at' zs (i.toNat * 3 + 2) + at' zs (j.toNat * 3 + 2)) ≤ 400000000000000))) (f0 : ¬j < i) : Runs cfx 0 4 none (loopOf cfx.P 45 3) (rph_T nm gs cs n k T U w g y a b r p q zs m i j) (rph_H nm gs cs n k T U w g y a b r p q zs m i j) (Ex.exit 6) (rph_T3 nm gs cs n k T U w g y a b r p q zs m i j) (rph_H3 nm gs cs n k T U w g y a b r p q zs m i j) := by
  refine Runs.post (t1 := (catV [lwA nm w g y n a b r p q k, .ptr 2 0, iV 0, iV (n : Int), iV (k : Int), .slo 3 m, iV i, iV j] (anyR 8 176 (catV [iV j, iV i, V.raw (.bool (decide (j < i)))] (anyR 187 37 []))))) (h1 := (zq219 gs T cs U nm w g y n a b r p q k zs)) (body_of cfx_mixed cfx_call zz (rnd := none) (fi := 0) (k := 0) (n := 40) (n0 := 4) (ans := [zF]) (cons := [(decide (j < i) = false)]) zk
    ⟨zdf, trivial⟩ zb zb noRnd (noRanges zk)) zt3
end Go.Proofs.Ytmelbcmfahcffaa
end
section
namespace Go.Proofs.Ytmelbcmfahcffaa
open Go Go.RowKit Go.Proofs.Ytmelbcmfahcffaa.E2
abbrev zq59 (nm : ByteArray) (w : Int) (g : Int) (y : Int) (n : Nat) (a : Int) (b : Int) (r : Int) (p : Int) (q : Int) (k : Nat) (m : Nat) (i : Int) : List V := (catV [lwA nm w g y n a b r p q k, .ptr 2 0, V.raw (.bool false), .slo 3 m] (anyR 4 13 (catV [.slo 3 m, iV (m : Int), iV i] (anyR 20 50 []))))
def pf_T (nm : ByteArray) (gs cs zs : List Int) (n k m : Nat) (T U : Nat) (w g y a b r p q : Int) (i : Int) : List V := (zq59 nm w g y n a b r p q k m i)
def pf_H (nm : ByteArray) (gs cs zs : List Int) (n k m : Nat) (T U : Nat) (w g y a b r p q : Int) (i : Int) : Heap := (zq219 gs T cs U nm w g y n a b r p q k zs)
def pf_T1 (nm : ByteArray) (gs cs zs : List Int) (n k m : Nat) (T U : Nat) (w g y a b r p q : Int) (i : Int) : List V := (zq59 nm w g y n a b r p q k m i)
def pf_H1 (nm : ByteArray) (gs cs zs : List Int) (n k m : Nat) (T U : Nat) (w g y a b r p q : Int) (i : Int) : Heap := (zq219 gs T cs U nm w g y n a b r p q k zs)
abbrev zq169 (gs : List Int) (T : Nat) (cs : List Int) (U : Nat) (nm : ByteArray) (w : Int) (g : Int) (y : Int) (n : Nat) (a : Int) (b : Int) (r : Int) (p : Int) (q : Int) (k : Nat) (zs : List Int) (i : Int) : Heap := [bkG gs T, bkI cs U, bkW nm w g y n a b r p q k, some (.cells (ints zs) 26 (.row 3)), some (.cells [iV (at' zs (i.toNat * 3)), iV (at' zs (i.toNat * 3 + 1)), iV (at' zs (i.toNat * 3 + 2))] 26 .rw)]
abbrev zq175 (zs : List Int) (i : Int) (w : Int) : Prop := Ret cfx 69 [iV (at' zs (i.toNat * 3)), iV (at' zs (i.toNat * 3 + 2)), iV (w - at' zs (i.toNat * 3 + 2))] (V.raw (.bool (M.btw (at' zs (i.toNat * 3)) (at' zs (i.toNat * 3 + 2)) (w - at' zs (i.toNat * 3 + 2)))))
abbrev zq198 (nm : ByteArray) (w : Int) (g : Int) (y : Int) (n : Nat) (a : Int) (b : Int) (r : Int) (p : Int) (q : Int) (k : Nat) (gs : List Int) (T : Nat) (cs : List Int) (U : Nat) (m : Nat) (zs : List Int) : Prop := Meets cfx 0 53 [lwA nm w g y n a b r p q k] [bkG gs T, bkI cs U] (.slo 2 m) ([bkG gs T, bkI cs U, some (.cells (ints zs) 26 (.row 3))])
theorem pf_1 (nm : ByteArray) (gs cs zs : List Int) (n k m : Nat) (T U : Nat) (w g y a b r p q : Int) (hpo : (zq198 nm w g y n a b r p q k gs T cs U m zs)) (hr : M.btw r 1 8192 = true) (hz : zs.length = m * 3) (hm : m ≤ 100) (hw : -4194304 ≤ w ∧ w ≤ 4194304) (hg : -4194304 ≤ g ∧ g ≤ 4194304) (i : Int) (hi1 : 0 ≤ i) (hq : i < m → (-10000000 ≤ at' zs (i.toNat * 3 + 2) ∧ at' zs (i.toNat * 3 + 2) ≤ 10000000)) (f0 : i < (m : Int)) (f1 : M.btw (at' zs (i.toNat * 3)) (at' zs (i.toNat * 3 + 2)) (w - at' zs (i.toNat * 3 + 2)) = false) : Runs cfx 0 4 none (loopOf cfx.P 96 0) (pf_T nm gs cs zs n k m T U w g y a b r p q i) (pf_H nm gs cs zs n k m T U w g y a b r p q i) (Ex.ret) (pf_T1 nm gs cs zs n k m T U w g y a b r p q i) (pf_H1 nm gs cs zs n k m T U w g y a b r p q i) := by
  refine Runs.post (t1 := (catV [lwA nm w g y n a b r p q k, .ptr 2 0, V.raw (.bool false), .slo 3 m, .any 4, .ptr 4 0] (anyR 6 11 (catV (catV [.slo 3 m, iV (m : Int), iV i, V.raw (.bool (decide (i < (m : Int)))), V.ptr 3 (i.toNat * 3), (rowV zs (i.toNat * 3) 3), .ptr 4 0, .ptr 4 0, iV (at' zs (i.toNat * 3)), .ptr 4 2, iV (at' zs (i.toNat * 3 + 2)), .ptr 2 1, iV w, .ptr 4 2, iV (at' zs (i.toNat * 3 + 2)), iV (w - at' zs (i.toNat * 3 + 2)), V.raw (.bool (M.btw (at' zs (i.toNat * 3)) (at' zs (i.toNat * 3 + 2)) (w - at' zs (i.toNat * 3 + 2)))), V.raw (.bool !M.btw (at' zs (i.toNat * 3)) (at' zs (i.toNat * 3 + 2)) (w - at' zs (i.toNat * 3 + 2))), V.lit true] (repU 12 [V.raw (.bool true)])) (anyR 49 21 []))))) (h1 := (zq169 gs T cs U nm w g y n a b r p q k zs i)) (body_of cfx_mixed cfx_call zz (rnd := none) (fi := 0) (k := 0) (n := 40) (n0 := 4) (ans := [zT, Ans.val 3 ((rowV zs (i.toNat * 3) 3)), Ans.ret (V.raw (.bool (M.btw (at' zs (i.toNat * 3)) (at' zs (i.toNat * 3 + 2)) (w - at' zs (i.toNat * 3 + 2))))), zT, zT, zT]) (cons := [(decide (i < (m : Int)) = true), (0 ≤ i ∧ i < (m : Int)), (loadRow cfx 26 (ints zs) (i.toNat * 3) = some ((rowV zs (i.toNat * 3) 3))), (inR IntKind.i64 (w - at' zs (i.toNat * 3 + 2))), ((zq175 zs i w)), ((!M.btw (at' zs (i.toNat * 3)) (at' zs (i.toNat * 3 + 2)) (w - at' zs (i.toNat * 3 + 2))) = true), (true = true), (true = true)]) zk
    ⟨zdo, zo, (load_agg 3 zk zk zb zo), inR_i64 zo zo, (lnBetween _ _ _), zdf, rfl, rfl, trivial⟩ zb zb noRnd (noRanges zk)) zt3
def pf_T2 (nm : ByteArray) (gs cs zs : List Int) (n k m : Nat) (T U : Nat) (w g y a b r p q : Int) (i : Int) : List V := (zq59 nm w g y n a b r p q k m i)
def pf_H2 (nm : ByteArray) (gs cs zs : List Int) (n k m : Nat) (T U : Nat) (w g y a b r p q : Int) (i : Int) : Heap := (zq219 gs T cs U nm w g y n a b r p q k zs)
abbrev zq172 (zs : List Int) (i : Int) (g : Int) : Prop := Ret cfx 69 [iV (at' zs (i.toNat * 3 + 1)), iV (at' zs (i.toNat * 3 + 2)), iV (g - at' zs (i.toNat * 3 + 2))] (V.raw (.bool (M.btw (at' zs (i.toNat * 3 + 1)) (at' zs (i.toNat * 3 + 2)) (g - at' zs (i.toNat * 3 + 2)))))
theorem pf_2 (nm : ByteArray) (gs cs zs : List Int) (n k m : Nat) (T U : Nat) (w g y a b r p q : Int) (hpo : (zq198 nm w g y n a b r p q k gs T cs U m zs)) (hr : M.btw r 1 8192 = true) (hz : zs.length = m * 3) (hm : m ≤ 100) (hw : -4194304 ≤ w ∧ w ≤ 4194304) (hg : -4194304 ≤ g ∧ g ≤ 4194304) (i : Int) (hi1 : 0 ≤ i) (hq : i < m → (-10000000 ≤ at' zs (i.toNat * 3 + 2) ∧ at' zs (i.toNat * 3 + 2) ≤ 10000000)) (f0 : i < (m : Int)) (f1 : M.btw (at' zs (i.toNat * 3)) (at' zs (i.toNat * 3 + 2)) (w - at' zs (i.toNat * 3 + 2)) = true) (f2 : M.btw (at' zs (i.toNat * 3 + 1)) (at' zs (i.toNat * 3 + 2)) (g - at' zs (i.toNat * 3 + 2)) = false) : Runs cfx 0 4 none (loopOf cfx.P 96 0) (pf_T nm gs cs zs n k m T U w g y a b r p q i) (pf_H nm gs cs zs n k m T U w g y a b r p q i) (Ex.ret) (pf_T2 nm gs cs zs n k m T U w g y a b r p q i) (pf_H2 nm gs cs zs n k m T U w g y a b r p q i) := by
  refine Runs.post (t1 := (catV [lwA nm w g y n a b r p q k, .ptr 2 0, V.raw (.bool false), .slo 3 m, .any 4, .ptr 4 0] (anyR 6 11 (catV [.slo 3 m, iV (m : Int), iV i, V.raw (.bool (decide (i < (m : Int)))), V.ptr 3 (i.toNat * 3), (rowV zs (i.toNat * 3) 3), .ptr 4 0, .ptr 4 0, iV (at' zs (i.toNat * 3)), .ptr 4 2, iV (at' zs (i.toNat * 3 + 2)), .ptr 2 1, iV w, .ptr 4 2, iV (at' zs (i.toNat * 3 + 2)), iV (w - at' zs (i.toNat * 3 + 2)), V.raw (.bool (M.btw (at' zs (i.toNat * 3)) (at' zs (i.toNat * 3 + 2)) (w - at' zs (i.toNat * 3 + 2)))), V.raw (.bool !M.btw (at' zs (i.toNat * 3)) (at' zs (i.toNat * 3 + 2)) (w - at' zs (i.toNat * 3 + 2))), V.lit false, .ptr 4 0, .ptr 4 1, iV (at' zs (i.toNat * 3 + 1)), .ptr 4 2, iV (at' zs (i.toNat * 3 + 2)), .ptr 2 2, iV g, .ptr 4 2, iV (at' zs (i.toNat * 3 + 2)), iV (g - at' zs (i.toNat * 3 + 2)), V.raw (.bool (M.btw (at' zs (i.toNat * 3 + 1)) (at' zs (i.toNat * 3 + 2)) (g - at' zs (i.toNat * 3 + 2)))), V.raw (.bool !M.btw (at' zs (i.toNat * 3 + 1)) (at' zs (i.toNat * 3 + 2)) (g - at' zs (i.toNat * 3 + 2))), V.raw (.bool !M.btw (at' zs (i.toNat * 3 + 1)) (at' zs (i.toNat * 3 + 2)) (g - at' zs (i.toNat * 3 + 2)))] (anyR 49 21 []))))) (h1 := (zq169 gs T cs U nm w g y n a b r p q k zs i)) (body_of cfx_mixed cfx_call zz (rnd := none) (fi := 0) (k := 0) (n := 40) (n0 := 4) (ans := [zT, Ans.val 3 ((rowV zs (i.toNat * 3) 3)), Ans.ret (V.raw (.bool (M.btw (at' zs (i.toNat * 3)) (at' zs (i.toNat * 3 + 2)) (w - at' zs (i.toNat * 3 + 2))))), zF, Ans.ret (V.raw (.bool (M.btw (at' zs (i.toNat * 3 + 1)) (at' zs (i.toNat * 3 + 2)) (g - at' zs (i.toNat * 3 + 2))))), zF, zT]) (cons := [(decide (i < (m : Int)) = true), (0 ≤ i ∧ i < (m : Int)), (loadRow cfx 26 (ints zs) (i.toNat * 3) = some ((rowV zs (i.toNat * 3) 3))), (inR IntKind.i64 (w - at' zs (i.toNat * 3 + 2))), ((zq175 zs i w)), ((!M.btw (at' zs (i.toNat * 3)) (at' zs (i.toNat * 3 + 2)) (w - at' zs (i.toNat * 3 + 2))) = false), (inR IntKind.i64 (g - at' zs (i.toNat * 3 + 2))), ((zq172 zs i g)), (false = false), ((!M.btw (at' zs (i.toNat * 3 + 1)) (at' zs (i.toNat * 3 + 2)) (g - at' zs (i.toNat * 3 + 2))) = true)]) zk
    ⟨zdo, zo, (load_agg 3 zk zk zb zo), inR_i64 zo zo, (lnBetween _ _ _), zdf, inR_i64 zo zo, (lnBetween _ _ _), rfl, zdf, trivial⟩ zb zb noRnd (noRanges zk)) zt3
theorem pf_3 (nm : ByteArray) (gs cs zs : List Int) (n k m : Nat) (T U : Nat) (w g y a b r p q : Int) (hpo : (zq198 nm w g y n a b r p q k gs T cs U m zs)) (hr : M.btw r 1 8192 = true) (hz : zs.length = m * 3) (hm : m ≤ 100) (hw : -4194304 ≤ w ∧ w ≤ 4194304) (hg : -4194304 ≤ g ∧ g ≤ 4194304) (i : Int) (hi1 : 0 ≤ i) (hq : i < m → (-10000000 ≤ at' zs (i.toNat * 3 + 2) ∧ at' zs (i.toNat * 3 + 2) ≤ 10000000)) (f0 : i < (m : Int)) (f1 : M.btw (at' zs (i.toNat * 3)) (at' zs (i.toNat * 3 + 2)) (w - at' zs (i.toNat * 3 + 2)) = true) (f2 : M.btw (at' zs (i.toNat * 3 + 1)) (at' zs (i.toNat * 3 + 2)) (g - at' zs (i.toNat * 3 + 2)) = true) : Runs cfx 0 4 none (loopOf cfx.P 96 0) (pf_T nm gs cs zs n k m T U w g y a b r p q i) (pf_H nm gs cs zs n k m T U w g y a b r p q i) (Ex.normal) (pf_T nm gs cs zs n k m T U w g y a b r p q (i + 1)) (pf_H nm gs cs zs n k m T U w g y a b r p q (i + 1)) := by
  refine Runs.post (t1 := (catV [lwA nm w g y n a b r p q k, .ptr 2 0, V.raw (.bool false), .slo 3 m, .any 4, .ptr 4 0] (anyR 6 11 (catV [.slo 3 m, iV (m : Int), iV (i + 1), V.raw (.bool (decide (i < (m : Int)))), V.ptr 3 (i.toNat * 3), (rowV zs (i.toNat * 3) 3), .ptr 4 0, .ptr 4 0, iV (at' zs (i.toNat * 3)), .ptr 4 2, iV (at' zs (i.toNat * 3 + 2)), .ptr 2 1, iV w, .ptr 4 2, iV (at' zs (i.toNat * 3 + 2)), iV (w - at' zs (i.toNat * 3 + 2)), V.raw (.bool (M.btw (at' zs (i.toNat * 3)) (at' zs (i.toNat * 3 + 2)) (w - at' zs (i.toNat * 3 + 2)))), V.raw (.bool !M.btw (at' zs (i.toNat * 3)) (at' zs (i.toNat * 3 + 2)) (w - at' zs (i.toNat * 3 + 2))), V.lit false, .ptr 4 0, .ptr 4 1, iV (at' zs (i.toNat * 3 + 1)), .ptr 4 2, iV (at' zs (i.toNat * 3 + 2)), .ptr 2 2, iV g, .ptr 4 2, iV (at' zs (i.toNat * 3 + 2)), iV (g - at' zs (i.toNat * 3 + 2)), V.raw (.bool (M.btw (at' zs (i.toNat * 3 + 1)) (at' zs (i.toNat * 3 + 2)) (g - at' zs (i.toNat * 3 + 2)))), V.raw (.bool !M.btw (at' zs (i.toNat * 3 + 1)) (at' zs (i.toNat * 3 + 2)) (g - at' zs (i.toNat * 3 + 2))), V.raw (.bool !M.btw (at' zs (i.toNat * 3 + 1)) (at' zs (i.toNat * 3 + 2)) (g - at' zs (i.toNat * 3 + 2))), iV (i + 1)] (anyR 50 20 []))))) (h1 := (zq169 gs T cs U nm w g y n a b r p q k zs i)) (body_of cfx_mixed cfx_call zz (rnd := none) (fi := 0) (k := 0) (n := 40) (n0 := 4) (ans := [zT, Ans.val 3 ((rowV zs (i.toNat * 3) 3)), Ans.ret (V.raw (.bool (M.btw (at' zs (i.toNat * 3)) (at' zs (i.toNat * 3 + 2)) (w - at' zs (i.toNat * 3 + 2))))), zF, Ans.ret (V.raw (.bool (M.btw (at' zs (i.toNat * 3 + 1)) (at' zs (i.toNat * 3 + 2)) (g - at' zs (i.toNat * 3 + 2))))), zF, zF]) (cons := [(decide (i < (m : Int)) = true), (0 ≤ i ∧ i < (m : Int)), (loadRow cfx 26 (ints zs) (i.toNat * 3) = some ((rowV zs (i.toNat * 3) 3))), (inR IntKind.i64 (w - at' zs (i.toNat * 3 + 2))), ((zq175 zs i w)), ((!M.btw (at' zs (i.toNat * 3)) (at' zs (i.toNat * 3 + 2)) (w - at' zs (i.toNat * 3 + 2))) = false), (inR IntKind.i64 (g - at' zs (i.toNat * 3 + 2))), ((zq172 zs i g)), (false = false), ((!M.btw (at' zs (i.toNat * 3 + 1)) (at' zs (i.toNat * 3 + 2)) (g - at' zs (i.toNat * 3 + 2))) = false), (inR IntKind.i64 (i + 1))]) zk
    ⟨zdo, zo, (load_agg 3 zk zk zb zo), inR_i64 zo zo, (lnBetween _ _ _), zdf, inR_i64 zo zo, (lnBetween _ _ _), rfl, zdf, inR_i64 zo zo, trivial⟩ zb zb noRnd (noRanges zk)) zt3
def pf_T4 (nm : ByteArray) (gs cs zs : List Int) (n k m : Nat) (T U : Nat) (w g y a b r p q : Int) (i : Int) : List V := (zq59 nm w g y n a b r p q k m i)
def pf_H4 (nm : ByteArray) (gs cs zs : List Int) (n k m : Nat) (T U : Nat) (w g y a b r p q : Int) (i : Int) : Heap := (zq219 gs T cs U nm w g y n a b r p q k zs)
theorem pf_4 (nm : ByteArray) (gs cs zs : List Int) (n k m : Nat) (T U : Nat) (w g y a b r p q : Int) (hpo : (zq198 nm w g y n a b r p q k gs T cs U m zs)) (hr : M.btw r 1 8192 = true) (hz : zs.length = m * 3) (hm : m ≤ 100) (hw : -4194304 ≤ w ∧ w ≤ 4194304) (hg : -4194304 ≤ g ∧ g ≤ 4194304) (i : Int) (hi1 : 0 ≤ i) (hq : i < m → (-10000000 ≤ at' zs (i.toNat * 3 + 2) ∧ at' zs (i.toNat * 3 + 2) ≤ 10000000)) (f0 : ¬i < (m : Int)) : Runs cfx 0 4 none (loopOf cfx.P 96 0) (pf_T nm gs cs zs n k m T U w g y a b r p q i) (pf_H nm gs cs zs n k m T U w g y a b r p q i) (Ex.exit 0) (pf_T4 nm gs cs zs n k m T U w g y a b r p q i) (pf_H4 nm gs cs zs n k m T U w g y a b r p q i) := by
  refine Runs.post (t1 := (catV [lwA nm w g y n a b r p q k, .ptr 2 0, V.raw (.bool false), .slo 3 m] (anyR 4 13 (catV [.slo 3 m, iV (m : Int), iV i, V.raw (.bool (decide (i < (m : Int))))] (anyR 21 49 []))))) (h1 := (zq219 gs T cs U nm w g y n a b r p q k zs)) (body_of cfx_mixed cfx_call zz (rnd := none) (fi := 0) (k := 0) (n := 40) (n0 := 4) (ans := [zF]) (cons := [(decide (i < (m : Int)) = false)]) zk
    ⟨zdo, trivial⟩ zb zb noRnd (noRanges zk)) zt3
abbrev zq60 (nm : ByteArray) (w : Int) (g : Int) (y : Int) (n : Nat) (a : Int) (b : Int) (r : Int) (p : Int) (q : Int) (k : Nat) (m : Nat) (i : Int) : List V := (catV [lwA nm w g y n a b r p q k, .ptr 2 0, V.raw (.bool false), .slo 3 m] (anyR 4 46 (catV [.slo 3 m, iV (m : Int), iV i] (anyR 53 17 []))))
def pg_T (nm : ByteArray) (gs cs zs : List Int) (n k m : Nat) (T U : Nat) (w g y a b r p q : Int) (i : Int) : List V := (zq60 nm w g y n a b r p q k m i)
def pg_H (nm : ByteArray) (gs cs zs : List Int) (n k m : Nat) (T U : Nat) (w g y a b r p q : Int) (i : Int) : Heap := (zq219 gs T cs U nm w g y n a b r p q k zs)
abbrev zq51 (nm : ByteArray) (w : Int) (g : Int) (y : Int) (n : Nat) (a : Int) (b : Int) (r : Int) (p : Int) (q : Int) (k : Nat) (m : Nat) (i : Int) (j : Int) : List V := (catV [lwA nm w g y n a b r p q k, .ptr 2 0, V.raw (.bool false), .slo 3 m, .any 4, .any 5, iV i, .ptr 4 0] (anyR 8 42 (catV [.slo 3 m, iV (m : Int), iV i] (anyR 53 6 (catV [.slo 3 i.toNat, iV (i.toNat : Int), iV j] (anyR 62 8 []))))))
def ph_T (nm : ByteArray) (gs cs zs : List Int) (n k m : Nat) (T U : Nat) (w g y a b r p q : Int) (i : Int) (j : Int) : List V := (zq51 nm w g y n a b r p q k m i j)
def ph_H (nm : ByteArray) (gs cs zs : List Int) (n k m : Nat) (T U : Nat) (w g y a b r p q : Int) (i : Int) (j : Int) : Heap := (zq169 gs T cs U nm w g y n a b r p q k zs i)
def ph_T1 (nm : ByteArray) (gs cs zs : List Int) (n k m : Nat) (T U : Nat) (w g y a b r p q : Int) (i : Int) (j : Int) : List V := (zq51 nm w g y n a b r p q k m i j)
def ph_H1 (nm : ByteArray) (gs cs zs : List Int) (n k m : Nat) (T U : Nat) (w g y a b r p q : Int) (i : Int) (j : Int) : Heap := (zq169 gs T cs U nm w g y n a b r p q k zs i)
abbrev zq92 (zs : List Int) (i : Int) (j : Int) : Prop := Ret cfx 107 [V.raw (.agg { toList := [.int .i64 (at' zs (i.toNat * 3)), .int .i64 (at' zs (i.toNat * 3 + 1)), .int .i64 (at' zs (i.toNat * 3 + 2))] }), V.raw (.agg { toList := [.int .i64 (at' zs (j.toNat * 3)), .int .i64 (at' zs (j.toNat * 3 + 1)), .int .i64 (at' zs (j.toNat * 3 + 2))] })] (V.raw (.bool (M.overB (at' zs (i.toNat * 3)) (at' zs (i.toNat * 3 + 1)) (at' zs (i.toNat * 3 + 2)) (at' zs (j.toNat * 3)) (at' zs (j.toNat * 3 + 1)) (at' zs (j.toNat * 3 + 2)))))
abbrev zq226 (zs : List Int) (i : Int) : List V := [iV (at' zs (i.toNat * 3)), iV (at' zs (i.toNat * 3 + 1)), iV (at' zs (i.toNat * 3 + 2))]
theorem ph_1 (nm : ByteArray) (gs cs zs : List Int) (n k m : Nat) (T U : Nat) (w g y a b r p q : Int) (hpo : (zq198 nm w g y n a b r p q k gs T cs U m zs)) (hr : M.btw r 1 8192 = true) (hz : zs.length = m * 3) (hm : m ≤ 100) (hw : -4194304 ≤ w ∧ w ≤ 4194304) (hg : -4194304 ≤ g ∧ g ≤ 4194304) (i : Int) (hi1 : 0 ≤ i) (hi2 : i < m) (hd : ∀ j : Nat, j < m → chkDisc (at' zs (j * 3)) (at' zs (j * 3 + 1)) (at' zs (j * 3 + 2)) = 0) (j : Int) (hj1 : 0 ≤ j) (f0 : j < (i.toNat : Int)) (f1 : M.overB (at' zs (i.toNat * 3)) (at' zs (i.toNat * 3 + 1)) (at' zs (i.toNat * 3 + 2)) (at' zs (j.toNat * 3)) (at' zs (j.toNat * 3 + 1)) (at' zs (j.toNat * 3 + 2)) = true) : Runs cfx 0 5 none (loopOf cfx.P 96 2) (ph_T nm gs cs zs n k m T U w g y a b r p q i j) (ph_H nm gs cs zs n k m T U w g y a b r p q i j) (Ex.ret) (ph_T1 nm gs cs zs n k m T U w g y a b r p q i j) (ph_H1 nm gs cs zs n k m T U w g y a b r p q i j) := by
  refine Runs.post (t1 := (catV [lwA nm w g y n a b r p q k, .ptr 2 0, V.raw (.bool false), .slo 3 m, .any 4, .any 5, iV i, .ptr 4 0, .any 8, .ptr 5 0] (anyR 10 40 (catV [.slo 3 m, iV (m : Int), iV i] (anyR 53 6 [.slo 3 i.toNat, iV (i.toNat : Int), iV j, V.raw (.bool (decide (j < (i.toNat : Int)))), V.ptr 3 (j.toNat * 3), (rowV zs (j.toNat * 3) 3), (rowV zs (i.toNat * 3) 3), (rowV zs (j.toNat * 3) 3), V.raw (.bool (M.overB (at' zs (i.toNat * 3)) (at' zs (i.toNat * 3 + 1)) (at' zs (i.toNat * 3 + 2)) (at' zs (j.toNat * 3)) (at' zs (j.toNat * 3 + 1)) (at' zs (j.toNat * 3 + 2)))), .any 68, .any 69]))))) (h1 := [bkG gs T, bkI cs U, bkW nm w g y n a b r p q k, some (.cells (ints zs) 26 (.row 3)), some (.cells (zq226 zs i) 26 .rw), some (.cells [iV (at' zs (j.toNat * 3)), iV (at' zs (j.toNat * 3 + 1)), iV (at' zs (j.toNat * 3 + 2))] 26 .rw)]) (body_of cfx_mixed cfx_call zz (rnd := none) (fi := 0) (k := 0) (n := 40) (n0 := 5) (ans := [zT, Ans.val 3 ((rowV zs (j.toNat * 3) 3)), Ans.ret (V.raw (.bool (M.overB (at' zs (i.toNat * 3)) (at' zs (i.toNat * 3 + 1)) (at' zs (i.toNat * 3 + 2)) (at' zs (j.toNat * 3)) (at' zs (j.toNat * 3 + 1)) (at' zs (j.toNat * 3 + 2))))), zT]) (cons := [(decide (j < (i.toNat : Int)) = true), (0 ≤ j ∧ j < (i.toNat : Int)), (loadRow cfx 26 (ints zs) (j.toNat * 3) = some ((rowV zs (j.toNat * 3) 3))), ((zq92 zs i j)), (M.overB (at' zs (i.toNat * 3)) (at' zs (i.toNat * 3 + 1)) (at' zs (i.toNat * 3 + 2)) (at' zs (j.toNat * 3)) (at' zs (j.toNat * 3 + 1)) (at' zs (j.toNat * 3 + 2)) = true)]) zk
    ⟨zdo, zo, (load_agg 3 zk zk zb zo), (lnOverlap _ _ _ _ _ _ (hd _ zo) (hd _ zo)), zdf, trivial⟩ zb zb noRnd (noRanges zk)) zt10
theorem ph_2 (nm : ByteArray) (gs cs zs : List Int) (n k m : Nat) (T U : Nat) (w g y a b r p q : Int) (hpo : (zq198 nm w g y n a b r p q k gs T cs U m zs)) (hr : M.btw r 1 8192 = true) (hz : zs.length = m * 3) (hm : m ≤ 100) (hw : -4194304 ≤ w ∧ w ≤ 4194304) (hg : -4194304 ≤ g ∧ g ≤ 4194304) (i : Int) (hi1 : 0 ≤ i) (hi2 : i < m) (hd : ∀ j : Nat, j < m → chkDisc (at' zs (j * 3)) (at' zs (j * 3 + 1)) (at' zs (j * 3 + 2)) = 0) (j : Int) (hj1 : 0 ≤ j) (f0 : j < (i.toNat : Int)) (f1 : M.overB (at' zs (i.toNat * 3)) (at' zs (i.toNat * 3 + 1)) (at' zs (i.toNat * 3 + 2)) (at' zs (j.toNat * 3)) (at' zs (j.toNat * 3 + 1)) (at' zs (j.toNat * 3 + 2)) = false) : Runs cfx 0 5 none (loopOf cfx.P 96 2) (ph_T nm gs cs zs n k m T U w g y a b r p q i j) (ph_H nm gs cs zs n k m T U w g y a b r p q i j) (Ex.normal) (ph_T nm gs cs zs n k m T U w g y a b r p q i (j + 1)) (ph_H nm gs cs zs n k m T U w g y a b r p q i (j + 1)) := by
  refine Runs.post (t1 := (catV [lwA nm w g y n a b r p q k, .ptr 2 0, V.raw (.bool false), .slo 3 m, .any 4, .any 5, iV i, .ptr 4 0, .any 8, .ptr 5 0] (anyR 10 40 (catV [.slo 3 m, iV (m : Int), iV i] (anyR 53 6 [.slo 3 i.toNat, iV (i.toNat : Int), iV (j + 1), V.raw (.bool (decide (j < (i.toNat : Int)))), V.ptr 3 (j.toNat * 3), (rowV zs (j.toNat * 3) 3), (rowV zs (i.toNat * 3) 3), (rowV zs (j.toNat * 3) 3), V.raw (.bool (M.overB (at' zs (i.toNat * 3)) (at' zs (i.toNat * 3 + 1)) (at' zs (i.toNat * 3 + 2)) (at' zs (j.toNat * 3)) (at' zs (j.toNat * 3 + 1)) (at' zs (j.toNat * 3 + 2)))), iV (j + 1), .any 69]))))) (h1 := [bkG gs T, bkI cs U, bkW nm w g y n a b r p q k, some (.cells (ints zs) 26 (.row 3)), some (.cells (zq226 zs i) 26 .rw), some (.cells [iV (at' zs (j.toNat * 3)), iV (at' zs (j.toNat * 3 + 1)), iV (at' zs (j.toNat * 3 + 2))] 26 .rw)]) (body_of cfx_mixed cfx_call zz (rnd := none) (fi := 0) (k := 0) (n := 40) (n0 := 5) (ans := [zT, Ans.val 3 ((rowV zs (j.toNat * 3) 3)), Ans.ret (V.raw (.bool (M.overB (at' zs (i.toNat * 3)) (at' zs (i.toNat * 3 + 1)) (at' zs (i.toNat * 3 + 2)) (at' zs (j.toNat * 3)) (at' zs (j.toNat * 3 + 1)) (at' zs (j.toNat * 3 + 2))))), zF]) (cons := [(decide (j < (i.toNat : Int)) = true), (0 ≤ j ∧ j < (i.toNat : Int)), (loadRow cfx 26 (ints zs) (j.toNat * 3) = some ((rowV zs (j.toNat * 3) 3))), ((zq92 zs i j)), (M.overB (at' zs (i.toNat * 3)) (at' zs (i.toNat * 3 + 1)) (at' zs (i.toNat * 3 + 2)) (at' zs (j.toNat * 3)) (at' zs (j.toNat * 3 + 1)) (at' zs (j.toNat * 3 + 2)) = false), (inR IntKind.i64 (j + 1))]) zk
    ⟨zdo, zo, (load_agg 3 zk zk zb zo), (lnOverlap _ _ _ _ _ _ (hd _ zo) (hd _ zo)), zdf, inR_i64 zo zo, trivial⟩ zb zb noRnd (noRanges zk)) zt10
def ph_T3 (nm : ByteArray) (gs cs zs : List Int) (n k m : Nat) (T U : Nat) (w g y a b r p q : Int) (i : Int) (j : Int) : List V := (zq51 nm w g y n a b r p q k m i j)
def ph_H3 (nm : ByteArray) (gs cs zs : List Int) (n k m : Nat) (T U : Nat) (w g y a b r p q : Int) (i : Int) (j : Int) : Heap := (zq169 gs T cs U nm w g y n a b r p q k zs i)
theorem ph_3 (nm : ByteArray) (gs cs zs : List Int) (n k m : Nat) (T U : Nat) (w g y a b r p q : Int) (hpo : (zq198 nm w g y n a b r p q k gs T cs U m zs)) (hr : M.btw r 1 8192 = true) (hz : zs.length = m * 3) (hm : m ≤ 100) (hw : -4194304 ≤ w ∧ w ≤ 4194304) (hg : -4194304 ≤ g ∧ g ≤ 4194304) (i : Int) (hi1 : 0 ≤ i) (hi2 : i < m) (hd : ∀ j : Nat, j < m → chkDisc (at' zs (j * 3)) (at' zs (j * 3 + 1)) (at' zs (j * 3 + 2)) = 0) (j : Int) (hj1 : 0 ≤ j) (f0 : ¬j < (i.toNat : Int)) : Runs cfx 0 5 none (loopOf cfx.P 96 2) (ph_T nm gs cs zs n k m T U w g y a b r p q i j) (ph_H nm gs cs zs n k m T U w g y a b r p q i j) (Ex.exit 4) (ph_T3 nm gs cs zs n k m T U w g y a b r p q i j) (ph_H3 nm gs cs zs n k m T U w g y a b r p q i j) := by
  refine Runs.post (t1 := (catV [lwA nm w g y n a b r p q k, .ptr 2 0, V.raw (.bool false), .slo 3 m, .any 4, .any 5, iV i, .ptr 4 0] (anyR 8 42 (catV [.slo 3 m, iV (m : Int), iV i] (anyR 53 6 (catV [.slo 3 i.toNat, iV (i.toNat : Int), iV j, V.raw (.bool (decide (j < (i.toNat : Int))))] (anyR 63 7 []))))))) (h1 := (zq169 gs T cs U nm w g y n a b r p q k zs i)) (body_of cfx_mixed cfx_call zz (rnd := none) (fi := 0) (k := 0) (n := 40) (n0 := 5) (ans := [zF]) (cons := [(decide (j < (i.toNat : Int)) = false)]) zk
    ⟨zdo, trivial⟩ zb zb noRnd (noRanges zk)) zt10
end Go.Proofs.Ytmelbcmfahcffaa
end
section
namespace Go.Proofs.Ytmelbcmfahcffaa
open Go Go.RowKit Go.Proofs.Ytmelbcmfahcffaa.E2
def M.fitZ (w g : Int) (zs : List Int) (i : Nat) : Bool := M.btw (at' zs (i * 3)) (at' zs (i * 3 + 2)) (w - at' zs (i * 3 + 2)) && M.btw (at' zs (i * 3 + 1)) (at' zs (i * 3 + 2)) (g - at' zs (i * 3 + 2))
def M.apZ (zs : List Int) (i j : Nat) : Bool := !M.overB (at' zs (i * 3)) (at' zs (i * 3 + 1)) (at' zs (i * 3 + 2)) (at' zs (j * 3)) (at' zs (j * 3 + 1)) (at' zs (j * 3 + 2))
def M.fitsB (w g : Int) (zs : List Int) (m : Nat) : Bool := (List.range m).all (M.fitZ w g zs)
def M.apartB (zs : List Int) (m : Nat) : Bool := (List.range m).all fun i => (List.range i).all (M.apZ zs i)
theorem pf_loop (nm : ByteArray) (gs cs zs : List Int) (n k m : Nat) (T U : Nat) (w g y a b r p q : Int) (hpo : (zq198 nm w g y n a b r p q k gs T cs U m zs)) (hr : M.btw r 1 8192 = true) (hz : zs.length = m * 3) (hm : m ≤ 100) (hw : -4194304 ≤ w ∧ w ≤ 4194304) (hg : -4194304 ≤ g ∧ g ≤ 4194304) (hq : ∀ i, i < m → -10000000 ≤ at' zs (i * 3 + 2) ∧ at' zs (i * 3 + 2) ≤ 10000000) : (M.fitsB w g zs m = true ∧ Runs cfx 0 4 none (.loop (loopOf cfx.P 96 0)) (pf_T nm gs cs zs n k m T U w g y a b r p q 0) (pf_H nm gs cs zs n k m T U w g y a b r p q 0) (.exit 0) (pf_T4 nm gs cs zs n k m T U w g y a b r p q m) (pf_H4 nm gs cs zs n k m T U w g y a b r p q m)) ∨ (M.fitsB w g zs m = false ∧ ∃ i : Nat, Runs cfx 0 4 none (.loop (loopOf cfx.P 96 0)) (pf_T nm gs cs zs n k m T U w g y a b r p q 0) (pf_H nm gs cs zs n k m T U w g y a b r p q 0) (.ret) (pf_T1 nm gs cs zs n k m T U w g y a b r p q i) (pf_H1 nm gs cs zs n k m T U w g y a b r p q i)) := by
  rcases upto_find (c := cfx) (lim := 0) (n0 := 4) (x := loopOf cfx.P 96 0) noRnd (M.fitZ w g zs) (fun i : Nat => pf_T nm gs cs zs n k m T U w g y a b r p q i) (fun i : Nat => pf_H nm gs cs zs n k m T U w g y a b r p q i) m (fun i : Nat => pf_T1 nm gs cs zs n k m T U w g y a b r p q i) (fun i : Nat => pf_H1 nm gs cs zs n k m T U w g y a b r p q i) (e := .exit 0) (e1 := .ret) (by simp) (by simp)
    (fun i hi hgd => by
      simp only [M.fitZ, Bool.and_eq_true] at hgd
      exact pf_3 nm gs cs zs n k m T U w g y a b r p q hpo hr hz hm hw hg i zo (fun _ => hq i hi) zo hgd.1 hgd.2)
    (fun i hi hgd => by
      cases q1 : M.btw (at' zs (i * 3)) (at' zs (i * 3 + 2)) (w - at' zs (i * 3 + 2)) with
      | false => exact pf_1 nm gs cs zs n k m T U w g y a b r p q hpo hr hz hm hw hg i zo (fun _ => hq i hi) zo q1
      | true =>
      cases q2 : M.btw (at' zs (i * 3 + 1)) (at' zs (i * 3 + 2)) (g - at' zs (i * 3 + 2)) with
      | false => exact pf_2 nm gs cs zs n k m T U w g y a b r p q hpo hr hz hm hw hg i zo (fun _ => hq i hi) zo q1 q2
      | true => simp [M.fitZ, q1, q2] at hgd)
    (pf_4 nm gs cs zs n k m T U w g y a b r p q hpo hr hz hm hw hg m zo (fun h => by omega) zo) with ⟨h1, h2⟩ | ⟨h1, i, hi, h2, h3, h4⟩
  · exact .inl ⟨h1, h2⟩
  · exact .inr ⟨h1, i, h4⟩
theorem ph_loop (nm : ByteArray) (gs cs zs : List Int) (n k m : Nat) (T U : Nat) (w g y a b r p q : Int) (hpo : (zq198 nm w g y n a b r p q k gs T cs U m zs)) (hr : M.btw r 1 8192 = true) (hz : zs.length = m * 3) (hm : m ≤ 100) (hw : -4194304 ≤ w ∧ w ≤ 4194304) (hg : -4194304 ≤ g ∧ g ≤ 4194304) (hd : ∀ j : Nat, j < m → chkDisc (at' zs (j * 3)) (at' zs (j * 3 + 1)) (at' zs (j * 3 + 2)) = 0) (i : Nat) (hi : i < m) : ((List.range i).all (M.apZ zs i) = true ∧ Runs cfx 0 5 none (.loop (loopOf cfx.P 96 2)) (ph_T nm gs cs zs n k m T U w g y a b r p q i 0) (ph_H nm gs cs zs n k m T U w g y a b r p q i 0) (.exit 4) (ph_T3 nm gs cs zs n k m T U w g y a b r p q i i) (ph_H3 nm gs cs zs n k m T U w g y a b r p q i i)) ∨ ((List.range i).all (M.apZ zs i) = false ∧ ∃ j : Nat, Runs cfx 0 5 none (.loop (loopOf cfx.P 96 2)) (ph_T nm gs cs zs n k m T U w g y a b r p q i 0) (ph_H nm gs cs zs n k m T U w g y a b r p q i 0) (.ret) (ph_T1 nm gs cs zs n k m T U w g y a b r p q i j) (ph_H1 nm gs cs zs n k m T U w g y a b r p q i j)) := by
  rcases upto_find (c := cfx) (lim := 0) (n0 := 5) (x := loopOf cfx.P 96 2) noRnd (M.apZ zs i) (fun j : Nat => ph_T nm gs cs zs n k m T U w g y a b r p q i j) (fun j : Nat => ph_H nm gs cs zs n k m T U w g y a b r p q i j) i (fun j : Nat => ph_T1 nm gs cs zs n k m T U w g y a b r p q i j) (fun j : Nat => ph_H1 nm gs cs zs n k m T U w g y a b r p q i j) (e := .exit 4) (e1 := .ret) (by simp) (by simp)
    (fun j hj hgd => by
      simp only [M.apZ, Bool.not_eq_true'] at hgd
      exact ph_2 nm gs cs zs n k m T U w g y a b r p q hpo hr hz hm hw hg i (by omega) (by omega) hd j (by omega) (by simp only [Int.toNat_natCast]; omega) hgd)
    (fun j hj hgd => by
      simp only [M.apZ, Bool.not_eq_false'] at hgd
      exact ph_1 nm gs cs zs n k m T U w g y a b r p q hpo hr hz hm hw hg i (by omega) (by omega) hd j (by omega) (by simp only [Int.toNat_natCast]; omega) hgd)
    (ph_3 nm gs cs zs n k m T U w g y a b r p q hpo hr hz hm hw hg i (by omega) (by omega) hd i (by omega) (by simp only [Int.toNat_natCast]; omega)) with ⟨h1, h2⟩ | ⟨h1, j, hj, h2, h3, h4⟩
  · exact .inl ⟨h1, h2⟩
  · exact .inr ⟨h1, j, h4⟩
abbrev zq42 (nm : ByteArray) (w : Int) (g : Int) (y : Int) (n : Nat) (a : Int) (b : Int) (r : Int) (p : Int) (q : Int) (k : Nat) (m : Nat) (i : Int) (zs : List Int) : List V := (catV [lwA nm w g y n a b r p q k, .ptr 2 0, V.raw (.bool false), .slo 3 m, .any 4, .any 5, iV i, .ptr 4 0] (anyR 8 42 (catV [.slo 3 m, iV (m : Int), iV i, V.raw (.bool (decide (i < (m : Int)))), iV i, V.ptr 3 (i.toNat * 3), (rowV zs (i.toNat * 3) 3), .slo 3 m, iV i, .slo 3 i.toNat, iV (i.toNat : Int), iV 0] (anyR 62 8 []))))
abbrev zq52 (nm : ByteArray) (w : Int) (g : Int) (y : Int) (n : Nat) (a : Int) (b : Int) (r : Int) (p : Int) (q : Int) (k : Nat) (m : Nat) (i : Int) : List V := (catV [lwA nm w g y n a b r p q k, .ptr 2 0, V.raw (.bool false), .slo 3 m, .any 4, .any 5, iV i, .ptr 4 0] (anyR 8 42 (catV [.slo 3 m, iV (m : Int), iV i] (anyR 53 6 (catV [.slo 3 i.toNat, iV (i.toNat : Int), iV i] (anyR 62 8 []))))))
theorem pga_1 (nm : ByteArray) (gs cs zs : List Int) (n k m : Nat) (T U : Nat) (w g y a b r p q : Int) (hpo : (zq198 nm w g y n a b r p q k gs T cs U m zs)) (hr : M.btw r 1 8192 = true) (hz : zs.length = m * 3) (hm : m ≤ 100) (hw : -4194304 ≤ w ∧ w ≤ 4194304) (hg : -4194304 ≤ g ∧ g ≤ 4194304) (i : Int) (hi1 : 0 ≤ i) (hi2 : i < (m : Int)) (hR : Runs cfx 0 5 none (.loop (loopOf cfx.P 96 2)) (ph_T nm gs cs zs n k m T U w g y a b r p q i 0) (ph_H nm gs cs zs n k m T U w g y a b r p q i 0) (.exit 4) (ph_T3 nm gs cs zs n k m T U w g y a b r p q i i) (ph_H3 nm gs cs zs n k m T U w g y a b r p q i i))  : Runs cfx 0 4 none (loopOf cfx.P 96 1) (pg_T nm gs cs zs n k m T U w g y a b r p q i) (pg_H nm gs cs zs n k m T U w g y a b r p q i) (Ex.normal) (pg_T nm gs cs zs n k m T U w g y a b r p q (i + 1)) (pg_H nm gs cs zs n k m T U w g y a b r p q (i + 1)) := by
  refine Runs.post (t1 := (catV [lwA nm w g y n a b r p q k, .ptr 2 0, V.raw (.bool false), .slo 3 m, .any 4, .any 5, iV i, .ptr 4 0] (anyR 8 42 (catV [.slo 3 m, iV (m : Int), iV (i + 1)] (anyR 53 6 (catV [.slo 3 i.toNat, iV (i.toNat : Int), iV i] (anyR 62 7 [iV (i + 1)]))))))) (h1 := (zq169 gs T cs U nm w g y n a b r p q k zs i)) (body_of cfx_mixed cfx_call zz (rnd := none) (fi := 0) (k := 0) (n := 40) (n0 := 4) (ans := [zT, Ans.val 3 ((rowV zs (i.toNat * 3) 3)), Ans.loop (Ex.exit 4) (zq52 nm w g y n a b r p q k m i) (zq169 gs T cs U nm w g y n a b r p q k zs i)]) (cons := [(decide (i < (m : Int)) = true), (0 ≤ i ∧ i < (m : Int)), (loadRow cfx 26 (ints zs) (i.toNat * 3) = some ((rowV zs (i.toNat * 3) 3))), (0 ≤ i ∧ i ≤ (m : Int) ∧ 0 < 3 ∧ m * 3 ≤ (ints zs).length), (Runs cfx 0 5 none (.loop (loopOf cfx.P 96 2)) (zq42 nm w g y n a b r p q k m i zs) (zq169 gs T cs U nm w g y n a b r p q k zs i) (Ex.exit 4) (zq52 nm w g y n a b r p q k m i) (zq169 gs T cs U nm w g y n a b r p q k zs i)), (inR IntKind.i64 (i + 1))]) zk
    ⟨zdo, (by omega), (load_agg 3 (by kernel_rfl) (by kernel_rfl) (Nat.le_of_ble_eq_true rfl) (by omega)), (by first | omega | (simp only [ints_len, putI_length, List.length_append, List.length_replicate, List.length_take, List.length_drop, List.length_cons, List.length_nil]; omega) | (simp only [ints_len, putI_length, List.length_append, List.length_replicate, List.length_take, List.length_drop, List.length_cons, List.length_nil]; done)), (by
      refine Runs.pre (fun b e => by cases e) (fun RT RH => ?_) (hR)
      exact reshape2 (lim := 0) 5 (t := (zq42 nm w g y n a b r p q k m i zs)) (h := (zq169 gs T cs U nm w g y n a b r p q k zs i)) cfx_G rfl [] zk zk zdr RT RH), inR_i64 zo zo, trivial⟩ zb zb noRnd (noRanges zk)) zt3
def pgb_T1 (nm : ByteArray) (gs cs zs : List Int) (n k m : Nat) (T U : Nat) (w g y a b r p q : Int) (i : Int) (j : Nat) : List V := (zq60 nm w g y n a b r p q k m i)
def pgb_H1 (nm : ByteArray) (gs cs zs : List Int) (n k m : Nat) (T U : Nat) (w g y a b r p q : Int) (i : Int) (j : Nat) : Heap := (zq219 gs T cs U nm w g y n a b r p q k zs)
abbrev zq50 (nm : ByteArray) (w : Int) (g : Int) (y : Int) (n : Nat) (a : Int) (b : Int) (r : Int) (p : Int) (q : Int) (k : Nat) (m : Nat) (i : Int) (j : Nat) : List V := (catV [lwA nm w g y n a b r p q k, .ptr 2 0, V.raw (.bool false), .slo 3 m, .any 4, .any 5, iV i, .ptr 4 0] (anyR 8 42 (catV [.slo 3 m, iV (m : Int), iV i] (anyR 53 6 (catV [.slo 3 i.toNat, iV (i.toNat : Int), iV (j : Int)] (anyR 62 8 []))))))
theorem pgb_1 (nm : ByteArray) (gs cs zs : List Int) (n k m : Nat) (T U : Nat) (w g y a b r p q : Int) (hpo : (zq198 nm w g y n a b r p q k gs T cs U m zs)) (hr : M.btw r 1 8192 = true) (hz : zs.length = m * 3) (hm : m ≤ 100) (hw : -4194304 ≤ w ∧ w ≤ 4194304) (hg : -4194304 ≤ g ∧ g ≤ 4194304) (i : Int) (hi1 : 0 ≤ i) (hi2 : i < (m : Int)) (j : Nat) (hR : Runs cfx 0 5 none (.loop (loopOf cfx.P 96 2)) (ph_T nm gs cs zs n k m T U w g y a b r p q i 0) (ph_H nm gs cs zs n k m T U w g y a b r p q i 0) (.ret) (ph_T1 nm gs cs zs n k m T U w g y a b r p q i j) (ph_H1 nm gs cs zs n k m T U w g y a b r p q i j))  : Runs cfx 0 4 none (loopOf cfx.P 96 1) (pg_T nm gs cs zs n k m T U w g y a b r p q i) (pg_H nm gs cs zs n k m T U w g y a b r p q i) (Ex.ret) (pgb_T1 nm gs cs zs n k m T U w g y a b r p q i j) (pgb_H1 nm gs cs zs n k m T U w g y a b r p q i j) := by
  refine Runs.post (t1 := (zq50 nm w g y n a b r p q k m i j)) (h1 := (zq169 gs T cs U nm w g y n a b r p q k zs i)) (body_of cfx_mixed cfx_call zz (rnd := none) (fi := 0) (k := 0) (n := 40) (n0 := 4) (ans := [zT, Ans.val 3 ((rowV zs (i.toNat * 3) 3)), Ans.loop Ex.ret (zq50 nm w g y n a b r p q k m i j) (zq169 gs T cs U nm w g y n a b r p q k zs i)]) (cons := [(decide (i < (m : Int)) = true), (0 ≤ i ∧ i < (m : Int)), (loadRow cfx 26 (ints zs) (i.toNat * 3) = some ((rowV zs (i.toNat * 3) 3))), (0 ≤ i ∧ i ≤ (m : Int) ∧ 0 < 3 ∧ m * 3 ≤ (ints zs).length), (Runs cfx 0 5 none (.loop (loopOf cfx.P 96 2)) (zq42 nm w g y n a b r p q k m i zs) (zq169 gs T cs U nm w g y n a b r p q k zs i) (Ex.ret) (zq50 nm w g y n a b r p q k m i j) (zq169 gs T cs U nm w g y n a b r p q k zs i))]) zk
    ⟨zdo, (by omega), (load_agg 3 (by kernel_rfl) (by kernel_rfl) (Nat.le_of_ble_eq_true rfl) (by omega)), (by first | omega | (simp only [ints_len, putI_length, List.length_append, List.length_replicate, List.length_take, List.length_drop, List.length_cons, List.length_nil]; omega) | (simp only [ints_len, putI_length, List.length_append, List.length_replicate, List.length_take, List.length_drop, List.length_cons, List.length_nil]; done)), (by
      refine Runs.pre (fun b e => by cases e) (fun RT RH => ?_) (hR)
      exact reshape2 (lim := 0) 5 (t := (zq42 nm w g y n a b r p q k m i zs)) (h := (zq169 gs T cs U nm w g y n a b r p q k zs i)) cfx_G rfl [] zk zk zdr RT RH), trivial⟩ zb zb noRnd (noRanges zk)) zt3
def pgc_T1 (nm : ByteArray) (gs cs zs : List Int) (n k m : Nat) (T U : Nat) (w g y a b r p q : Int) (i : Int) : List V := (zq60 nm w g y n a b r p q k m i)
def pgc_H1 (nm : ByteArray) (gs cs zs : List Int) (n k m : Nat) (T U : Nat) (w g y a b r p q : Int) (i : Int) : Heap := (zq219 gs T cs U nm w g y n a b r p q k zs)
theorem pgc_1 (nm : ByteArray) (gs cs zs : List Int) (n k m : Nat) (T U : Nat) (w g y a b r p q : Int) (hpo : (zq198 nm w g y n a b r p q k gs T cs U m zs)) (hr : M.btw r 1 8192 = true) (hz : zs.length = m * 3) (hm : m ≤ 100) (hw : -4194304 ≤ w ∧ w ≤ 4194304) (hg : -4194304 ≤ g ∧ g ≤ 4194304) (i : Int) (hi1 : 0 ≤ i) (hi2 : ¬ i < (m : Int))  : Runs cfx 0 4 none (loopOf cfx.P 96 1) (pg_T nm gs cs zs n k m T U w g y a b r p q i) (pg_H nm gs cs zs n k m T U w g y a b r p q i) (Ex.exit 2) (pgc_T1 nm gs cs zs n k m T U w g y a b r p q i) (pgc_H1 nm gs cs zs n k m T U w g y a b r p q i) := by
  refine Runs.post (t1 := (catV [lwA nm w g y n a b r p q k, .ptr 2 0, V.raw (.bool false), .slo 3 m] (anyR 4 46 (catV [.slo 3 m, iV (m : Int), iV i, V.raw (.bool (decide (i < (m : Int))))] (anyR 54 16 []))))) (h1 := (zq219 gs T cs U nm w g y n a b r p q k zs)) (body_of cfx_mixed cfx_call zz (rnd := none) (fi := 0) (k := 0) (n := 40) (n0 := 4) (ans := [zF]) (cons := [(decide (i < (m : Int)) = false)]) zk
    ⟨zdo, trivial⟩ zb zb noRnd (noRanges zk)) zt3
end Go.Proofs.Ytmelbcmfahcffaa
end
section
namespace Go.Proofs.Ytmelbcmfahcffaa
open Go Go.RowKit Go.Proofs.Ytmelbcmfahcffaa.E2
theorem M.overB_iff {x y r u v s : Int} : M.overB x y r u v s = true ↔ M.sq x y u v < (r + s) * (r + s) := by
  unfold M.overB M.cmp
  rw [decide_eq_true_iff]
  by_cases h1 : M.sq x y u v < (r + s) * (r + s)
  · simp [h1]
  · rw [if_neg h1]
    by_cases h2 : (r + s) * (r + s) < M.sq x y u v
    · simp [h1, h2]
    · simp [h1, h2]
theorem rad_fact {zs : List Int} {m : Nat} (hrad : ∀ j : Nat, j < m → 1 ≤ at' zs (j * 3 + 2) ∧ at' zs (j * 3 + 2) ≤ 8192) {i j : Nat} (hi : i < m) (hj : j < m) : ((-20000000 ≤ at' zs (i * 3 + 2) + at' zs (j * 3 + 2) ∧ at' zs (i * 3 + 2) + at' zs (j * 3 + 2) ≤ 20000000) ∧ (0 ≤ (at' zs (i * 3 + 2) + at' zs (j * 3 + 2)) * (at' zs (i * 3 + 2) + at' zs (j * 3 + 2)) ∧ (at' zs (i * 3 + 2) + at' zs (j * 3 + 2)) * (at' zs (i * 3 + 2) + at' zs (j * 3 + 2)) ≤ 400000000000000)) := by
  have h1 := hrad i hi
  have h2 := hrad j hj
  have h3 := M.mul_bd (at' zs (i * 3 + 2) + at' zs (j * 3 + 2)) (at' zs (i * 3 + 2) + at' zs (j * 3 + 2)) 16384 16384 zo zo zo zo
  have h4 : 0 ≤ (at' zs (i * 3 + 2) + at' zs (j * 3 + 2)) * (at' zs (i * 3 + 2) + at' zs (j * 3 + 2)) := Int.mul_nonneg zo zo
  omega
theorem rph_loop (nm : ByteArray) (gs cs : List Int) (n k : Nat) (T U : Nat) (w g y a b r p q : Int) (zs : List Int) (m : Nat) (hn1 : ¬ (n : Int) < 1) (hn2 : ¬ 12 < n) (hk : ¬ 256 < k) (hz : n * 5 ≤ gs.length) (hnm : Ret cfx 87 [.raw (.string nm)] (.raw (.bool true))) (hs1 : M.btw w 65536 4194304 = true) (hs2 : M.btw g 65536 4194304 = true) (hs3 : M.btw y 0 ((if g < w then g else w).tdiv 4) = true) (hzc : k * 3 ≤ cs.length) (hr : M.btw r 1 8192 = true) (ha : M.btw a 0 4194304 = true) (hb : M.btw b 0 4194304 = true) (hp1 : ¬ p < 1) (hp2 : ¬ 16 < p) (hq1 : ¬ q < 1) (hq2 : ¬ 16 < q) (hpq : 0 ≤ p * q ∧ p * q ≤ 256) (hkk : (k : Int) = p * q) (hR0 : (zq160 nm gs cs n k T U w g y a b r p q)) (hR1 : (zq161 nm gs cs n k T U w g y a b r p q)) (hpo : (zq200 nm w g y n a b r p q k gs T cs U m zs)) (hzl : zs.length = m * 3) (hm : m ≤ 100) (hwg : (-4194304 ≤ w ∧ w ≤ 4194304) ∧ (-4194304 ≤ g ∧ g ≤ 4194304)) (hd : ∀ j : Nat, j < m → M.okP (at' zs (j * 3)) (at' zs (j * 3 + 1))) (hrad : ∀ j : Nat, j < m → 1 ≤ at' zs (j * 3 + 2) ∧ at' zs (j * 3 + 2) ≤ 8192) (i : Nat) (hi : i < m) (hf1 : M.btw (at' zs (i * 3)) (at' zs (i * 3 + 2)) (w - at' zs (i * 3 + 2)) = true) (hf2 : M.btw (at' zs (i * 3 + 1)) (at' zs (i * 3 + 2)) (g - at' zs (i * 3 + 2)) = true) : ((List.range i).all (M.apZ zs i) = true ∧ Runs cfx 0 4 none (.loop (loopOf cfx.P 45 3)) (rph_T nm gs cs n k T U w g y a b r p q zs m i 0) (rph_H nm gs cs n k T U w g y a b r p q zs m i 0) (.exit 6) (rph_T3 nm gs cs n k T U w g y a b r p q zs m i i) (rph_H3 nm gs cs n k T U w g y a b r p q zs m i i)) ∨ ((List.range i).all (M.apZ zs i) = false ∧ ∃ j : Nat, Runs cfx 0 4 none (.loop (loopOf cfx.P 45 3)) (rph_T nm gs cs n k T U w g y a b r p q zs m i 0) (rph_H nm gs cs n k T U w g y a b r p q zs m i 0) (.ret) (rph_T1 nm gs cs n k T U w g y a b r p q zs m i j) (rph_H1 nm gs cs n k T U w g y a b r p q zs m i j)) := by
  rcases upto_find (c := cfx) (lim := 0) (n0 := 4) (x := loopOf cfx.P 45 3) noRnd (M.apZ zs i) (fun j : Nat => rph_T nm gs cs n k T U w g y a b r p q zs m i j) (fun j : Nat => rph_H nm gs cs n k T U w g y a b r p q zs m i j) i (fun j : Nat => rph_T1 nm gs cs n k T U w g y a b r p q zs m i j) (fun j : Nat => rph_H1 nm gs cs n k T U w g y a b r p q zs m i j) (e := .exit 6) (e1 := .ret) (by simp) (by simp)
    (fun j hj hgd => by
      simp only [M.apZ, Bool.not_eq_true'] at hgd
      exact rph_2 nm gs cs n k T U w g y a b r p q zs m hn1 hn2 hk hz hnm hs1 hs2 hs3 hzc hr ha hb hp1 hp2 hq1 hq2 hpq hkk hR0 hR1 hpo hzl hm hwg i (by omega) (by omega) hd hf1 hf2 j (by omega) (fun _ => rad_fact hrad hi (by omega)) (by omega) (fun h => by have e := M.overB_iff.2 h; simp only [Int.toNat_natCast] at e; rw [e] at hgd; cases hgd))
    (fun j hj hgd => by
      simp only [M.apZ, Bool.not_eq_false'] at hgd
      exact rph_1 nm gs cs n k T U w g y a b r p q zs m hn1 hn2 hk hz hnm hs1 hs2 hs3 hzc hr ha hb hp1 hp2 hq1 hq2 hpq hkk hR0 hR1 hpo hzl hm hwg i zo zo hd hf1 hf2 j zo (fun _ => rad_fact hrad hi zo) zo (M.overB_iff.1 hgd))
    (rph_3 nm gs cs n k T U w g y a b r p q zs m hn1 hn2 hk hz hnm hs1 hs2 hs3 hzc hr ha hb hp1 hp2 hq1 hq2 hpq hkk hR0 hR1 hpo hzl hm hwg i zo zo hd hf1 hf2 i zo (fun h => by omega) zo) with ⟨h1, h2⟩ | ⟨h1, j, hj, h2, h3, h4⟩
  · exact .inl ⟨h1, h2⟩
  · exact .inr ⟨h1, j, h4⟩
end Go.Proofs.Ytmelbcmfahcffaa
end
section
namespace Go.Proofs.Ytmelbcmfahcffaa
open Go Go.RowKit Go.Proofs.Ytmelbcmfahcffaa.E2
theorem inR_u64 {n : Int} (h1 : 0 ≤ n) (h2 : n ≤ 18446744073709551615) : inR .u64 n := by unfold inR; rw [IntKind.wrap_u64]; omega
namespace WideN
theorem maskN (a : Nat) (ha : a < 18446744073709551616) : bits .and .u64 (a : Int) 4294967295 = ((a % 4294967296 : Nat) : Int) := by
  have h := bits_and_u64_nat a 4294967295 ha zo
  have e : a &&& 4294967295 = a % 4294967296 := Nat.and_two_pow_sub_one_eq_mod a 32
  rw [e] at h
  exact h
theorem divN (a : Nat) : (a : Int) / 4294967296 = ((a / 4294967296 : Nat) : Int) := by omega
theorem mulN (a b : Nat) : (a : Int) * (b : Int) = ((a * b : Nat) : Int) := (Int.natCast_mul a b).symm
theorem mulK (a : Nat) : (a : Int) * 4294967296 = ((a * 4294967296 : Nat) : Int) := (Int.natCast_mul a 4294967296).symm
theorem addN (a b : Nat) : (a : Int) + (b : Int) = ((a + b : Nat) : Int) := (Int.natCast_add a b).symm
theorem wrapN (a : Nat) (ha : a < 18446744073709551616) : IntKind.u64.wrap (a : Int) = (a : Int) := by rw [IntKind.wrap_u64]; omega
theorem wrapM (a : Nat) : IntKind.u64.wrap (a : Int) = ((a % 18446744073709551616 : Nat) : Int) := by rw [IntKind.wrap_u64]; omega
theorem orK (a b i : Nat) (hi : i = 32) (hb : b < 4294967296) (ha : a % 4294967296 = 0) : a ||| b = a + b := by
  have h : 2 ^ i = 4294967296 := by rw [hi]
  have k := (Nat.two_pow_add_eq_or_of_lt (i := i) (b := b) (by rw [h]; exact hb) (a / 4294967296)).symm
  rw [h, Nat.mul_div_cancel' (Nat.dvd_of_mod_eq_zero ha)] at k
  exact k
theorem orN (a b : Nat) (ha : a < 18446744073709551616) (hb : b < 4294967296) (h : a % 4294967296 = 0) : bits .or .u64 (a : Int) (b : Int) = ((a + b : Nat) : Int) := by
  rw [bits_or_u64_nat a b ha (by omega), orK a b 32 rfl hb h]
theorem way (x y : Nat) (hx : x < 18446744073709551616) (hy : y < 18446744073709551616) :
    x % 4294967296 * (y % 4294967296) < 18446744073709551616 ∧ x % 4294967296 * (y / 4294967296) < 18446744073709551616 ∧ x / 4294967296 * (y % 4294967296) < 18446744073709551616 ∧ x / 4294967296 * (y / 4294967296) < 18446744073709551616 ∧
    (x % 4294967296 * (y % 4294967296)) / 4294967296 + (x % 4294967296 * (y / 4294967296)) % 4294967296 < 18446744073709551616 ∧
    (x % 4294967296 * (y % 4294967296)) / 4294967296 + (x % 4294967296 * (y / 4294967296)) % 4294967296 + (x / 4294967296 * (y % 4294967296)) % 4294967296 < 18446744073709551616 ∧
    x / 4294967296 * (y / 4294967296) + (x % 4294967296 * (y / 4294967296)) / 4294967296 < 18446744073709551616 ∧
    x / 4294967296 * (y / 4294967296) + (x % 4294967296 * (y / 4294967296)) / 4294967296 + (x / 4294967296 * (y % 4294967296)) / 4294967296 < 18446744073709551616 ∧
    x / 4294967296 * (y / 4294967296) + (x % 4294967296 * (y / 4294967296)) / 4294967296 + (x / 4294967296 * (y % 4294967296)) / 4294967296 + ((x % 4294967296 * (y % 4294967296)) / 4294967296 + (x % 4294967296 * (y / 4294967296)) % 4294967296 + (x / 4294967296 * (y % 4294967296)) % 4294967296) / 4294967296 < 18446744073709551616 ∧
    x / 4294967296 * (y / 4294967296) + (x % 4294967296 * (y / 4294967296)) / 4294967296 + (x / 4294967296 * (y % 4294967296)) / 4294967296 + ((x % 4294967296 * (y % 4294967296)) / 4294967296 + (x % 4294967296 * (y / 4294967296)) % 4294967296 + (x / 4294967296 * (y % 4294967296)) % 4294967296) / 4294967296 = x * y / 18446744073709551616 ∧
    ((x % 4294967296 * (y % 4294967296)) / 4294967296 + (x % 4294967296 * (y / 4294967296)) % 4294967296 + (x / 4294967296 * (y % 4294967296)) % 4294967296) * 4294967296 % 18446744073709551616 + (x % 4294967296 * (y % 4294967296)) % 4294967296 = x * y % 18446744073709551616 := by
  have a := Lib.half_mul_le (a := x % 4294967296) (b := y % 4294967296) zo zo
  have b := Lib.half_mul_le (a := x % 4294967296) (b := y / 4294967296) zo zo
  have c := Lib.half_mul_le (a := x / 4294967296) (b := y % 4294967296) zo zo
  have d := Lib.half_mul_le (a := x / 4294967296) (b := y / 4294967296) zo zo
  have e := Lib.split_mul (x / 4294967296) (x % 4294967296) (y / 4294967296) (y % 4294967296) 4294967296
  rw [show x / 4294967296 * 4294967296 + x % 4294967296 = x by omega, show y / 4294967296 * 4294967296 + y % 4294967296 = y by omega] at e
  generalize x % 4294967296 * (y % 4294967296) = ll at *
  generalize x % 4294967296 * (y / 4294967296) = lh at *
  generalize x / 4294967296 * (y % 4294967296) = hl at *
  generalize x / 4294967296 * (y / 4294967296) = hh at *
  generalize x * y = z at *
  omega
end WideN
set_option maxHeartbeats 1000000 in
theorem rwide_nat (x y : Nat) (hx : x < 18446744073709551616) (hy : y < 18446744073709551616) (w : World) :
    Calls Try.prog 115 #[.int .u64 x, .int .u64 y] w fun e w' => e = .returned (.tuple #[.int .u64 ((x * y / 18446744073709551616 : Nat) : Int), .int .u64 ((x * y % 18446744073709551616 : Nat) : Int)]) ∧ Below w.heap.size w w' := by
  obtain ⟨a1, a2, a3, a4, a5, a6, a7, a8, a9, e1, e2⟩ := WideN.way x y hx hy
  go_enter Try.func115, Try.ntmps115
  go_wp2
  simp only [WideN.maskN x hx, WideN.maskN y hy, WideN.divN, WideN.mulN, WideN.addN, WideN.wrapN _ a1, WideN.wrapN _ a2, WideN.wrapN _ a3, WideN.wrapN _ a4, WideN.maskN _ a1, WideN.maskN _ a2, WideN.maskN _ a3, WideN.wrapN _ a5, WideN.wrapN _ a6, WideN.wrapN _ a7, WideN.wrapN _ a8, WideN.wrapN _ a9, WideN.mulK, WideN.wrapM]
  rw [WideN.orN _ _ (Nat.mod_lt _ (by omega)) (Nat.mod_lt _ (by omega)) (by omega), e1, e2]
  go_ret2
  exact ⟨rfl, by go_grown⟩
theorem rnWide (a b : Int) (ha : 0 ≤ a ∧ a < 18446744073709551616) (hb : 0 ≤ b ∧ b < 18446744073709551616) : Ret cfx 115 [.raw (.int .u64 a), .raw (.int .u64 b)] (.raw (.tuple #[.int .u64 (M.hi (a * b)), .int .u64 (M.lo (a * b))])) :=
  fn_of_calls (args := [.int .u64 a, .int .u64 b]) fun w => by
    obtain ⟨x, rfl⟩ := Int.eq_ofNat_of_zero_le ha.1
    obtain ⟨y, rfl⟩ := Int.eq_ofNat_of_zero_le hb.1
    have h := rwide_nat x y zo zo w
    have e1 : ((x * y / 18446744073709551616 : Nat) : Int) = M.hi ((x : Int) * (y : Int)) := by unfold M.hi; rw [← Int.natCast_mul]; omega
    have e2 : ((x * y % 18446744073709551616 : Nat) : Int) = M.lo ((x : Int) * (y : Int)) := by unfold M.lo; rw [← Int.natCast_mul]; omega
    rw [e1, e2] at h
    exact h
end Go.Proofs.Ytmelbcmfahcffaa
end
section
namespace Go.Proofs.Ytmelbcmfahcffaa
open Go Go.RowKit Go.Proofs.Ytmelbcmfahcffaa.E2
def M.ptB (x y : Int) : Bool := M.btw x (-4194304) 4194304 && M.btw y (-4194304) 4194304
def M.ptE (x y : Int) : Int := if M.ptB x y = true then 0 else 2
def M.radE (r : Int) : Int := if M.btw r 1 16384 = true then 0 else 3
theorem M.ptB_iff {x y : Int} : M.ptB x y = true ↔ (-4194304 ≤ x ∧ x ≤ 4194304) ∧ (-4194304 ≤ y ∧ y ≤ 4194304) := by unfold M.ptB; rw [Bool.and_eq_true, M.btw_iff, M.btw_iff]
theorem M.pt_iff {x y : Int} : M.ptE x y = 0 ↔ (-4194304 ≤ x ∧ x ≤ 4194304) ∧ (-4194304 ≤ y ∧ y ≤ 4194304) := by
  unfold M.ptE
  by_cases k : M.ptB x y = true
  · rw [if_pos k]; exact ⟨fun _ => M.ptB_iff.1 k, fun _ => rfl⟩
  · rw [if_neg k]; exact ⟨fun q => by omega, fun q => absurd (M.ptB_iff.2 q) k⟩
theorem M.pt_or (x y : Int) : M.ptE x y = 0 ∨ M.ptE x y = 2 := by unfold M.ptE; split <;> simp
theorem M.pt_chk (x y : Int) : M.chk [(x, y)] = M.ptE x y := by
  have h : M.okAll [(x, y)] = M.ptB x y := by
    rw [Bool.eq_iff_iff, M.ptB_iff]
    simp [M.okAll, M.fits]
  unfold M.chk M.ptE
  rw [h]
theorem M.rad_iff {r : Int} : M.radE r = 0 ↔ 1 ≤ r ∧ r ≤ 16384 := by
  unfold M.radE
  by_cases k : M.btw r 1 16384 = true
  · rw [if_pos k]; exact ⟨fun _ => M.btw_iff.1 k, fun _ => rfl⟩
  · rw [if_neg k]; exact ⟨fun q => by omega, fun q => absurd (M.btw_iff.2 q) k⟩
def M.othZ (os : List Int) (i : Nat) : Bool := M.ptB (at' os (i * 3)) (at' os (i * 3 + 1)) && M.btw (at' os (i * 3 + 2)) 1 16384
def M.othB (os : List Int) (m : Nat) : Bool := (List.range m).all (M.othZ os)
def M.othE (os : List Int) (m : Nat) : Int := if 12 < m then 6 else if M.othB os m = true then 0 else 2
def M.pick (b : Bool) (x y : Int) : Int := if b = true then x else y
theorem M.pick_or (b : Bool) (x y : Int) : M.pick b x y = x ∨ M.pick b x y = y := by unfold M.pick; split <;> simp
def M.stnd (u s wire : Int) : Int := if -wire ≤ u - s then 3 else if wire < u + s then 2 else if -wire < u + s then 1 else 0
def M.mx (v : Int) : Int := if -v > v then -v else v
def M.standV (al fw : Bool) (hx hy gap wire x y s : Int) : Int :=
  if gap.tdiv 2 ≤ M.mx (M.pick (!al) (x - hx) (y - hy)) then 0 else M.stnd (M.pick fw (M.pick al (x - hx) (y - hy)) (-(M.pick al (x - hx) (y - hy)))) s wire
def M.standZ (gs : List Int) (h : Nat) (fw : Bool) (x y s : Int) : Int := M.standV (nz gs (h * 5 + 4)) fw (at' gs (h * 5)) (at' gs (h * 5 + 1)) (at' gs (h * 5 + 2)) (at' gs (h * 5 + 3)) x y s
def M.cutB (ax ay bx by' x y s : Int) : Bool := decide (M.liesV ax ay bx by' x y s < 0)
def M.cutZ (zs : List Int) (ax ay bx by' s : Int) (i : Nat) : Bool := M.cutB ax ay bx by' (at' zs (i * 3)) (at' zs (i * 3 + 1)) (at' zs (i * 3 + 2) + s)
def M.tchZ (zs : List Int) (x y s : Int) (i : Nat) : Bool := M.overB x y s (at' zs (i * 3)) (at' zs (i * 3 + 1)) (at' zs (i * 3 + 2))
def M.hits (f : Nat → Bool) (n : Nat) : List Int := List.map (fun k : Nat => (k : Int)) ((List.range n).filter f)
theorem M.hits_yes {f : Nat → Bool} {i : Nat} (h : f i = true) : M.hits f (i + 1) = M.hits f i ++ [(i : Int)] := by
  unfold M.hits
  rw [List.range_succ, List.filter_append, List.map_append]
  simp [h]
theorem M.hits_no {f : Nat → Bool} {i : Nat} (h : f i = false) : M.hits f (i + 1) = M.hits f i := by
  unfold M.hits
  rw [List.range_succ, List.filter_append]
  simp [h]
theorem M.hits_len (f : Nat → Bool) (n : Nat) : (M.hits f n).length ≤ n := by
  unfold M.hits
  rw [List.length_map]
  exact Nat.le_trans (List.length_filter_le _ _) (by simp)
theorem spec2 {a a' b b' : Int} (h : a = a') (k : b = b') : (.raw (.tuple #[.int .i64 a, .int .i64 b]) : V) = .raw (.tuple #[.int .i64 a', .int .i64 b']) := by rw [h, k]
theorem specP {a a' b b' : Int} (h : a = a') (k : b = b') : (.raw (.agg #[.int .i64 a, .int .i64 b]) : V) = .raw (.agg #[.int .i64 a', .int .i64 b']) := by rw [h, k]
def M.ySp (v lo hi : Int) : Int := min (max v lo) hi
def M.yHas (lx ly hx hy x y : Int) : Bool := (decide (x = lx) || decide (x = hx) || decide (y = ly) || decide (y = hy)) && (decide (M.ySp x lx hx = x) && decide (M.ySp y ly hy = y))
def M.yHalf (lx ly hx hy : Int) : Int := hx - lx + (hy - ly)
def M.yX (lx ly hx hy n : Int) : Int := if n < hx - lx then lx + n else if n < M.yHalf lx ly hx hy then hx else if n < M.yHalf lx ly hx hy + (hx - lx) then hx - (n - M.yHalf lx ly hx hy) else lx
def M.yY (lx ly hx hy n : Int) : Int := if n < hx - lx then ly else if n < M.yHalf lx ly hx hy then ly + n - (hx - lx) else if n < M.yHalf lx ly hx hy + (hx - lx) then hy else hy - (n - M.yHalf lx ly hx hy - (hx - lx))
def M.yNum (lx ly hx hy x y : Int) : Int := if y = ly ∧ x < hx then x - lx else if x = hx ∧ y < hy then hx - lx + y - ly else if y = hy ∧ lx < x then M.yHalf lx ly hx hy + hx - x else M.yHalf lx ly hx hy + (hx - lx) + hy - y
theorem turfCheck (x y : Int) : Ret cfx 98 [.raw (.agg #[.int .i64 x, .int .i64 y])] (.raw (.int .i64 (M.ptE x y))) :=
  fn_of_calls (args := [.agg #[.int .i64 x, .int .i64 y]]) fun w => by rw [← M.pt_chk]; exact Check_any x y w
end Go.Proofs.Ytmelbcmfahcffaa
end
section
namespace Go.Proofs.Ytmelbcmfahcffaa.E2
open Go Go.RowKit
mutual
theorem V.mv_underN {τ : Nat → Nat} {nl : Nat → Bool} {n m : Nat} (h : ∀ b, b < n → nl b = false → τ b < m) : ∀ x : V, x.under n = true → x.nilOk nl = true → (x.mv τ nl).under m = true
  | .raw v, _, _ => rfl
  | .any k, h, _ => by simp [V.under] at h
  | .ptr b o, hx, hn => by
    simp only [V.under, V.mv, V.nilOk, decide_eq_true_eq, Bool.not_eq_true'] at *
    exact h b hx hn
  | .slo b l, hx, hn => by
    simp only [V.under, decide_eq_true_eq] at hx
    unfold V.mv
    cases hq : nl b with
    | true => rfl
    | false => simp only [V.under, decide_eq_true_eq]; exact h b hx hq
  | .yld b, hx, hn => by
    simp only [V.under, V.mv, V.nilOk, decide_eq_true_eq, Bool.not_eq_true'] at *
    exact h b hx hn
  | .fn f x y, hx, hn => by
    simp only [V.under, V.mv, V.nilOk, Bool.and_eq_true] at *
    exact ⟨mvs_underN h x hx.1 hn.1, mvs_underN h y hx.2 hn.2⟩
  | .agg l, hx, hn => by simp only [V.under, V.mv, V.nilOk] at *; exact mvs_underN h l hx hn
  | .tup l, hx, hn => by simp only [V.under, V.mv, V.nilOk] at *; exact mvs_underN h l hx hn
  | .lit b, _, _ => rfl
theorem mvs_underN {τ : Nat → Nat} {nl : Nat → Bool} {n m : Nat} (h : ∀ b, b < n → nl b = false → τ b < m) : ∀ l : List V, unders n l = true → nilOks nl l = true → unders m (mvs τ nl l) = true
  | [], _, _ => rfl
  | x :: l, hx, hn => by
    simp only [unders, mvs, nilOks, Bool.and_eq_true] at *
    exact ⟨V.mv_underN h x hx.1 hn.1, mvs_underN h l hx.2 hn.2⟩
end
def nilLoc : Loc := ⟨0, [], [], 0, true⟩
def SeenAt (μ : Nat → Nat) (nl : Nat → Bool) (h : Heap) : Nat → Heap → Prop
  | _, [] => True
  | i, X :: H => (∃ cs T, X = some (.cells cs T .ro) ∧ cs.all isRawV = true ∧ ((nl i = false ∧ ∃ o, h[μ i]? = some (some (.cells cs T o))) ∨ (nl i = true ∧ cs = []))) ∧ SeenAt μ nl h (i + 1) H
theorem SeenAt.get {μ : Nat → Nat} {nl : Nat → Bool} {h : Heap} : ∀ {H : Heap} {i0 : Nat}, SeenAt μ nl h i0 H → ∀ (i : Nat) (B : Blk), H[i]? = some (some B) → ∃ cs T, B = .cells cs T .ro ∧ cs.all isRawV = true ∧ ((nl (i0 + i) = false ∧ ∃ o, h[μ (i0 + i)]? = some (some (.cells cs T o))) ∨ (nl (i0 + i) = true ∧ cs = []))
  | [], i0, _, i, B, hB => by simp at hB
  | X :: H, i0, hs, i, B, hB => by
    obtain ⟨⟨cs, T, rfl, h2, h3⟩, hr⟩ := hs
    match i with
    | 0 =>
      simp only [List.getElem?_cons_zero, Option.some.injEq] at hB
      subst hB
      exact ⟨cs, T, rfl, h2, h3⟩
    | i + 1 =>
      simp only [List.getElem?_cons_succ] at hB
      have := SeenAt.get hr i B hB
      rwa [show i0 + 1 + i = i0 + (i + 1) by omega] at this
theorem below_ro {c : Cfg} {lim0 lim : Nat} (hL : c.L = 0) (hG : c.G = []) {f : FuncId} {args : List V} {H N h : Heap} {v : V} (μ : Nat → Nat) (nl : Nat → Bool)
    (hm : Meets c lim0 f args H v (H ++ N)) (hs : SeenAt μ nl h 0 H) (hnl : ∀ i, H.length ≤ i → nl i = false) (hua : unders H.length args = true) (hna : nilOks nl args = true) (hnv : v.nilOk nl = true)
    (hnew : ∀ (k : Nat) (X : Blk), N[k]? = some (some X) → X.wr = true ∧ ∃ cs ty own, X = .cells cs ty own ∧ cs.all isRawV = true) (hlim : lim ≤ h.length) :
    Meets c lim f (mvs μ nl args) h (v.mv (fun k => if k < H.length then μ k else h.length + (k - H.length)) nl) (h ++ N) := by
  intro ρ w RH hu
  have hin : ∀ (i : Nat) (B : Blk), H[i]? = some (some B) → ∃ cs T, B = .cells cs T .ro ∧ cs.all isRawV = true ∧ ((nl i = false ∧ ∃ o, h[μ i]? = some (some (.cells cs T o))) ∨ (nl i = true ∧ cs = [])) := fun i B hB => by
    have := SeenAt.get hs i B hB
    rwa [Nat.zero_add] at this
  have hall : ∀ i, i < H.length → ∃ B, H[i]? = some (some B) := fun i hi => by
    have key : ∀ {H : Heap} {i0 : Nat}, SeenAt μ nl h i0 H → ∀ i, i < H.length → ∃ B, H[i]? = some (some B) := by
      intro H
      induction H with
      | nil => intro i0 _ i hi; simp at hi
      | cons X H ih =>
        intro i0 hs i hi
        obtain ⟨⟨cs, T, rfl, _, _⟩, hr⟩ := hs
        match i with
        | 0 => exact ⟨_, rfl⟩
        | i + 1 => simpa using ih hr i (by simpa using hi)
    exact key hs i hi
  generalize hρ0 : (⟨fun i => if nl i = true then nilLoc else ρ.blk (μ i), ρ.unk⟩ : Ren) = ρ0
  have b0n : ∀ i, nl i = true → ρ0.blk i = nilLoc := fun i hi => by rw [← hρ0]; simp [hi]
  have b0y : ∀ i, nl i = false → ρ0.blk i = ρ.blk (μ i) := fun i hi => by rw [← hρ0]; simp [hi]
  have Mv : Moved μ nl ρ ρ0 := fun i => ⟨fun e => by rw [b0n i e]; rfl, fun e => b0y i e⟩
  have nolw : ∀ i, ¬ lw ρ0 H i := fun i ⟨B, a1, a2, _⟩ => by
    obtain ⟨cs, T, rfl, _⟩ := hin i B a1
    cases a2
  have RH0 : RelH c ρ0 H w := by
    refine ⟨fun i B hB => ?_, fun i j hi hj he => absurd hi (nolw i), fun i B hB => ?_, fun p hp => (by rw [hG] at hp; cases hp), by omega, fun i hi => by omega⟩
    · obtain ⟨cs, T, rfl, hr, ⟨h1, o, h2⟩ | ⟨h1, rfl⟩⟩ := hin i B hB
      · rw [b0y i h1]
        have k := RH.cell _ _ h2
        refine ⟨k.nil, fun hn => ?_, fun sz hq => (by cases hq)⟩
        obtain ⟨fr, q1, _⟩ := k.row hn
        refine ⟨fr, ?_, fun hq => absurd rfl hq⟩
        rw [q1, concs_map, concs_map]
        congr 2
        congr 1
        congr 1
        exact List.map_congr_left fun x hx => by
          have := List.all_eq_true.1 hr x hx
          cases x <;> first | rfl | cases this
      · rw [b0n i h1]
        exact ⟨fun _ => rfl, fun hn => (by cases hn), fun sz hq => (by cases hq)⟩
    · obtain ⟨cs, T, rfl, hr, _⟩ := hin i B hB
      exact unders_raws _ _ hr
  have hargs : concs ρ (mvs μ nl args) = concs ρ0 args := (mvs_conc Mv (by rw [← hρ0]) args hna).symm
  rw [hargs]
  refine (hm _ w RH0 hua).mono fun e w' ⟨ρ1, k1, k2, RH1, F1, k5⟩ => ?_
  generalize hν : (fun i => if i < H.length then μ i else h.length + (i - H.length)) = ν
  have nlow : ∀ i, i < H.length → ν i = μ i := fun i hi => by rw [← hν]; simp [hi]
  have nhigh : ∀ i, H.length ≤ i → ν i = h.length + (i - H.length) := fun i hi => by rw [← hν]; simp; omega
  generalize hρ' : (⟨fun k => if k < h.length then ρ.blk k else ρ1.blk (H.length + (k - h.length)), ρ.unk⟩ : Ren) = ρ'
  have rlow : ∀ k, k < h.length → ρ'.blk k = ρ.blk k := fun k hk => by rw [← hρ']; simp [hk]
  have rhigh : ∀ k, h.length ≤ k → ρ'.blk k = ρ1.blk (H.length + (k - h.length)) := fun k hk => by rw [← hρ']; simp; omega
  have mlt : ∀ i, i < H.length → nl i = false → μ i < h.length := fun i hi hq => by
    obtain ⟨B, hB⟩ := hall i hi
    obtain ⟨cs, T, rfl, _, ⟨_, o, h2⟩ | ⟨h1, _⟩⟩ := hin i B hB
    · exact lt_len h2
    · rw [hq] at h1; cases h1
  have Mv' : Moved ν nl ρ' ρ1 := fun i => by
    rcases Nat.lt_or_ge i H.length with hi | hi
    · refine ⟨fun e => ?_, fun e => ?_⟩
      · rw [F1.ren i hi, b0n i e]; rfl
      · rw [nlow i hi, rlow _ (mlt i hi e), F1.ren i hi, b0y i e]
    · refine ⟨fun e => ?_, fun e => ?_⟩
      · rw [hnl i hi] at e; cases e
      · rw [nhigh i hi, rhigh _ (by omega)]
        congr 1
        omega
  have same : ∀ k, k < w.heap.size → w'.heap[k]? = w.heap[k]? := fun k hk => F1.blk k hk fun i _ hi => absurd hi (nolw i)
  have newB : ∀ (j : Nat) (B : Blk), N[j]? = some (some B) → (H ++ N)[H.length + j]? = some (some B) := fun j B hB => by
    rw [List.getElem?_append_right (by omega), Nat.add_sub_cancel_left]; exact hB
  have frs : ∀ (j : Nat) (B : Blk), N[j]? = some (some B) → (ρ1.blk (H.length + j)).nil = false → w.heap.size ≤ (ρ1.blk (H.length + j)).n := fun j B hB hn => by
    rcases F1.fresh (H.length + j) (by omega) ⟨B, newB j B hB, (hnew j B hB).1, hn⟩ with q | ⟨q, _, q2, _⟩
    · exact q
    · exact absurd q2 (nolw q)
  have split : ∀ (k : Nat) (B : Blk), (h ++ N)[k]? = some (some B) → (k < h.length ∧ h[k]? = some (some B)) ∨ (h.length ≤ k ∧ N[k - h.length]? = some (some B)) := fun k B hB => by
    rcases Nat.lt_or_ge k h.length with q | q
    · rw [List.getElem?_append_left q] at hB; exact .inl ⟨q, hB⟩
    · rw [List.getElem?_append_right q] at hB; exact .inr ⟨q, hB⟩
  have rawU : ∀ (j : Nat) (B : Blk) (n : Nat), N[j]? = some (some B) → B.under n = true := fun j B n hB => by
    obtain ⟨_, cs, ty, own, rfl, hr⟩ := hnew j B hB
    exact unders_raws _ _ hr
  have hlen : (h ++ N).length = h.length + N.length := by simp
  refine ⟨ρ', by rw [← hρ'], by rw [k2, V.mv_conc (ρ := ρ') (ρ' := ρ1) Mv' (by rw [k1, ← hρ', ← hρ0]) v hnv], ⟨fun k B hB => ?_, fun x y hx hy he => ?_, fun k B hB => ?_, fun p hp => (by rw [hG] at hp; cases hp), by omega, fun i hi => by omega⟩, ⟨F1.os, F1.tape, F1.output, F1.size, fun k hk _ => same k hk, rlow, by omega, fun k hk hlwk => ?_, fun k hk hlwk => ?_⟩, ?_⟩
  · rcases split k B hB with ⟨q, h1⟩ | ⟨q, h1⟩
    · rw [rlow k q]
      exact (RH.cell k B h1).move (RH.sco k B h1) rlow fun hn => same _ (RH.lt ⟨B, h1, hn⟩)
    · rw [rhigh k q]
      have k1' := RH1.cell _ B (newB _ B h1)
      obtain ⟨_, cs, ty, own, rfl, hr⟩ := hnew _ B h1
      refine ⟨k1'.nil, fun hn => ?_, k1'.room⟩
      obtain ⟨fr, q1, q2⟩ := k1'.row hn
      refine ⟨fr, ?_, q2⟩
      rw [q1, concs_map, concs_map]
      congr 2
      congr 1
      congr 1
      exact List.map_congr_left fun x hx => by
        have := List.all_eq_true.1 hr x hx
        cases x <;> first | rfl | cases this
  · obtain ⟨B, x1, x2, x3⟩ := hx
    obtain ⟨C, y1, y3⟩ := hy
    rcases split x B x1 with ⟨q, h1⟩ | ⟨q, h1⟩ <;> rcases split y C y1 with ⟨p, g1⟩ | ⟨p, g1⟩
    · rw [rlow x q, rlow y p] at he
      rw [rlow x q] at x3
      rw [rlow y p] at y3
      exact RH.inj x y ⟨B, h1, x2, x3⟩ ⟨C, g1, y3⟩ he
    · exfalso
      rw [rlow x q, rhigh y p] at he
      rw [rlow x q] at x3
      rw [rhigh y p] at y3
      have a := RH.lt ⟨B, h1, x3⟩
      have b := frs _ C g1 y3
      omega
    · exfalso
      rw [rhigh x q, rlow y p] at he
      rw [rhigh x q] at x3
      rw [rlow y p] at y3
      have a := RH.lt ⟨C, g1, y3⟩
      have b := frs _ B h1 x3
      omega
    · rw [rhigh x q, rhigh y p] at he
      rw [rhigh x q] at x3
      rw [rhigh y p] at y3
      have := RH1.inj _ _ ⟨B, newB _ B h1, x2, x3⟩ ⟨C, newB _ C g1, y3⟩ he
      omega
  · rcases split k B hB with ⟨q, h1⟩ | ⟨q, h1⟩
    · exact Blk.under_mono (by omega) B (RH.sco k B h1)
    · exact rawU _ B _ h1
  · obtain ⟨B, x1, x2, x3⟩ := hlwk
    rcases split k B x1 with ⟨q, h1⟩ | ⟨q, h1⟩
    · omega
    · rw [rhigh k q] at x3 ⊢
      exact .inl (frs _ B h1 x3)
  · obtain ⟨B, x1, x2, x3⟩ := hlwk
    rcases split k B x1 with ⟨q, h1⟩ | ⟨q, h1⟩
    · rw [rlow k q] at x3
      exact ⟨B, h1, x2, x3⟩
    · omega
  · have hHN : (H ++ N).length = H.length + N.length := by simp
    rw [hHN] at k5
    rw [hlen]
    refine V.mv_underN (fun b hb hq => ?_) v k5 hnv
    rcases Nat.lt_or_ge b H.length with q | q
    · rw [nlow b q]
      have := mlt b q hq
      omega
    · rw [nhigh b q]
      omega
theorem upto_findB {c : Cfg} {lim n0 : Nat} {rnd : Option Nat} {x : Code} (hb : ∀ b, rnd = some b → b < n0) (good : Nat → Bool) (T : Nat → List V) (H : Nat → Heap) (n : Nat) {e e1 : Ex} {Te : List V} {He : Heap} (B : List V → Heap → Prop) (he : e ≠ .normal) (he1 : e1 ≠ .normal)
    (hstep : ∀ i, i < n → good i = true → Runs c lim n0 rnd x (T i) (H i) .normal (T (i + 1)) (H (i + 1))) (hbad : ∀ i, i < n → good i = false → ∃ t h, B t h ∧ Runs c lim n0 rnd x (T i) (H i) e1 t h) (hend : Runs c lim n0 rnd x (T n) (H n) e Te He) :
    ((List.range n).all good = true ∧ Runs c lim n0 rnd (.loop x) (T 0) (H 0) e Te He) ∨ ((List.range n).all good = false ∧ ∃ t h, B t h ∧ Runs c lim n0 rnd (.loop x) (T 0) (H 0) e1 t h) := by
  have key : ∀ i, ∃ p : List V × Heap, i < n → good i = false → B p.1 p.2 ∧ Runs c lim n0 rnd x (T i) (H i) e1 p.1 p.2 := fun i => by
    by_cases h : i < n ∧ good i = false
    · obtain ⟨t, q, h1, h2⟩ := hbad i h.1 h.2
      exact ⟨(t, q), fun _ _ => ⟨h1, h2⟩⟩
    · exact ⟨([], []), fun h1 h2 => absurd ⟨h1, h2⟩ h⟩
  obtain ⟨f, hf⟩ := Classical.axiomOfChoice key
  rcases upto_find hb good T H n (fun i => (f i).1) (fun i => (f i).2) he he1 hstep (fun i h1 h2 => (hf i h1 h2).2) hend with ⟨h1, h2⟩ | ⟨h1, i, h2, h3, h4, h5⟩
  · exact .inl ⟨h1, h2⟩
  · exact .inr ⟨h1, _, _, (hf i h2 h3).1, h5⟩
end Go.Proofs.Ytmelbcmfahcffaa.E2
end
section
namespace Go.Proofs.Ytmelbcmfahcffaa
open Go Go.RowKit Go.Proofs.Ytmelbcmfahcffaa.E2
theorem turfCuts {x y u v p q r : Int} (h1 : M.In x y) (h2 : M.In u v) (h3 : chkDisc p q r = 0) : Ret cfx 103 [.raw (.agg #[.int .i64 x, .int .i64 y]), .raw (.agg #[.int .i64 u, .int .i64 v]), .raw (.agg #[.int .i64 p, .int .i64 q, .int .i64 r])] (.raw (.tuple #[.bool (M.cutB x y u v p q r), .int .i64 0])) :=
  fn_of_calls (args := [.agg #[.int .i64 x, .int .i64 y], .agg #[.int .i64 u, .int .i64 v], .agg #[.int .i64 p, .int .i64 q, .int .i64 r]]) fun w => Cuts_ok x y u v p q r w h1 h2 h3
theorem lnMeets (x y d a1 a2 b1 b2 s : Int) (hr : (-100000 ≤ d ∧ d ≤ 100000) ∧ (-100000 ≤ s ∧ s ≤ 100000)) (ha : M.In a1 a2) (hb : M.In b1 b2) (hd : chkDisc x y (d + s) = 0)  : Meets cfx 0 102 [.raw (.agg #[.int .i64 x, .int .i64 y, .int .i64 d]), .ptr 0 0, .ptr 1 0, .ptr 2 0] [some (.cells [.raw (.int .i64 a1), .raw (.int .i64 a2)] 24 .ro), some (.cells [.raw (.int .i64 b1), .raw (.int .i64 b2)] 24 .ro), some (.cells [.raw (.int .i64 s)] 2 .ro)] (V.raw (.bool (M.cutB a1 a2 b1 b2 x y (d + s)))) [some (.cells [iV a1, iV a2] 24 .ro), some (.cells [iV b1, iV b2] 24 .ro), some (.cells [iV s] 2 .ro)] := by
  refine Meets.post (meets_ev cfx_mixed cfx_call zz zb (n := 40) (ans := [Ans.go, Ans.ret (V.raw (.tuple { toList := [.bool (M.cutB a1 a2 b1 b2 x y (d + s)), .int .i64 0] }))]) (v := V.raw (.bool (M.cutB a1 a2 b1 b2 x y (d + s)))) (h' := [some (.cells [iV a1, iV a2] 24 .ro), some (.cells [iV b1, iV b2] 24 .ro), some (.cells [iV s] 2 .ro), some (.cells [iV x, iV y, iV d] 26 .rw)]) (cons := [(inR IntKind.i64 (d + s)), (Ret cfx 103 [V.raw (.agg { toList := [.int .i64 a1, .int .i64 a2] }), V.raw (.agg { toList := [.int .i64 b1, .int .i64 b2] }), V.raw (.agg { toList := [.int .i64 x, .int .i64 y, .int .i64 (d + s)] })] (V.raw (.tuple { toList := [.bool (M.cutB a1 a2 b1 b2 x y (d + s)), .int .i64 0] })))]) zk
    ⟨inR_i64 zo zo, (turfCuts ha hb hd), trivial⟩) zk (fun RT RH => reshape2 (lim := 0) 3 cfx_G rfl [] zk zk (by exact (ents_say rfl rfl rfl rfl (ents_say rfl rfl rfl rfl (ents_say rfl rfl rfl rfl (ents_nil))))) RT RH)
theorem lnTouches (x y d u v s : Int) (h1 : chkDisc u v s = 0) (h2 : chkDisc x y d = 0)  : Meets cfx 0 106 [.raw (.agg #[.int .i64 x, .int .i64 y, .int .i64 d]), .ptr 0 0] [some (.cells [.raw (.int .i64 u), .raw (.int .i64 v), .raw (.int .i64 s)] 26 .ro)] (V.raw (.bool (M.overB u v s x y d))) [some (.cells [iV u, iV v, iV s] 26 .ro)] := by
  refine Meets.post (meets_ev cfx_mixed cfx_call zz zb (n := 40) (ans := [Ans.go, Ans.ret (V.raw (.bool (M.overB u v s x y d)))]) (v := V.raw (.bool (M.overB u v s x y d))) (h' := [some (.cells [iV u, iV v, iV s] 26 .ro), some (.cells [iV x, iV y, iV d] 26 .rw)]) (cons := [(Ret cfx 107 [V.raw (.agg { toList := [.int .i64 u, .int .i64 v, .int .i64 s] }), V.raw (.agg { toList := [.int .i64 x, .int .i64 y, .int .i64 d] })] (V.raw (.bool (M.overB u v s x y d))))]) zk
    ⟨(lnOverlap _ _ _ _ _ _ h1 h2), trivial⟩) zk (fun RT RH => reshape2 (lim := 0) 1 cfx_G rfl [] zk zk (by exact (ents_say rfl rfl rfl rfl (ents_nil))) RT RH)
end Go.Proofs.Ytmelbcmfahcffaa
end
section
namespace Go.Proofs.Ytmelbcmfahcffaa
open Go Go.RowKit Go.Proofs.Ytmelbcmfahcffaa.E2
theorem rnNr_1 (a1 a2 b1 b2 c1 c2 s : Int) (g1 : M.okP a1 a2) (g2 : M.okP b1 b2) (g3 : M.okP c1 c2) (h1 : ((-4194304 ≤ a1 ∧ a1 ≤ 4194304) ∧ (-4194304 ≤ a2 ∧ a2 ≤ 4194304))) (h2 : ((-4194304 ≤ b1 ∧ b1 ≤ 4194304) ∧ (-4194304 ≤ b2 ∧ b2 ≤ 4194304))) (h3 : ((-4194304 ≤ c1 ∧ c1 ≤ 4194304) ∧ (-4194304 ≤ c2 ∧ c2 ≤ 4194304))) (hs : 0 ≤ s ∧ s ≤ 65536) (hss : 0 ≤ s * s ∧ s * s ≤ 4294967296) (p1 : (-70368744177664 ≤ (b1 - a1) * (c1 - a1) ∧ (b1 - a1) * (c1 - a1) ≤ 70368744177664)) (p2 : (-70368744177664 ≤ (b2 - a2) * (c2 - a2) ∧ (b2 - a2) * (c2 - a2) ≤ 70368744177664)) (p3 : 0 ≤ (b1 - a1) * (b1 - a1) ∧ (b1 - a1) * (b1 - a1) ≤ 70368744177664) (p4 : 0 ≤ (b2 - a2) * (b2 - a2) ∧ (b2 - a2) * (b2 - a2) ≤ 70368744177664) (p5 : (-70368744177664 ≤ (b1 - a1) * (c2 - a2) ∧ (b1 - a1) * (c2 - a2) ≤ 70368744177664)) (p6 : (-70368744177664 ≤ (b2 - a2) * (c1 - a1) ∧ (b2 - a2) * (c1 - a1) ≤ 70368744177664)) (f0 : (b1 - a1) * (c1 - a1) + (b2 - a2) * (c2 - a2) ≤ 0) : Ret cfx 105 [.raw (.agg #[.int .i64 a1, .int .i64 a2]), .raw (.agg #[.int .i64 b1, .int .i64 b2]), .raw (.agg #[.int .i64 c1, .int .i64 c2]), .raw (.int .i64 s)] (V.raw (.bool (decide (M.sq a1 a2 c1 c2 < s * s)))) := by
  exact fn_of cfx_mixed cfx_call cfx_base.1 cfx_base.2.1 cfx_base.2.2 (n := 40) (ans := [Ans.go, Ans.olds [], zT, Ans.ret (iV (M.sq a1 a2 c1 c2))]) (cons := [(inR IntKind.i64 (b1 - a1)), (inR IntKind.i64 (b2 - a2)), (inR IntKind.i64 (c1 - a1)), (inR IntKind.i64 (c2 - a2)), (inR IntKind.i64 ((b1 - a1) * (c1 - a1))), (inR IntKind.i64 ((b2 - a2) * (c2 - a2))), (inR IntKind.i64 ((b1 - a1) * (c1 - a1) + (b2 - a2) * (c2 - a2))), (inR IntKind.i64 ((b1 - a1) * (b1 - a1))), (inR IntKind.i64 ((b2 - a2) * (b2 - a2))), (inR IntKind.i64 ((b1 - a1) * (b1 - a1) + (b2 - a2) * (b2 - a2))), (decide ((b1 - a1) * (c1 - a1) + (b2 - a2) * (c2 - a2) ≤ 0) = true), (Ret cfx 90 [V.raw (.agg { toList := [.int .i64 a1, .int .i64 a2] }), V.raw (.agg { toList := [.int .i64 c1, .int .i64 c2] })] (iV (M.sq a1 a2 c1 c2))), (inR IntKind.i64 (s * s))]) zk rfl rfl
    ⟨inR_i64 zo zo, inR_i64 zo zo, inR_i64 zo zo, inR_i64 zo zo, inR_i64 zo zo, inR_i64 zo zo, inR_i64 zo zo, inR_i64 zo zo, inR_i64 zo zo, inR_i64 zo zo, zdo, (rnSquare (by first |exact g1 |exact g2) g3), inR_i64 zo zo, trivial⟩
theorem rnNr_2 (a1 a2 b1 b2 c1 c2 s : Int) (g1 : M.okP a1 a2) (g2 : M.okP b1 b2) (g3 : M.okP c1 c2) (h1 : ((-4194304 ≤ a1 ∧ a1 ≤ 4194304) ∧ (-4194304 ≤ a2 ∧ a2 ≤ 4194304))) (h2 : ((-4194304 ≤ b1 ∧ b1 ≤ 4194304) ∧ (-4194304 ≤ b2 ∧ b2 ≤ 4194304))) (h3 : ((-4194304 ≤ c1 ∧ c1 ≤ 4194304) ∧ (-4194304 ≤ c2 ∧ c2 ≤ 4194304))) (hs : 0 ≤ s ∧ s ≤ 65536) (hss : 0 ≤ s * s ∧ s * s ≤ 4294967296) (p1 : (-70368744177664 ≤ (b1 - a1) * (c1 - a1) ∧ (b1 - a1) * (c1 - a1) ≤ 70368744177664)) (p2 : (-70368744177664 ≤ (b2 - a2) * (c2 - a2) ∧ (b2 - a2) * (c2 - a2) ≤ 70368744177664)) (p3 : 0 ≤ (b1 - a1) * (b1 - a1) ∧ (b1 - a1) * (b1 - a1) ≤ 70368744177664) (p4 : 0 ≤ (b2 - a2) * (b2 - a2) ∧ (b2 - a2) * (b2 - a2) ≤ 70368744177664) (p5 : (-70368744177664 ≤ (b1 - a1) * (c2 - a2) ∧ (b1 - a1) * (c2 - a2) ≤ 70368744177664)) (p6 : (-70368744177664 ≤ (b2 - a2) * (c1 - a1) ∧ (b2 - a2) * (c1 - a1) ≤ 70368744177664)) (f0 : ¬(b1 - a1) * (c1 - a1) + (b2 - a2) * (c2 - a2) ≤ 0) (f1 : (b1 - a1) * (b1 - a1) + (b2 - a2) * (b2 - a2) ≤ (b1 - a1) * (c1 - a1) + (b2 - a2) * (c2 - a2)) : Ret cfx 105 [.raw (.agg #[.int .i64 a1, .int .i64 a2]), .raw (.agg #[.int .i64 b1, .int .i64 b2]), .raw (.agg #[.int .i64 c1, .int .i64 c2]), .raw (.int .i64 s)] (V.raw (.bool (decide (M.sq b1 b2 c1 c2 < s * s)))) := by
  exact fn_of cfx_mixed cfx_call cfx_base.1 cfx_base.2.1 cfx_base.2.2 (n := 40) (ans := [Ans.go, Ans.olds [], zF, zT, Ans.ret (iV (M.sq b1 b2 c1 c2))]) (cons := [(inR IntKind.i64 (b1 - a1)), (inR IntKind.i64 (b2 - a2)), (inR IntKind.i64 (c1 - a1)), (inR IntKind.i64 (c2 - a2)), (inR IntKind.i64 ((b1 - a1) * (c1 - a1))), (inR IntKind.i64 ((b2 - a2) * (c2 - a2))), (inR IntKind.i64 ((b1 - a1) * (c1 - a1) + (b2 - a2) * (c2 - a2))), (inR IntKind.i64 ((b1 - a1) * (b1 - a1))), (inR IntKind.i64 ((b2 - a2) * (b2 - a2))), (inR IntKind.i64 ((b1 - a1) * (b1 - a1) + (b2 - a2) * (b2 - a2))), (decide ((b1 - a1) * (c1 - a1) + (b2 - a2) * (c2 - a2) ≤ 0) = false), (decide ((b1 - a1) * (b1 - a1) + (b2 - a2) * (b2 - a2) ≤ (b1 - a1) * (c1 - a1) + (b2 - a2) * (c2 - a2)) = true), (Ret cfx 90 [V.raw (.agg { toList := [.int .i64 b1, .int .i64 b2] }), V.raw (.agg { toList := [.int .i64 c1, .int .i64 c2] })] (iV (M.sq b1 b2 c1 c2))), (inR IntKind.i64 (s * s))]) zk rfl rfl
    ⟨inR_i64 zo zo, inR_i64 zo zo, inR_i64 zo zo, inR_i64 zo zo, inR_i64 zo zo, inR_i64 zo zo, inR_i64 zo zo, inR_i64 zo zo, inR_i64 zo zo, inR_i64 zo zo, zdo, zdf, (rnSquare (by first |exact g1 |exact g2) g3), inR_i64 zo zo, trivial⟩
abbrev zq28 (b1 : Int) (a1 : Int) (c2 : Int) (a2 : Int) (b2 : Int) (c1 : Int) : Prop := Ret cfx 115 [V.raw (Value.int IntKind.u64 (if -((b1 - a1) * (c2 - a2) - (b2 - a2) * (c1 - a1)) > (b1 - a1) * (c2 - a2) - (b2 - a2) * (c1 - a1) then -((b1 - a1) * (c2 - a2) - (b2 - a2) * (c1 - a1)) else (b1 - a1) * (c2 - a2) - (b2 - a2) * (c1 - a1))), V.raw (Value.int IntKind.u64 (if -((b1 - a1) * (c2 - a2) - (b2 - a2) * (c1 - a1)) > (b1 - a1) * (c2 - a2) - (b2 - a2) * (c1 - a1) then -((b1 - a1) * (c2 - a2) - (b2 - a2) * (c1 - a1)) else (b1 - a1) * (c2 - a2) - (b2 - a2) * (c1 - a1)))] (V.raw (.tuple { toList := [Value.int IntKind.u64 (M.hi ((if -((b1 - a1) * (c2 - a2) - (b2 - a2) * (c1 - a1)) > (b1 - a1) * (c2 - a2) - (b2 - a2) * (c1 - a1) then -((b1 - a1) * (c2 - a2) - (b2 - a2) * (c1 - a1)) else (b1 - a1) * (c2 - a2) - (b2 - a2) * (c1 - a1)) * if -((b1 - a1) * (c2 - a2) - (b2 - a2) * (c1 - a1)) > (b1 - a1) * (c2 - a2) - (b2 - a2) * (c1 - a1) then -((b1 - a1) * (c2 - a2) - (b2 - a2) * (c1 - a1)) else (b1 - a1) * (c2 - a2) - (b2 - a2) * (c1 - a1))), Value.int IntKind.u64 (M.lo ((if -((b1 - a1) * (c2 - a2) - (b2 - a2) * (c1 - a1)) > (b1 - a1) * (c2 - a2) - (b2 - a2) * (c1 - a1) then -((b1 - a1) * (c2 - a2) - (b2 - a2) * (c1 - a1)) else (b1 - a1) * (c2 - a2) - (b2 - a2) * (c1 - a1)) * if -((b1 - a1) * (c2 - a2) - (b2 - a2) * (c1 - a1)) > (b1 - a1) * (c2 - a2) - (b2 - a2) * (c1 - a1) then -((b1 - a1) * (c2 - a2) - (b2 - a2) * (c1 - a1)) else (b1 - a1) * (c2 - a2) - (b2 - a2) * (c1 - a1)))] }))
abbrev zq115 (b1 : Int) (a1 : Int) (b2 : Int) (a2 : Int) (s : Int) : Prop := Ret cfx 115 [V.raw (Value.int IntKind.u64 ((b1 - a1) * (b1 - a1) + (b2 - a2) * (b2 - a2))), V.raw (Value.int IntKind.u64 (s * s))] (V.raw (.tuple { toList := [Value.int IntKind.u64 (M.hi (((b1 - a1) * (b1 - a1) + (b2 - a2) * (b2 - a2)) * (s * s))), Value.int IntKind.u64 (M.lo (((b1 - a1) * (b1 - a1) + (b2 - a2) * (b2 - a2)) * (s * s)))] }))
theorem rnNr_3 (a1 a2 b1 b2 c1 c2 s : Int) (g1 : M.okP a1 a2) (g2 : M.okP b1 b2) (g3 : M.okP c1 c2) (h1 : ((-4194304 ≤ a1 ∧ a1 ≤ 4194304) ∧ (-4194304 ≤ a2 ∧ a2 ≤ 4194304))) (h2 : ((-4194304 ≤ b1 ∧ b1 ≤ 4194304) ∧ (-4194304 ≤ b2 ∧ b2 ≤ 4194304))) (h3 : ((-4194304 ≤ c1 ∧ c1 ≤ 4194304) ∧ (-4194304 ≤ c2 ∧ c2 ≤ 4194304))) (hs : 0 ≤ s ∧ s ≤ 65536) (hss : 0 ≤ s * s ∧ s * s ≤ 4294967296) (p1 : (-70368744177664 ≤ (b1 - a1) * (c1 - a1) ∧ (b1 - a1) * (c1 - a1) ≤ 70368744177664)) (p2 : (-70368744177664 ≤ (b2 - a2) * (c2 - a2) ∧ (b2 - a2) * (c2 - a2) ≤ 70368744177664)) (p3 : 0 ≤ (b1 - a1) * (b1 - a1) ∧ (b1 - a1) * (b1 - a1) ≤ 70368744177664) (p4 : 0 ≤ (b2 - a2) * (b2 - a2) ∧ (b2 - a2) * (b2 - a2) ≤ 70368744177664) (p5 : (-70368744177664 ≤ (b1 - a1) * (c2 - a2) ∧ (b1 - a1) * (c2 - a2) ≤ 70368744177664)) (p6 : (-70368744177664 ≤ (b2 - a2) * (c1 - a1) ∧ (b2 - a2) * (c1 - a1) ≤ 70368744177664)) (f0 : ¬(b1 - a1) * (c1 - a1) + (b2 - a2) * (c2 - a2) ≤ 0) (f1 : ¬(b1 - a1) * (b1 - a1) + (b2 - a2) * (b2 - a2) ≤ (b1 - a1) * (c1 - a1) + (b2 - a2) * (c2 - a2)) (f2 : M.hi ((if -((b1 - a1) * (c2 - a2) - (b2 - a2) * (c1 - a1)) > (b1 - a1) * (c2 - a2) - (b2 - a2) * (c1 - a1) then -((b1 - a1) * (c2 - a2) - (b2 - a2) * (c1 - a1)) else (b1 - a1) * (c2 - a2) - (b2 - a2) * (c1 - a1)) * if -((b1 - a1) * (c2 - a2) - (b2 - a2) * (c1 - a1)) > (b1 - a1) * (c2 - a2) - (b2 - a2) * (c1 - a1) then -((b1 - a1) * (c2 - a2) - (b2 - a2) * (c1 - a1)) else (b1 - a1) * (c2 - a2) - (b2 - a2) * (c1 - a1)) < M.hi (((b1 - a1) * (b1 - a1) + (b2 - a2) * (b2 - a2)) * (s * s))) : Ret cfx 105 [.raw (.agg #[.int .i64 a1, .int .i64 a2]), .raw (.agg #[.int .i64 b1, .int .i64 b2]), .raw (.agg #[.int .i64 c1, .int .i64 c2]), .raw (.int .i64 s)] (V.raw (.bool true)) := by
  exact fn_of cfx_mixed cfx_call cfx_base.1 cfx_base.2.1 cfx_base.2.2 (n := 40) (ans := [Ans.go, Ans.olds [], zF, zF, Ans.ret (V.raw (.tuple { toList := [Value.int IntKind.u64 (M.hi ((if -((b1 - a1) * (c2 - a2) - (b2 - a2) * (c1 - a1)) > (b1 - a1) * (c2 - a2) - (b2 - a2) * (c1 - a1) then -((b1 - a1) * (c2 - a2) - (b2 - a2) * (c1 - a1)) else (b1 - a1) * (c2 - a2) - (b2 - a2) * (c1 - a1)) * if -((b1 - a1) * (c2 - a2) - (b2 - a2) * (c1 - a1)) > (b1 - a1) * (c2 - a2) - (b2 - a2) * (c1 - a1) then -((b1 - a1) * (c2 - a2) - (b2 - a2) * (c1 - a1)) else (b1 - a1) * (c2 - a2) - (b2 - a2) * (c1 - a1))), Value.int IntKind.u64 (M.lo ((if -((b1 - a1) * (c2 - a2) - (b2 - a2) * (c1 - a1)) > (b1 - a1) * (c2 - a2) - (b2 - a2) * (c1 - a1) then -((b1 - a1) * (c2 - a2) - (b2 - a2) * (c1 - a1)) else (b1 - a1) * (c2 - a2) - (b2 - a2) * (c1 - a1)) * if -((b1 - a1) * (c2 - a2) - (b2 - a2) * (c1 - a1)) > (b1 - a1) * (c2 - a2) - (b2 - a2) * (c1 - a1) then -((b1 - a1) * (c2 - a2) - (b2 - a2) * (c1 - a1)) else (b1 - a1) * (c2 - a2) - (b2 - a2) * (c1 - a1)))] })), Ans.ret (V.raw (.tuple { toList := [Value.int IntKind.u64 (M.hi (((b1 - a1) * (b1 - a1) + (b2 - a2) * (b2 - a2)) * (s * s))), Value.int IntKind.u64 (M.lo (((b1 - a1) * (b1 - a1) + (b2 - a2) * (b2 - a2)) * (s * s)))] })), zT, zT]) (cons := [(inR IntKind.i64 (b1 - a1)), (inR IntKind.i64 (b2 - a2)), (inR IntKind.i64 (c1 - a1)), (inR IntKind.i64 (c2 - a2)), (inR IntKind.i64 ((b1 - a1) * (c1 - a1))), (inR IntKind.i64 ((b2 - a2) * (c2 - a2))), (inR IntKind.i64 ((b1 - a1) * (c1 - a1) + (b2 - a2) * (c2 - a2))), (inR IntKind.i64 ((b1 - a1) * (b1 - a1))), (inR IntKind.i64 ((b2 - a2) * (b2 - a2))), (inR IntKind.i64 ((b1 - a1) * (b1 - a1) + (b2 - a2) * (b2 - a2))), (decide ((b1 - a1) * (c1 - a1) + (b2 - a2) * (c2 - a2) ≤ 0) = false), (decide ((b1 - a1) * (b1 - a1) + (b2 - a2) * (b2 - a2) ≤ (b1 - a1) * (c1 - a1) + (b2 - a2) * (c2 - a2)) = false), (inR IntKind.i64 ((b1 - a1) * (c2 - a2))), (inR IntKind.i64 ((b2 - a2) * (c1 - a1))), (inR IntKind.i64 ((b1 - a1) * (c2 - a2) - (b2 - a2) * (c1 - a1))), (inR IntKind.i64 (-((b1 - a1) * (c2 - a2) - (b2 - a2) * (c1 - a1)))), (inR IntKind.u64 (if -((b1 - a1) * (c2 - a2) - (b2 - a2) * (c1 - a1)) > (b1 - a1) * (c2 - a2) - (b2 - a2) * (c1 - a1) then -((b1 - a1) * (c2 - a2) - (b2 - a2) * (c1 - a1)) else (b1 - a1) * (c2 - a2) - (b2 - a2) * (c1 - a1))), (inR IntKind.u64 (if -((b1 - a1) * (c2 - a2) - (b2 - a2) * (c1 - a1)) > (b1 - a1) * (c2 - a2) - (b2 - a2) * (c1 - a1) then -((b1 - a1) * (c2 - a2) - (b2 - a2) * (c1 - a1)) else (b1 - a1) * (c2 - a2) - (b2 - a2) * (c1 - a1))), ((zq28 b1 a1 c2 a2 b2 c1)), (inR IntKind.u64 ((b1 - a1) * (b1 - a1) + (b2 - a2) * (b2 - a2))), (inR IntKind.i64 (s * s)), (inR IntKind.u64 (s * s)), ((zq115 b1 a1 b2 a2 s)), (decide (M.hi ((if -((b1 - a1) * (c2 - a2) - (b2 - a2) * (c1 - a1)) > (b1 - a1) * (c2 - a2) - (b2 - a2) * (c1 - a1) then -((b1 - a1) * (c2 - a2) - (b2 - a2) * (c1 - a1)) else (b1 - a1) * (c2 - a2) - (b2 - a2) * (c1 - a1)) * if -((b1 - a1) * (c2 - a2) - (b2 - a2) * (c1 - a1)) > (b1 - a1) * (c2 - a2) - (b2 - a2) * (c1 - a1) then -((b1 - a1) * (c2 - a2) - (b2 - a2) * (c1 - a1)) else (b1 - a1) * (c2 - a2) - (b2 - a2) * (c1 - a1)) < M.hi (((b1 - a1) * (b1 - a1) + (b2 - a2) * (b2 - a2)) * (s * s))) = true), (true = true)]) zk rfl rfl
    ⟨inR_i64 zo zo, inR_i64 zo zo, inR_i64 zo zo, inR_i64 zo zo, inR_i64 zo zo, inR_i64 zo zo, inR_i64 zo zo, inR_i64 zo zo, inR_i64 zo zo, inR_i64 zo zo, zdo, zdf, inR_i64 zo zo, inR_i64 zo zo, inR_i64 zo zo, inR_i64 zo zo, inR_u64 zo zo, inR_u64 zo zo, (rnWide _ _ zo zo), inR_u64 zo zo, inR_i64 zo zo, inR_u64 zo zo, (rnWide _ _ zo zo), zdf, rfl, trivial⟩
theorem rnNr_4 (a1 a2 b1 b2 c1 c2 s : Int) (g1 : M.okP a1 a2) (g2 : M.okP b1 b2) (g3 : M.okP c1 c2) (h1 : ((-4194304 ≤ a1 ∧ a1 ≤ 4194304) ∧ (-4194304 ≤ a2 ∧ a2 ≤ 4194304))) (h2 : ((-4194304 ≤ b1 ∧ b1 ≤ 4194304) ∧ (-4194304 ≤ b2 ∧ b2 ≤ 4194304))) (h3 : ((-4194304 ≤ c1 ∧ c1 ≤ 4194304) ∧ (-4194304 ≤ c2 ∧ c2 ≤ 4194304))) (hs : 0 ≤ s ∧ s ≤ 65536) (hss : 0 ≤ s * s ∧ s * s ≤ 4294967296) (p1 : (-70368744177664 ≤ (b1 - a1) * (c1 - a1) ∧ (b1 - a1) * (c1 - a1) ≤ 70368744177664)) (p2 : (-70368744177664 ≤ (b2 - a2) * (c2 - a2) ∧ (b2 - a2) * (c2 - a2) ≤ 70368744177664)) (p3 : 0 ≤ (b1 - a1) * (b1 - a1) ∧ (b1 - a1) * (b1 - a1) ≤ 70368744177664) (p4 : 0 ≤ (b2 - a2) * (b2 - a2) ∧ (b2 - a2) * (b2 - a2) ≤ 70368744177664) (p5 : (-70368744177664 ≤ (b1 - a1) * (c2 - a2) ∧ (b1 - a1) * (c2 - a2) ≤ 70368744177664)) (p6 : (-70368744177664 ≤ (b2 - a2) * (c1 - a1) ∧ (b2 - a2) * (c1 - a1) ≤ 70368744177664)) (f0 : ¬(b1 - a1) * (c1 - a1) + (b2 - a2) * (c2 - a2) ≤ 0) (f1 : ¬(b1 - a1) * (b1 - a1) + (b2 - a2) * (b2 - a2) ≤ (b1 - a1) * (c1 - a1) + (b2 - a2) * (c2 - a2)) (f2 : ¬M.hi ((if -((b1 - a1) * (c2 - a2) - (b2 - a2) * (c1 - a1)) > (b1 - a1) * (c2 - a2) - (b2 - a2) * (c1 - a1) then -((b1 - a1) * (c2 - a2) - (b2 - a2) * (c1 - a1)) else (b1 - a1) * (c2 - a2) - (b2 - a2) * (c1 - a1)) * if -((b1 - a1) * (c2 - a2) - (b2 - a2) * (c1 - a1)) > (b1 - a1) * (c2 - a2) - (b2 - a2) * (c1 - a1) then -((b1 - a1) * (c2 - a2) - (b2 - a2) * (c1 - a1)) else (b1 - a1) * (c2 - a2) - (b2 - a2) * (c1 - a1)) < M.hi (((b1 - a1) * (b1 - a1) + (b2 - a2) * (b2 - a2)) * (s * s))) (f3 : M.hi ((if -((b1 - a1) * (c2 - a2) - (b2 - a2) * (c1 - a1)) > (b1 - a1) * (c2 - a2) - (b2 - a2) * (c1 - a1) then -((b1 - a1) * (c2 - a2) - (b2 - a2) * (c1 - a1)) else (b1 - a1) * (c2 - a2) - (b2 - a2) * (c1 - a1)) * if -((b1 - a1) * (c2 - a2) - (b2 - a2) * (c1 - a1)) > (b1 - a1) * (c2 - a2) - (b2 - a2) * (c1 - a1) then -((b1 - a1) * (c2 - a2) - (b2 - a2) * (c1 - a1)) else (b1 - a1) * (c2 - a2) - (b2 - a2) * (c1 - a1)) = M.hi (((b1 - a1) * (b1 - a1) + (b2 - a2) * (b2 - a2)) * (s * s))) : Ret cfx 105 [.raw (.agg #[.int .i64 a1, .int .i64 a2]), .raw (.agg #[.int .i64 b1, .int .i64 b2]), .raw (.agg #[.int .i64 c1, .int .i64 c2]), .raw (.int .i64 s)] (V.raw (.bool (decide (M.lo ((if -((b1 - a1) * (c2 - a2) - (b2 - a2) * (c1 - a1)) > (b1 - a1) * (c2 - a2) - (b2 - a2) * (c1 - a1) then -((b1 - a1) * (c2 - a2) - (b2 - a2) * (c1 - a1)) else (b1 - a1) * (c2 - a2) - (b2 - a2) * (c1 - a1)) * if -((b1 - a1) * (c2 - a2) - (b2 - a2) * (c1 - a1)) > (b1 - a1) * (c2 - a2) - (b2 - a2) * (c1 - a1) then -((b1 - a1) * (c2 - a2) - (b2 - a2) * (c1 - a1)) else (b1 - a1) * (c2 - a2) - (b2 - a2) * (c1 - a1)) < M.lo (((b1 - a1) * (b1 - a1) + (b2 - a2) * (b2 - a2)) * (s * s)))))) := by
  exact fn_of cfx_mixed cfx_call cfx_base.1 cfx_base.2.1 cfx_base.2.2 (n := 40) (ans := [Ans.go, Ans.olds [], zF, zF, Ans.ret (V.raw (.tuple { toList := [Value.int IntKind.u64 (M.hi ((if -((b1 - a1) * (c2 - a2) - (b2 - a2) * (c1 - a1)) > (b1 - a1) * (c2 - a2) - (b2 - a2) * (c1 - a1) then -((b1 - a1) * (c2 - a2) - (b2 - a2) * (c1 - a1)) else (b1 - a1) * (c2 - a2) - (b2 - a2) * (c1 - a1)) * if -((b1 - a1) * (c2 - a2) - (b2 - a2) * (c1 - a1)) > (b1 - a1) * (c2 - a2) - (b2 - a2) * (c1 - a1) then -((b1 - a1) * (c2 - a2) - (b2 - a2) * (c1 - a1)) else (b1 - a1) * (c2 - a2) - (b2 - a2) * (c1 - a1))), Value.int IntKind.u64 (M.lo ((if -((b1 - a1) * (c2 - a2) - (b2 - a2) * (c1 - a1)) > (b1 - a1) * (c2 - a2) - (b2 - a2) * (c1 - a1) then -((b1 - a1) * (c2 - a2) - (b2 - a2) * (c1 - a1)) else (b1 - a1) * (c2 - a2) - (b2 - a2) * (c1 - a1)) * if -((b1 - a1) * (c2 - a2) - (b2 - a2) * (c1 - a1)) > (b1 - a1) * (c2 - a2) - (b2 - a2) * (c1 - a1) then -((b1 - a1) * (c2 - a2) - (b2 - a2) * (c1 - a1)) else (b1 - a1) * (c2 - a2) - (b2 - a2) * (c1 - a1)))] })), Ans.ret (V.raw (.tuple { toList := [Value.int IntKind.u64 (M.hi (((b1 - a1) * (b1 - a1) + (b2 - a2) * (b2 - a2)) * (s * s))), Value.int IntKind.u64 (M.lo (((b1 - a1) * (b1 - a1) + (b2 - a2) * (b2 - a2)) * (s * s)))] })), zF, zT, zT, zF]) (cons := [(inR IntKind.i64 (b1 - a1)), (inR IntKind.i64 (b2 - a2)), (inR IntKind.i64 (c1 - a1)), (inR IntKind.i64 (c2 - a2)), (inR IntKind.i64 ((b1 - a1) * (c1 - a1))), (inR IntKind.i64 ((b2 - a2) * (c2 - a2))), (inR IntKind.i64 ((b1 - a1) * (c1 - a1) + (b2 - a2) * (c2 - a2))), (inR IntKind.i64 ((b1 - a1) * (b1 - a1))), (inR IntKind.i64 ((b2 - a2) * (b2 - a2))), (inR IntKind.i64 ((b1 - a1) * (b1 - a1) + (b2 - a2) * (b2 - a2))), (decide ((b1 - a1) * (c1 - a1) + (b2 - a2) * (c2 - a2) ≤ 0) = false), (decide ((b1 - a1) * (b1 - a1) + (b2 - a2) * (b2 - a2) ≤ (b1 - a1) * (c1 - a1) + (b2 - a2) * (c2 - a2)) = false), (inR IntKind.i64 ((b1 - a1) * (c2 - a2))), (inR IntKind.i64 ((b2 - a2) * (c1 - a1))), (inR IntKind.i64 ((b1 - a1) * (c2 - a2) - (b2 - a2) * (c1 - a1))), (inR IntKind.i64 (-((b1 - a1) * (c2 - a2) - (b2 - a2) * (c1 - a1)))), (inR IntKind.u64 (if -((b1 - a1) * (c2 - a2) - (b2 - a2) * (c1 - a1)) > (b1 - a1) * (c2 - a2) - (b2 - a2) * (c1 - a1) then -((b1 - a1) * (c2 - a2) - (b2 - a2) * (c1 - a1)) else (b1 - a1) * (c2 - a2) - (b2 - a2) * (c1 - a1))), (inR IntKind.u64 (if -((b1 - a1) * (c2 - a2) - (b2 - a2) * (c1 - a1)) > (b1 - a1) * (c2 - a2) - (b2 - a2) * (c1 - a1) then -((b1 - a1) * (c2 - a2) - (b2 - a2) * (c1 - a1)) else (b1 - a1) * (c2 - a2) - (b2 - a2) * (c1 - a1))), ((zq28 b1 a1 c2 a2 b2 c1)), (inR IntKind.u64 ((b1 - a1) * (b1 - a1) + (b2 - a2) * (b2 - a2))), (inR IntKind.i64 (s * s)), (inR IntKind.u64 (s * s)), ((zq115 b1 a1 b2 a2 s)), (decide (M.hi ((if -((b1 - a1) * (c2 - a2) - (b2 - a2) * (c1 - a1)) > (b1 - a1) * (c2 - a2) - (b2 - a2) * (c1 - a1) then -((b1 - a1) * (c2 - a2) - (b2 - a2) * (c1 - a1)) else (b1 - a1) * (c2 - a2) - (b2 - a2) * (c1 - a1)) * if -((b1 - a1) * (c2 - a2) - (b2 - a2) * (c1 - a1)) > (b1 - a1) * (c2 - a2) - (b2 - a2) * (c1 - a1) then -((b1 - a1) * (c2 - a2) - (b2 - a2) * (c1 - a1)) else (b1 - a1) * (c2 - a2) - (b2 - a2) * (c1 - a1)) < M.hi (((b1 - a1) * (b1 - a1) + (b2 - a2) * (b2 - a2)) * (s * s))) = false), (decide (M.hi ((if -((b1 - a1) * (c2 - a2) - (b2 - a2) * (c1 - a1)) > (b1 - a1) * (c2 - a2) - (b2 - a2) * (c1 - a1) then -((b1 - a1) * (c2 - a2) - (b2 - a2) * (c1 - a1)) else (b1 - a1) * (c2 - a2) - (b2 - a2) * (c1 - a1)) * if -((b1 - a1) * (c2 - a2) - (b2 - a2) * (c1 - a1)) > (b1 - a1) * (c2 - a2) - (b2 - a2) * (c1 - a1) then -((b1 - a1) * (c2 - a2) - (b2 - a2) * (c1 - a1)) else (b1 - a1) * (c2 - a2) - (b2 - a2) * (c1 - a1)) = M.hi (((b1 - a1) * (b1 - a1) + (b2 - a2) * (b2 - a2)) * (s * s))) = true), (true = true), (false = false)]) zk rfl rfl
    ⟨inR_i64 zo zo, inR_i64 zo zo, inR_i64 zo zo, inR_i64 zo zo, inR_i64 zo zo, inR_i64 zo zo, inR_i64 zo zo, inR_i64 zo zo, inR_i64 zo zo, inR_i64 zo zo, zdo, zdf, inR_i64 zo zo, inR_i64 zo zo, inR_i64 zo zo, inR_i64 zo zo, inR_u64 zo zo, inR_u64 zo zo, (rnWide _ _ zo zo), inR_u64 zo zo, inR_i64 zo zo, inR_u64 zo zo, (rnWide _ _ zo zo), zdf, zdf, rfl, rfl, trivial⟩
theorem rnNr_5 (a1 a2 b1 b2 c1 c2 s : Int) (g1 : M.okP a1 a2) (g2 : M.okP b1 b2) (g3 : M.okP c1 c2) (h1 : ((-4194304 ≤ a1 ∧ a1 ≤ 4194304) ∧ (-4194304 ≤ a2 ∧ a2 ≤ 4194304))) (h2 : ((-4194304 ≤ b1 ∧ b1 ≤ 4194304) ∧ (-4194304 ≤ b2 ∧ b2 ≤ 4194304))) (h3 : ((-4194304 ≤ c1 ∧ c1 ≤ 4194304) ∧ (-4194304 ≤ c2 ∧ c2 ≤ 4194304))) (hs : 0 ≤ s ∧ s ≤ 65536) (hss : 0 ≤ s * s ∧ s * s ≤ 4294967296) (p1 : (-70368744177664 ≤ (b1 - a1) * (c1 - a1) ∧ (b1 - a1) * (c1 - a1) ≤ 70368744177664)) (p2 : (-70368744177664 ≤ (b2 - a2) * (c2 - a2) ∧ (b2 - a2) * (c2 - a2) ≤ 70368744177664)) (p3 : 0 ≤ (b1 - a1) * (b1 - a1) ∧ (b1 - a1) * (b1 - a1) ≤ 70368744177664) (p4 : 0 ≤ (b2 - a2) * (b2 - a2) ∧ (b2 - a2) * (b2 - a2) ≤ 70368744177664) (p5 : (-70368744177664 ≤ (b1 - a1) * (c2 - a2) ∧ (b1 - a1) * (c2 - a2) ≤ 70368744177664)) (p6 : (-70368744177664 ≤ (b2 - a2) * (c1 - a1) ∧ (b2 - a2) * (c1 - a1) ≤ 70368744177664)) (f0 : ¬(b1 - a1) * (c1 - a1) + (b2 - a2) * (c2 - a2) ≤ 0) (f1 : ¬(b1 - a1) * (b1 - a1) + (b2 - a2) * (b2 - a2) ≤ (b1 - a1) * (c1 - a1) + (b2 - a2) * (c2 - a2)) (f2 : ¬M.hi ((if -((b1 - a1) * (c2 - a2) - (b2 - a2) * (c1 - a1)) > (b1 - a1) * (c2 - a2) - (b2 - a2) * (c1 - a1) then -((b1 - a1) * (c2 - a2) - (b2 - a2) * (c1 - a1)) else (b1 - a1) * (c2 - a2) - (b2 - a2) * (c1 - a1)) * if -((b1 - a1) * (c2 - a2) - (b2 - a2) * (c1 - a1)) > (b1 - a1) * (c2 - a2) - (b2 - a2) * (c1 - a1) then -((b1 - a1) * (c2 - a2) - (b2 - a2) * (c1 - a1)) else (b1 - a1) * (c2 - a2) - (b2 - a2) * (c1 - a1)) < M.hi (((b1 - a1) * (b1 - a1) + (b2 - a2) * (b2 - a2)) * (s * s))) (f3 : ¬M.hi ((if -((b1 - a1) * (c2 - a2) - (b2 - a2) * (c1 - a1)) > (b1 - a1) * (c2 - a2) - (b2 - a2) * (c1 - a1) then -((b1 - a1) * (c2 - a2) - (b2 - a2) * (c1 - a1)) else (b1 - a1) * (c2 - a2) - (b2 - a2) * (c1 - a1)) * if -((b1 - a1) * (c2 - a2) - (b2 - a2) * (c1 - a1)) > (b1 - a1) * (c2 - a2) - (b2 - a2) * (c1 - a1) then -((b1 - a1) * (c2 - a2) - (b2 - a2) * (c1 - a1)) else (b1 - a1) * (c2 - a2) - (b2 - a2) * (c1 - a1)) = M.hi (((b1 - a1) * (b1 - a1) + (b2 - a2) * (b2 - a2)) * (s * s))) : Ret cfx 105 [.raw (.agg #[.int .i64 a1, .int .i64 a2]), .raw (.agg #[.int .i64 b1, .int .i64 b2]), .raw (.agg #[.int .i64 c1, .int .i64 c2]), .raw (.int .i64 s)] (V.raw (.bool false)) := by
  exact fn_of cfx_mixed cfx_call cfx_base.1 cfx_base.2.1 cfx_base.2.2 (n := 40) (ans := [Ans.go, Ans.olds [], zF, zF, Ans.ret (V.raw (.tuple { toList := [Value.int IntKind.u64 (M.hi ((if -((b1 - a1) * (c2 - a2) - (b2 - a2) * (c1 - a1)) > (b1 - a1) * (c2 - a2) - (b2 - a2) * (c1 - a1) then -((b1 - a1) * (c2 - a2) - (b2 - a2) * (c1 - a1)) else (b1 - a1) * (c2 - a2) - (b2 - a2) * (c1 - a1)) * if -((b1 - a1) * (c2 - a2) - (b2 - a2) * (c1 - a1)) > (b1 - a1) * (c2 - a2) - (b2 - a2) * (c1 - a1) then -((b1 - a1) * (c2 - a2) - (b2 - a2) * (c1 - a1)) else (b1 - a1) * (c2 - a2) - (b2 - a2) * (c1 - a1))), Value.int IntKind.u64 (M.lo ((if -((b1 - a1) * (c2 - a2) - (b2 - a2) * (c1 - a1)) > (b1 - a1) * (c2 - a2) - (b2 - a2) * (c1 - a1) then -((b1 - a1) * (c2 - a2) - (b2 - a2) * (c1 - a1)) else (b1 - a1) * (c2 - a2) - (b2 - a2) * (c1 - a1)) * if -((b1 - a1) * (c2 - a2) - (b2 - a2) * (c1 - a1)) > (b1 - a1) * (c2 - a2) - (b2 - a2) * (c1 - a1) then -((b1 - a1) * (c2 - a2) - (b2 - a2) * (c1 - a1)) else (b1 - a1) * (c2 - a2) - (b2 - a2) * (c1 - a1)))] })), Ans.ret (V.raw (.tuple { toList := [Value.int IntKind.u64 (M.hi (((b1 - a1) * (b1 - a1) + (b2 - a2) * (b2 - a2)) * (s * s))), Value.int IntKind.u64 (M.lo (((b1 - a1) * (b1 - a1) + (b2 - a2) * (b2 - a2)) * (s * s)))] })), zF, zF, zF, zF]) (cons := [(inR IntKind.i64 (b1 - a1)), (inR IntKind.i64 (b2 - a2)), (inR IntKind.i64 (c1 - a1)), (inR IntKind.i64 (c2 - a2)), (inR IntKind.i64 ((b1 - a1) * (c1 - a1))), (inR IntKind.i64 ((b2 - a2) * (c2 - a2))), (inR IntKind.i64 ((b1 - a1) * (c1 - a1) + (b2 - a2) * (c2 - a2))), (inR IntKind.i64 ((b1 - a1) * (b1 - a1))), (inR IntKind.i64 ((b2 - a2) * (b2 - a2))), (inR IntKind.i64 ((b1 - a1) * (b1 - a1) + (b2 - a2) * (b2 - a2))), (decide ((b1 - a1) * (c1 - a1) + (b2 - a2) * (c2 - a2) ≤ 0) = false), (decide ((b1 - a1) * (b1 - a1) + (b2 - a2) * (b2 - a2) ≤ (b1 - a1) * (c1 - a1) + (b2 - a2) * (c2 - a2)) = false), (inR IntKind.i64 ((b1 - a1) * (c2 - a2))), (inR IntKind.i64 ((b2 - a2) * (c1 - a1))), (inR IntKind.i64 ((b1 - a1) * (c2 - a2) - (b2 - a2) * (c1 - a1))), (inR IntKind.i64 (-((b1 - a1) * (c2 - a2) - (b2 - a2) * (c1 - a1)))), (inR IntKind.u64 (if -((b1 - a1) * (c2 - a2) - (b2 - a2) * (c1 - a1)) > (b1 - a1) * (c2 - a2) - (b2 - a2) * (c1 - a1) then -((b1 - a1) * (c2 - a2) - (b2 - a2) * (c1 - a1)) else (b1 - a1) * (c2 - a2) - (b2 - a2) * (c1 - a1))), (inR IntKind.u64 (if -((b1 - a1) * (c2 - a2) - (b2 - a2) * (c1 - a1)) > (b1 - a1) * (c2 - a2) - (b2 - a2) * (c1 - a1) then -((b1 - a1) * (c2 - a2) - (b2 - a2) * (c1 - a1)) else (b1 - a1) * (c2 - a2) - (b2 - a2) * (c1 - a1))), ((zq28 b1 a1 c2 a2 b2 c1)), (inR IntKind.u64 ((b1 - a1) * (b1 - a1) + (b2 - a2) * (b2 - a2))), (inR IntKind.i64 (s * s)), (inR IntKind.u64 (s * s)), ((zq115 b1 a1 b2 a2 s)), (decide (M.hi ((if -((b1 - a1) * (c2 - a2) - (b2 - a2) * (c1 - a1)) > (b1 - a1) * (c2 - a2) - (b2 - a2) * (c1 - a1) then -((b1 - a1) * (c2 - a2) - (b2 - a2) * (c1 - a1)) else (b1 - a1) * (c2 - a2) - (b2 - a2) * (c1 - a1)) * if -((b1 - a1) * (c2 - a2) - (b2 - a2) * (c1 - a1)) > (b1 - a1) * (c2 - a2) - (b2 - a2) * (c1 - a1) then -((b1 - a1) * (c2 - a2) - (b2 - a2) * (c1 - a1)) else (b1 - a1) * (c2 - a2) - (b2 - a2) * (c1 - a1)) < M.hi (((b1 - a1) * (b1 - a1) + (b2 - a2) * (b2 - a2)) * (s * s))) = false), (decide (M.hi ((if -((b1 - a1) * (c2 - a2) - (b2 - a2) * (c1 - a1)) > (b1 - a1) * (c2 - a2) - (b2 - a2) * (c1 - a1) then -((b1 - a1) * (c2 - a2) - (b2 - a2) * (c1 - a1)) else (b1 - a1) * (c2 - a2) - (b2 - a2) * (c1 - a1)) * if -((b1 - a1) * (c2 - a2) - (b2 - a2) * (c1 - a1)) > (b1 - a1) * (c2 - a2) - (b2 - a2) * (c1 - a1) then -((b1 - a1) * (c2 - a2) - (b2 - a2) * (c1 - a1)) else (b1 - a1) * (c2 - a2) - (b2 - a2) * (c1 - a1)) = M.hi (((b1 - a1) * (b1 - a1) + (b2 - a2) * (b2 - a2)) * (s * s))) = false), (false = false), (false = false)]) zk rfl rfl
    ⟨inR_i64 zo zo, inR_i64 zo zo, inR_i64 zo zo, inR_i64 zo zo, inR_i64 zo zo, inR_i64 zo zo, inR_i64 zo zo, inR_i64 zo zo, inR_i64 zo zo, inR_i64 zo zo, zdo, zdf, inR_i64 zo zo, inR_i64 zo zo, inR_i64 zo zo, inR_i64 zo zo, inR_u64 zo zo, inR_u64 zo zo, (rnWide _ _ zo zo), inR_u64 zo zo, inR_i64 zo zo, inR_u64 zo zo, (rnWide _ _ zo zo), zdf, zdf, rfl, rfl, trivial⟩
end Go.Proofs.Ytmelbcmfahcffaa
end
section
namespace Go.Proofs.Ytmelbcmfahcffaa
open Go Go.RowKit Go.Proofs.Ytmelbcmfahcffaa.E2
variable (nm : ByteArray) (gs cs : List Int) (n k : Nat) (T U : Nat) (w g y a b r p q : Int)
def fnw_T (nm : ByteArray) (gs cs : List Int) (n k : Nat) (T U : Nat) (w g y a b r p q : Int) (os ps : List Int) (m c : Nat) (W : Nat) (a1 a2 b1 b2 s : Int) (i : Int) (out : List Int) (t : Nat) : List V := (catV [lwA nm w g y n a b r p q k, .slo 2 m, V.fn (Fn.func 102) [] [.ptr 3 0, .ptr 4 0, .ptr 5 0], .ptr 6 0, uV, uV, V.raw (Value.slice none 0 0), V.slo 9 t, .any 8, .any 9, lwA nm w g y n a b r p q k, .slo 7 c, .slo 2 m, .slo 8 (c + m), iV ((c + m) : Int), iV i] (anyR 16 13 []))
def fnw_H (nm : ByteArray) (gs cs : List Int) (n k : Nat) (T U : Nat) (w g y a b r p q : Int) (os ps : List Int) (m c : Nat) (W : Nat) (a1 a2 b1 b2 s : Int) (i : Int) (out : List Int) (t : Nat) : Heap := [bkG gs T, bkI cs U, bkI os W, some (.cells [iV a1, iV a2] 24 .ro), some (.cells [iV b1, iV b2] 24 .ro), some (.cells [iV s] 2 .ro), bkW nm w g y n a b r p q k, none, some (.cells (ints (ps ++ List.take (m * 3) os)) 26 (.row 3)), some (.cells (ints out) 3 (Own.row 1))]
abbrev zq261 (ps : List Int) (m : Nat) (os : List Int) (i : Int) : List V := [iV (at' (ps ++ List.take (m * 3) os) (i.toNat * 3)), iV (at' (ps ++ List.take (m * 3) os) (i.toNat * 3 + 1)), iV (at' (ps ++ List.take (m * 3) os) (i.toNat * 3 + 2))]
abbrev zq238 (gs : List Int) (T : Nat) (cs : List Int) (U : Nat) (os : List Int) (W : Nat) (a1 : Int) (a2 : Int) (b1 : Int) (b2 : Int) (s : Int) (nm : ByteArray) (w : Int) (g : Int) (y : Int) (n : Nat) (a : Int) (b : Int) (r : Int) (p : Int) (q : Int) (k : Nat) (ps : List Int) (m : Nat) (out : List Int) (i : Int) : Heap := [bkG gs T, bkI cs U, bkI os W, some (.cells [iV a1, iV a2] 24 .ro), some (.cells [iV b1, iV b2] 24 .ro), some (.cells [iV s] 2 .ro), bkW nm w g y n a b r p q k, none, some (.cells (ints (ps ++ List.take (m * 3) os)) 26 (.row 3)), some (.cells (ints out) 3 (.row 1)), some (.cells (zq261 ps m os i) 26 .rw)]
abbrev zq27 (ps : List Int) (m : Nat) (os : List Int) (i : Int) (gs : List Int) (T : Nat) (cs : List Int) (U : Nat) (W : Nat) (a1 : Int) (a2 : Int) (b1 : Int) (b2 : Int) (s : Int) (nm : ByteArray) (w : Int) (g : Int) (y : Int) (n : Nat) (a : Int) (b : Int) (r : Int) (p : Int) (q : Int) (k : Nat) (out : List Int) : Prop := Meets cfx 0 102 [V.raw (.agg { toList := [.int .i64 (at' (ps ++ List.take (m * 3) os) (i.toNat * 3)), .int .i64 (at' (ps ++ List.take (m * 3) os) (i.toNat * 3 + 1)), .int .i64 (at' (ps ++ List.take (m * 3) os) (i.toNat * 3 + 2))] }), .ptr 3 0, .ptr 4 0, .ptr 5 0] (zq238 gs T cs U os W a1 a2 b1 b2 s nm w g y n a b r p q k ps m out i) (V.raw (.bool (M.cutB a1 a2 b1 b2 (at' (ps ++ List.take (m * 3) os) (i.toNat * 3)) (at' (ps ++ List.take (m * 3) os) (i.toNat * 3 + 1)) (at' (ps ++ List.take (m * 3) os) (i.toNat * 3 + 2) + s)))) (zq238 gs T cs U os W a1 a2 b1 b2 s nm w g y n a b r p q k ps m out i)
abbrev zq91 (gs : List Int) (T : Nat) (cs : List Int) (U : Nat) (os : List Int) (W : Nat) (a1 : Int) (a2 : Int) (b1 : Int) (b2 : Int) (s : Int) (nm : ByteArray) (w : Int) (g : Int) (y : Int) (n : Nat) (a : Int) (b : Int) (r : Int) (p : Int) (q : Int) (k : Nat) (ps : List Int) (m : Nat) (out : List Int) (i : Int) : Heap := (zq238 gs T cs U os W a1 a2 b1 b2 s nm w g y n a b r p q k ps m out i)
abbrev zq190 (ps : List Int) (m : Nat) (os : List Int) (i : Int) : List V := (zq261 ps m os i)
abbrev zq199 (nm : ByteArray) (w : Int) (g : Int) (y : Int) (n : Nat) (a : Int) (b : Int) (r : Int) (p : Int) (q : Int) (k : Nat) (gs : List Int) (T : Nat) (cs : List Int) (U : Nat) (c : Nat) (ps : List Int) : Prop := Meets cfx 0 53 [lwA nm w g y n a b r p q k] [bkG gs T, bkI cs U] (.slo 2 c) ([bkG gs T, bkI cs U, some (.cells (ints ps) 26 (.row 3))])
theorem fnw_1 (os ps : List Int) (m c : Nat) (W : Nat) (a1 a2 b1 b2 s : Int) (hpo : (zq199 nm w g y n a b r p q k gs T cs U c ps)) (hzl : ps.length = c * 3) (hz : m * 3 ≤ os.length) (hc : c ≤ 100) (hm : m ≤ 100) (ha : M.In a1 a2) (hb : M.In b1 b2) (hs : -16384 ≤ s ∧ s ≤ 16384) (i : Int) (out : List Int) (t : Nat) (hi1 : 0 ≤ i) (hl : out.length = t) (ht : t ≤ 1000) (hq : i < ↑(c + m) → ((-100000 ≤ at' (ps ++ List.take (m * 3) os) (i.toNat * 3 + 2) ∧ at' (ps ++ List.take (m * 3) os) (i.toNat * 3 + 2) ≤ 100000) ∧ (-100000 ≤ s ∧ s ≤ 100000)) ∧ chkDisc (at' (ps ++ List.take (m * 3) os) (i.toNat * 3)) (at' (ps ++ List.take (m * 3) os) (i.toNat * 3 + 1)) (at' (ps ++ List.take (m * 3) os) (i.toNat * 3 + 2) + s) = 0) (f0 : i < ((c + m) : Int)) (f1 : M.cutB a1 a2 b1 b2 (at' (ps ++ List.take (m * 3) os) (i.toNat * 3)) (at' (ps ++ List.take (m * 3) os) (i.toNat * 3 + 1)) (at' (ps ++ List.take (m * 3) os) (i.toNat * 3 + 2) + s) = true) : Runs cfx 0 9 none (loopOf cfx.P 72 0) (fnw_T nm gs cs n k T U w g y a b r p q os ps m c W a1 a2 b1 b2 s i out t) (fnw_H nm gs cs n k T U w g y a b r p q os ps m c W a1 a2 b1 b2 s i out t) (Ex.normal) (fnw_T nm gs cs n k T U w g y a b r p q os ps m c W a1 a2 b1 b2 s (i + 1) (out ++ [i]) (t + 1)) (fnw_H nm gs cs n k T U w g y a b r p q os ps m c W a1 a2 b1 b2 s (i + 1) (out ++ [i]) (t + 1)) := by
  refine Runs.post (t1 := [lwA nm w g y n a b r p q k, .slo 2 m, V.fn (Fn.func 102) [] [.ptr 3 0, .ptr 4 0, .ptr 5 0], .ptr 6 0, uV, uV, V.raw (Value.slice none 0 0), .slo 12 (t + 1), iV i, .ptr 10 0, lwA nm w g y n a b r p q k, .slo 7 c, .slo 2 m, .slo 8 (c + m), iV ((c + m) : Int), iV (i + 1), V.raw (.bool (decide (i < ((c + m) : Int)))), iV i, V.ptr 8 (i.toNat * 3), V.raw (.agg { toList := [.int .i64 (at' (ps ++ List.take (m * 3) os) (i.toNat * 3)), .int .i64 (at' (ps ++ List.take (m * 3) os) (i.toNat * 3 + 1)), .int .i64 (at' (ps ++ List.take (m * 3) os) (i.toNat * 3 + 2))] }), V.fn (Fn.func 102) [] [.ptr 3 0, .ptr 4 0, .ptr 5 0], V.raw (.agg { toList := [.int .i64 (at' (ps ++ List.take (m * 3) os) (i.toNat * 3)), .int .i64 (at' (ps ++ List.take (m * 3) os) (i.toNat * 3 + 1)), .int .i64 (at' (ps ++ List.take (m * 3) os) (i.toNat * 3 + 2))] }), V.raw (.bool (M.cutB a1 a2 b1 b2 (at' (ps ++ List.take (m * 3) os) (i.toNat * 3)) (at' (ps ++ List.take (m * 3) os) (i.toNat * 3 + 1)) (at' (ps ++ List.take (m * 3) os) (i.toNat * 3 + 2) + s))), .slo 9 t, iV i, .slo 11 1, .slo 12 (t + 1), iV (i + 1), .any 28]) (h1 := [bkG gs T, bkI cs U, bkI os W, some (.cells [iV a1, iV a2] 24 .ro), some (.cells [iV b1, iV b2] 24 .ro), some (.cells [iV s] 2 .ro), bkW nm w g y n a b r p q k, none, some (.cells (ints (ps ++ List.take (m * 3) os)) 26 (.row 3)), none, some (.cells (zq190 ps m os i) 26 .rw), some (.cells [iV i] 3 (.row 1)), some (.cells (ints (out ++ [i])) 3 (.row 1))]) (body_of cfx_mixed cfx_call zz (rnd := none) (fi := 0) (k := 0) (n := 40) (n0 := 9) (ans := [zT, Ans.val 8 (V.raw (.agg { toList := [.int .i64 (at' (ps ++ List.take (m * 3) os) (i.toNat * 3)), .int .i64 (at' (ps ++ List.take (m * 3) os) (i.toNat * 3 + 1)), .int .i64 (at' (ps ++ List.take (m * 3) os) (i.toNat * 3 + 2))] })), Ans.reth (V.raw (.bool (M.cutB a1 a2 b1 b2 (at' (ps ++ List.take (m * 3) os) (i.toNat * 3)) (at' (ps ++ List.take (m * 3) os) (i.toNat * 3 + 1)) (at' (ps ++ List.take (m * 3) os) (i.toNat * 3 + 2) + s)))) (zq91 gs T cs U os W a1 a2 b1 b2 s nm w g y n a b r p q k ps m out i), zT, Ans.cells 12 (ints (out ++ [i]))]) (cons := [(decide (i < ((c + m) : Int)) = true), (0 ≤ i ∧ i < ((c + m) : Int)), (loadRow cfx 26 (ints (ps ++ List.take (m * 3) os)) (i.toNat * 3) = some (V.raw (.agg { toList := [.int .i64 (at' (ps ++ List.take (m * 3) os) (i.toNat * 3)), .int .i64 (at' (ps ++ List.take (m * 3) os) (i.toNat * 3 + 1)), .int .i64 (at' (ps ++ List.take (m * 3) os) (i.toNat * 3 + 2))] }))), ((zq27 ps m os i gs T cs U W a1 a2 b1 b2 s nm w g y n a b r p q k out)), (M.cutB a1 a2 b1 b2 (at' (ps ++ List.take (m * 3) os) (i.toNat * 3)) (at' (ps ++ List.take (m * 3) os) (i.toNat * 3 + 1)) (at' (ps ++ List.take (m * 3) os) (i.toNat * 3 + 2) + s) = true), (1 ≤ 9223372036854775807), (1 * 1 ≤ List.length ([iV i] : List V)), (oneCells (List.take (1 * 1) ([iV i] : List V)) = true), (List.length ((ints out) : List V) = t * 1), (t + 1 ≤ maxLen ∧ (t + 1) * 8 ≤ 140737488355328), (((ints out) : List V) ++ (List.take (1 * 1) ([iV i] : List V)) = (ints (out ++ [i]))), (inR IntKind.i64 (i + 1))]) zk
    ⟨zdo, (by omega), (load_agg 3 (by kernel_rfl) (by kernel_rfl) (Nat.le_of_ble_eq_true rfl) (by first | omega | (simp only [ints_len, putI_length, List.length_append, List.length_replicate, List.length_take, List.length_drop, List.length_cons, List.length_nil]; omega) | (simp only [ints_len, putI_length, List.length_append, List.length_replicate, List.length_take, List.length_drop, List.length_cons, List.length_nil]; done))), (by exact below_ro (lim := 0) (N := []) rfl rfl (fun k => if k = 0 then 3 else if k = 1 then 4 else 5) (fun _ => false) (lnMeets _ _ _ _ _ _ _ _ (hq (by omega)).1 ha hb (hq (by omega)).2) ⟨⟨_, _, rfl, rfl, .inl ⟨rfl, _, rfl⟩⟩, ⟨_, _, rfl, rfl, .inl ⟨rfl, _, rfl⟩⟩, ⟨_, _, rfl, rfl, .inl ⟨rfl, _, rfl⟩⟩, trivial⟩ (fun _ _ => rfl) rfl rfl rfl (fun k X h => by simp at h) (Nat.zero_le _)), zdf, zds, (by first | omega | (simp only [ints_len, putI_length, List.length_append, List.length_replicate, List.length_take, List.length_drop, List.length_cons, List.length_nil]; omega) | (simp only [ints_len, putI_length, List.length_append, List.length_replicate, List.length_take, List.length_drop, List.length_cons, List.length_nil]; done)), (by first | exact ones_take _ _ | rfl), (by first | omega | (simp only [ints_len, putI_length, List.length_append, List.length_replicate, List.length_take, List.length_drop, List.length_cons, List.length_nil]; omega) | (simp only [ints_len, putI_length, List.length_append, List.length_replicate, List.length_take, List.length_drop, List.length_cons, List.length_nil]; done)), (by unfold maxLen; constructor <;> omega), (by first | rfl | exact app_lit _ _ rfl | exact app_row _ _ _ | exact row_row0 _ _ | exact app_row0 _ _), inR_i64 (by omega) (by omega), trivial⟩ (Nat.le_of_ble_eq_true rfl) (Nat.le_of_ble_eq_true rfl) noRnd (noRanges (by kernel_rfl))) (fun RT RH => reshape2 (lim := 0) 9 cfx_G rfl [some 12] (by kernel_rfl) (by kernel_rfl) (by exact (ents_raw (mix_all _ _) rfl rfl (ents_raw (ints_all _) rfl rfl (ents_raw (ints_all _) rfl rfl (ents_say rfl rfl rfl rfl (ents_say rfl rfl rfl rfl (ents_say rfl rfl rfl rfl (ents_say rfl rfl rfl rfl (ents_none (ents_raw (ints_all _) rfl rfl (ents_raw (ints_all _) rfl rfl (ents_nil)))))))))))) RT RH)
theorem fnw_2 (os ps : List Int) (m c : Nat) (W : Nat) (a1 a2 b1 b2 s : Int) (hpo : (zq199 nm w g y n a b r p q k gs T cs U c ps)) (hzl : ps.length = c * 3) (hz : m * 3 ≤ os.length) (hc : c ≤ 100) (hm : m ≤ 100) (ha : M.In a1 a2) (hb : M.In b1 b2) (hs : -16384 ≤ s ∧ s ≤ 16384) (i : Int) (out : List Int) (t : Nat) (hi1 : 0 ≤ i) (hl : out.length = t) (ht : t ≤ 1000) (hq : i < ↑(c + m) → ((-100000 ≤ at' (ps ++ List.take (m * 3) os) (i.toNat * 3 + 2) ∧ at' (ps ++ List.take (m * 3) os) (i.toNat * 3 + 2) ≤ 100000) ∧ (-100000 ≤ s ∧ s ≤ 100000)) ∧ chkDisc (at' (ps ++ List.take (m * 3) os) (i.toNat * 3)) (at' (ps ++ List.take (m * 3) os) (i.toNat * 3 + 1)) (at' (ps ++ List.take (m * 3) os) (i.toNat * 3 + 2) + s) = 0) (f0 : i < ((c + m) : Int)) (f1 : M.cutB a1 a2 b1 b2 (at' (ps ++ List.take (m * 3) os) (i.toNat * 3)) (at' (ps ++ List.take (m * 3) os) (i.toNat * 3 + 1)) (at' (ps ++ List.take (m * 3) os) (i.toNat * 3 + 2) + s) = false) : Runs cfx 0 9 none (loopOf cfx.P 72 0) (fnw_T nm gs cs n k T U w g y a b r p q os ps m c W a1 a2 b1 b2 s i out t) (fnw_H nm gs cs n k T U w g y a b r p q os ps m c W a1 a2 b1 b2 s i out t) (Ex.normal) (fnw_T nm gs cs n k T U w g y a b r p q os ps m c W a1 a2 b1 b2 s (i + 1) out t) (fnw_H nm gs cs n k T U w g y a b r p q os ps m c W a1 a2 b1 b2 s (i + 1) out t) := by
  refine Runs.post (t1 := [lwA nm w g y n a b r p q k, .slo 2 m, V.fn (Fn.func 102) [] [.ptr 3 0, .ptr 4 0, .ptr 5 0], .ptr 6 0, uV, uV, V.raw (Value.slice none 0 0), .slo 9 t, iV i, .ptr 10 0, lwA nm w g y n a b r p q k, .slo 7 c, .slo 2 m, .slo 8 (c + m), iV ((c + m) : Int), iV (i + 1), V.raw (.bool (decide (i < ((c + m) : Int)))), iV i, V.ptr 8 (i.toNat * 3), V.raw (.agg { toList := [.int .i64 (at' (ps ++ List.take (m * 3) os) (i.toNat * 3)), .int .i64 (at' (ps ++ List.take (m * 3) os) (i.toNat * 3 + 1)), .int .i64 (at' (ps ++ List.take (m * 3) os) (i.toNat * 3 + 2))] }), V.fn (Fn.func 102) [] [.ptr 3 0, .ptr 4 0, .ptr 5 0], V.raw (.agg { toList := [.int .i64 (at' (ps ++ List.take (m * 3) os) (i.toNat * 3)), .int .i64 (at' (ps ++ List.take (m * 3) os) (i.toNat * 3 + 1)), .int .i64 (at' (ps ++ List.take (m * 3) os) (i.toNat * 3 + 2))] }), V.raw (.bool (M.cutB a1 a2 b1 b2 (at' (ps ++ List.take (m * 3) os) (i.toNat * 3)) (at' (ps ++ List.take (m * 3) os) (i.toNat * 3 + 1)) (at' (ps ++ List.take (m * 3) os) (i.toNat * 3 + 2) + s))), .any 23, .any 24, .any 25, .any 26, iV (i + 1), .any 28]) (h1 := (zq91 gs T cs U os W a1 a2 b1 b2 s nm w g y n a b r p q k ps m out i)) (body_of cfx_mixed cfx_call zz (rnd := none) (fi := 0) (k := 0) (n := 40) (n0 := 9) (ans := [zT, Ans.val 8 (V.raw (.agg { toList := [.int .i64 (at' (ps ++ List.take (m * 3) os) (i.toNat * 3)), .int .i64 (at' (ps ++ List.take (m * 3) os) (i.toNat * 3 + 1)), .int .i64 (at' (ps ++ List.take (m * 3) os) (i.toNat * 3 + 2))] })), Ans.reth (V.raw (.bool (M.cutB a1 a2 b1 b2 (at' (ps ++ List.take (m * 3) os) (i.toNat * 3)) (at' (ps ++ List.take (m * 3) os) (i.toNat * 3 + 1)) (at' (ps ++ List.take (m * 3) os) (i.toNat * 3 + 2) + s)))) (zq91 gs T cs U os W a1 a2 b1 b2 s nm w g y n a b r p q k ps m out i), zF]) (cons := [(decide (i < ((c + m) : Int)) = true), (0 ≤ i ∧ i < ((c + m) : Int)), (loadRow cfx 26 (ints (ps ++ List.take (m * 3) os)) (i.toNat * 3) = some (V.raw (.agg { toList := [.int .i64 (at' (ps ++ List.take (m * 3) os) (i.toNat * 3)), .int .i64 (at' (ps ++ List.take (m * 3) os) (i.toNat * 3 + 1)), .int .i64 (at' (ps ++ List.take (m * 3) os) (i.toNat * 3 + 2))] }))), ((zq27 ps m os i gs T cs U W a1 a2 b1 b2 s nm w g y n a b r p q k out)), (M.cutB a1 a2 b1 b2 (at' (ps ++ List.take (m * 3) os) (i.toNat * 3)) (at' (ps ++ List.take (m * 3) os) (i.toNat * 3 + 1)) (at' (ps ++ List.take (m * 3) os) (i.toNat * 3 + 2) + s) = false), (inR IntKind.i64 (i + 1))]) zk
    ⟨zdo, (by omega), (load_agg 3 (by kernel_rfl) (by kernel_rfl) (Nat.le_of_ble_eq_true rfl) (by first | omega | (simp only [ints_len, putI_length, List.length_append, List.length_replicate, List.length_take, List.length_drop, List.length_cons, List.length_nil]; omega) | (simp only [ints_len, putI_length, List.length_append, List.length_replicate, List.length_take, List.length_drop, List.length_cons, List.length_nil]; done))), (by exact below_ro (lim := 0) (N := []) rfl rfl (fun k => if k = 0 then 3 else if k = 1 then 4 else 5) (fun _ => false) (lnMeets _ _ _ _ _ _ _ _ (hq (by omega)).1 ha hb (hq (by omega)).2) ⟨⟨_, _, rfl, rfl, .inl ⟨rfl, _, rfl⟩⟩, ⟨_, _, rfl, rfl, .inl ⟨rfl, _, rfl⟩⟩, ⟨_, _, rfl, rfl, .inl ⟨rfl, _, rfl⟩⟩, trivial⟩ (fun _ _ => rfl) rfl rfl rfl (fun k X h => by simp at h) (Nat.zero_le _)), zdf, inR_i64 (by omega) (by omega), trivial⟩ (Nat.le_of_ble_eq_true rfl) (Nat.le_of_ble_eq_true rfl) noRnd (noRanges (by kernel_rfl))) (fun RT RH => reshape2 (lim := 0) 9 cfx_G rfl [some 9] (by kernel_rfl) (by kernel_rfl) (by exact (ents_raw (mix_all _ _) rfl rfl (ents_raw (ints_all _) rfl rfl (ents_raw (ints_all _) rfl rfl (ents_say rfl rfl rfl rfl (ents_say rfl rfl rfl rfl (ents_say rfl rfl rfl rfl (ents_say rfl rfl rfl rfl (ents_none (ents_raw (ints_all _) rfl rfl (ents_raw (ints_all _) rfl rfl (ents_nil)))))))))))) RT RH)
def fnw_T3 (nm : ByteArray) (gs cs : List Int) (n k : Nat) (T U : Nat) (w g y a b r p q : Int) (os ps : List Int) (m c : Nat) (W : Nat) (a1 a2 b1 b2 s : Int) (i : Int) (out : List Int) (t : Nat) : List V := (catV [lwA nm w g y n a b r p q k, .slo 2 m, V.fn (Fn.func 102) [] [.ptr 3 0, .ptr 4 0, .ptr 5 0], .ptr 6 0, uV, uV, V.raw (Value.slice none 0 0), .slo 9 t, .any 8, .any 9, lwA nm w g y n a b r p q k, .slo 7 c, .slo 2 m, .slo 8 (c + m), iV ((c + m) : Int), iV i] (anyR 16 13 []))
def fnw_H3 (nm : ByteArray) (gs cs : List Int) (n k : Nat) (T U : Nat) (w g y a b r p q : Int) (os ps : List Int) (m c : Nat) (W : Nat) (a1 a2 b1 b2 s : Int) (i : Int) (out : List Int) (t : Nat) : Heap := [bkG gs T, bkI cs U, bkI os W, some (.cells [iV a1, iV a2] 24 .ro), some (.cells [iV b1, iV b2] 24 .ro), some (.cells [iV s] 2 .ro), bkW nm w g y n a b r p q k, none, some (.cells (ints (ps ++ List.take (m * 3) os)) 26 (.row 3)), some (.cells (ints out) 3 (.row 1))]
theorem fnw_3 (os ps : List Int) (m c : Nat) (W : Nat) (a1 a2 b1 b2 s : Int) (hpo : (zq199 nm w g y n a b r p q k gs T cs U c ps)) (hzl : ps.length = c * 3) (hz : m * 3 ≤ os.length) (hc : c ≤ 100) (hm : m ≤ 100) (ha : M.In a1 a2) (hb : M.In b1 b2) (hs : -16384 ≤ s ∧ s ≤ 16384) (i : Int) (out : List Int) (t : Nat) (hi1 : 0 ≤ i) (hl : out.length = t) (ht : t ≤ 1000) (hq : i < ↑(c + m) → ((-100000 ≤ at' (ps ++ List.take (m * 3) os) (i.toNat * 3 + 2) ∧ at' (ps ++ List.take (m * 3) os) (i.toNat * 3 + 2) ≤ 100000) ∧ (-100000 ≤ s ∧ s ≤ 100000)) ∧ chkDisc (at' (ps ++ List.take (m * 3) os) (i.toNat * 3)) (at' (ps ++ List.take (m * 3) os) (i.toNat * 3 + 1)) (at' (ps ++ List.take (m * 3) os) (i.toNat * 3 + 2) + s) = 0) (f0 : ¬i < ((c + m) : Int)) : Runs cfx 0 9 none (loopOf cfx.P 72 0) (fnw_T nm gs cs n k T U w g y a b r p q os ps m c W a1 a2 b1 b2 s i out t) (fnw_H nm gs cs n k T U w g y a b r p q os ps m c W a1 a2 b1 b2 s i out t) (Ex.exit 0) (fnw_T3 nm gs cs n k T U w g y a b r p q os ps m c W a1 a2 b1 b2 s i out t) (fnw_H3 nm gs cs n k T U w g y a b r p q os ps m c W a1 a2 b1 b2 s i out t) := by
  refine Runs.post (t1 := (catV [lwA nm w g y n a b r p q k, .slo 2 m, V.fn (Fn.func 102) [] [.ptr 3 0, .ptr 4 0, .ptr 5 0], .ptr 6 0, uV, uV, V.raw (Value.slice none 0 0), .slo 9 t, .any 8, .any 9, lwA nm w g y n a b r p q k, .slo 7 c, .slo 2 m, .slo 8 (c + m), iV ((c + m) : Int), iV i, V.raw (.bool (decide (i < ((c + m) : Int))))] (anyR 17 12 []))) (h1 := [bkG gs T, bkI cs U, bkI os W, some (.cells [iV a1, iV a2] 24 .ro), some (.cells [iV b1, iV b2] 24 .ro), some (.cells [iV s] 2 .ro), bkW nm w g y n a b r p q k, none, some (.cells (ints (ps ++ List.take (m * 3) os)) 26 (.row 3)), some (.cells (ints out) 3 (.row 1))]) (body_of cfx_mixed cfx_call zz (rnd := none) (fi := 0) (k := 0) (n := 40) (n0 := 9) (ans := [zF]) (cons := [(decide (i < ((c + m) : Int)) = false)]) zk
    ⟨zdo, trivial⟩ zb zb noRnd (noRanges zk)) (fun RT RH => reshape2 (lim := 0) 9 cfx_G rfl [some 9] zk zk (by exact (ents_raw (mix_all _ _) rfl rfl (ents_raw (ints_all _) rfl rfl (ents_raw (ints_all _) rfl rfl (ents_say rfl rfl rfl rfl (ents_say rfl rfl rfl rfl (ents_say rfl rfl rfl rfl (ents_say rfl rfl rfl rfl (ents_none (ents_raw (ints_all _) rfl rfl (ents_raw (ints_all _) rfl rfl (ents_nil)))))))))))) RT RH)
def fnt_T (nm : ByteArray) (gs cs : List Int) (n k : Nat) (T U : Nat) (w g y a b r p q : Int) (os ps : List Int) (m c : Nat) (W : Nat) (u v s : Int) (i : Int) (out : List Int) (t : Nat) : List V := (catV [lwA nm w g y n a b r p q k, .slo 2 m, V.fn (Fn.func 106) [] [.ptr 3 0], .ptr 4 0, uV, uV, V.raw (Value.slice none 0 0), V.slo 7 t, .any 8, .any 9, lwA nm w g y n a b r p q k, .slo 5 c, .slo 2 m, .slo 6 (c + m), iV ((c + m) : Int), iV i] (anyR 16 13 []))
def fnt_H (nm : ByteArray) (gs cs : List Int) (n k : Nat) (T U : Nat) (w g y a b r p q : Int) (os ps : List Int) (m c : Nat) (W : Nat) (u v s : Int) (i : Int) (out : List Int) (t : Nat) : Heap := [bkG gs T, bkI cs U, bkI os W, some (.cells [iV u, iV v, iV s] 26 .ro), bkW nm w g y n a b r p q k, none, some (.cells (ints (ps ++ List.take (m * 3) os)) 26 (.row 3)), some (.cells (ints out) 3 (Own.row 1))]
abbrev zq240 (gs : List Int) (T : Nat) (cs : List Int) (U : Nat) (os : List Int) (W : Nat) (u : Int) (v : Int) (s : Int) (nm : ByteArray) (w : Int) (g : Int) (y : Int) (n : Nat) (a : Int) (b : Int) (r : Int) (p : Int) (q : Int) (k : Nat) (ps : List Int) (m : Nat) (out : List Int) (i : Int) : Heap := [bkG gs T, bkI cs U, bkI os W, some (.cells [iV u, iV v, iV s] 26 .ro), bkW nm w g y n a b r p q k, none, some (.cells (ints (ps ++ List.take (m * 3) os)) 26 (.row 3)), some (.cells (ints out) 3 (.row 1)), some (.cells (zq261 ps m os i) 26 .rw)]
abbrev zq30 (ps : List Int) (m : Nat) (os : List Int) (i : Int) (gs : List Int) (T : Nat) (cs : List Int) (U : Nat) (W : Nat) (u : Int) (v : Int) (s : Int) (nm : ByteArray) (w : Int) (g : Int) (y : Int) (n : Nat) (a : Int) (b : Int) (r : Int) (p : Int) (q : Int) (k : Nat) (out : List Int) : Prop := Meets cfx 0 106 [V.raw (.agg { toList := [.int .i64 (at' (ps ++ List.take (m * 3) os) (i.toNat * 3)), .int .i64 (at' (ps ++ List.take (m * 3) os) (i.toNat * 3 + 1)), .int .i64 (at' (ps ++ List.take (m * 3) os) (i.toNat * 3 + 2))] }), .ptr 3 0] (zq240 gs T cs U os W u v s nm w g y n a b r p q k ps m out i) (V.raw (.bool (M.overB u v s (at' (ps ++ List.take (m * 3) os) (i.toNat * 3)) (at' (ps ++ List.take (m * 3) os) (i.toNat * 3 + 1)) (at' (ps ++ List.take (m * 3) os) (i.toNat * 3 + 2))))) (zq240 gs T cs U os W u v s nm w g y n a b r p q k ps m out i)
abbrev zq100 (gs : List Int) (T : Nat) (cs : List Int) (U : Nat) (os : List Int) (W : Nat) (u : Int) (v : Int) (s : Int) (nm : ByteArray) (w : Int) (g : Int) (y : Int) (n : Nat) (a : Int) (b : Int) (r : Int) (p : Int) (q : Int) (k : Nat) (ps : List Int) (m : Nat) (out : List Int) (i : Int) : Heap := (zq240 gs T cs U os W u v s nm w g y n a b r p q k ps m out i)
theorem fnt_1 (os ps : List Int) (m c : Nat) (W : Nat) (u v s : Int) (hpo : (zq199 nm w g y n a b r p q k gs T cs U c ps)) (hzl : ps.length = c * 3) (hz : m * 3 ≤ os.length) (hc : c ≤ 100) (hm : m ≤ 100) (hd : chkDisc u v s = 0) (i : Int) (out : List Int) (t : Nat) (hi1 : 0 ≤ i) (hl : out.length = t) (ht : t ≤ 1000) (hq : i < ↑(c + m) → chkDisc (at' (ps ++ List.take (m * 3) os) (i.toNat * 3)) (at' (ps ++ List.take (m * 3) os) (i.toNat * 3 + 1)) (at' (ps ++ List.take (m * 3) os) (i.toNat * 3 + 2)) = 0) (f0 : i < ((c + m) : Int)) (f1 : M.overB u v s (at' (ps ++ List.take (m * 3) os) (i.toNat * 3)) (at' (ps ++ List.take (m * 3) os) (i.toNat * 3 + 1)) (at' (ps ++ List.take (m * 3) os) (i.toNat * 3 + 2)) = true) : Runs cfx 0 7 none (loopOf cfx.P 72 0) (fnt_T nm gs cs n k T U w g y a b r p q os ps m c W u v s i out t) (fnt_H nm gs cs n k T U w g y a b r p q os ps m c W u v s i out t) (Ex.normal) (fnt_T nm gs cs n k T U w g y a b r p q os ps m c W u v s (i + 1) (out ++ [i]) (t + 1)) (fnt_H nm gs cs n k T U w g y a b r p q os ps m c W u v s (i + 1) (out ++ [i]) (t + 1)) := by
  refine Runs.post (t1 := [lwA nm w g y n a b r p q k, .slo 2 m, V.fn (Fn.func 106) [] [.ptr 3 0], .ptr 4 0, uV, uV, V.raw (Value.slice none 0 0), .slo 10 (t + 1), iV i, .ptr 8 0, lwA nm w g y n a b r p q k, .slo 5 c, .slo 2 m, .slo 6 (c + m), iV ((c + m) : Int), iV (i + 1), V.raw (.bool (decide (i < ((c + m) : Int)))), iV i, V.ptr 6 (i.toNat * 3), V.raw (.agg { toList := [.int .i64 (at' (ps ++ List.take (m * 3) os) (i.toNat * 3)), .int .i64 (at' (ps ++ List.take (m * 3) os) (i.toNat * 3 + 1)), .int .i64 (at' (ps ++ List.take (m * 3) os) (i.toNat * 3 + 2))] }), V.fn (Fn.func 106) [] [.ptr 3 0], V.raw (.agg { toList := [.int .i64 (at' (ps ++ List.take (m * 3) os) (i.toNat * 3)), .int .i64 (at' (ps ++ List.take (m * 3) os) (i.toNat * 3 + 1)), .int .i64 (at' (ps ++ List.take (m * 3) os) (i.toNat * 3 + 2))] }), V.raw (.bool (M.overB u v s (at' (ps ++ List.take (m * 3) os) (i.toNat * 3)) (at' (ps ++ List.take (m * 3) os) (i.toNat * 3 + 1)) (at' (ps ++ List.take (m * 3) os) (i.toNat * 3 + 2)))), .slo 7 t, iV i, .slo 9 1, .slo 10 (t + 1), iV (i + 1), .any 28]) (h1 := [bkG gs T, bkI cs U, bkI os W, some (.cells [iV u, iV v, iV s] 26 .ro), bkW nm w g y n a b r p q k, none, some (.cells (ints (ps ++ List.take (m * 3) os)) 26 (.row 3)), none, some (.cells (zq190 ps m os i) 26 .rw), some (.cells [iV i] 3 (.row 1)), some (.cells (ints (out ++ [i])) 3 (.row 1))]) (body_of cfx_mixed cfx_call zz (rnd := none) (fi := 0) (k := 0) (n := 40) (n0 := 7) (ans := [zT, Ans.val 6 (V.raw (.agg { toList := [.int .i64 (at' (ps ++ List.take (m * 3) os) (i.toNat * 3)), .int .i64 (at' (ps ++ List.take (m * 3) os) (i.toNat * 3 + 1)), .int .i64 (at' (ps ++ List.take (m * 3) os) (i.toNat * 3 + 2))] })), Ans.reth (V.raw (.bool (M.overB u v s (at' (ps ++ List.take (m * 3) os) (i.toNat * 3)) (at' (ps ++ List.take (m * 3) os) (i.toNat * 3 + 1)) (at' (ps ++ List.take (m * 3) os) (i.toNat * 3 + 2))))) (zq100 gs T cs U os W u v s nm w g y n a b r p q k ps m out i), zT, Ans.cells 10 (ints (out ++ [i]))]) (cons := [(decide (i < ((c + m) : Int)) = true), (0 ≤ i ∧ i < ((c + m) : Int)), (loadRow cfx 26 (ints (ps ++ List.take (m * 3) os)) (i.toNat * 3) = some (V.raw (.agg { toList := [.int .i64 (at' (ps ++ List.take (m * 3) os) (i.toNat * 3)), .int .i64 (at' (ps ++ List.take (m * 3) os) (i.toNat * 3 + 1)), .int .i64 (at' (ps ++ List.take (m * 3) os) (i.toNat * 3 + 2))] }))), ((zq30 ps m os i gs T cs U W u v s nm w g y n a b r p q k out)), (M.overB u v s (at' (ps ++ List.take (m * 3) os) (i.toNat * 3)) (at' (ps ++ List.take (m * 3) os) (i.toNat * 3 + 1)) (at' (ps ++ List.take (m * 3) os) (i.toNat * 3 + 2)) = true), (1 ≤ 9223372036854775807), (1 * 1 ≤ List.length ([iV i] : List V)), (oneCells (List.take (1 * 1) ([iV i] : List V)) = true), (List.length ((ints out) : List V) = t * 1), (t + 1 ≤ maxLen ∧ (t + 1) * 8 ≤ 140737488355328), (((ints out) : List V) ++ (List.take (1 * 1) ([iV i] : List V)) = (ints (out ++ [i]))), (inR IntKind.i64 (i + 1))]) zk
    ⟨zdo, (by omega), (load_agg 3 (by kernel_rfl) (by kernel_rfl) (Nat.le_of_ble_eq_true rfl) (by first | omega | (simp only [ints_len, putI_length, List.length_append, List.length_replicate, List.length_take, List.length_drop, List.length_cons, List.length_nil]; omega) | (simp only [ints_len, putI_length, List.length_append, List.length_replicate, List.length_take, List.length_drop, List.length_cons, List.length_nil]; done))), (by exact below_ro (lim := 0) (N := []) rfl rfl (fun k => 3) (fun _ => false) (lnTouches _ _ _ _ _ _ hd (hq (by omega))) ⟨⟨_, _, rfl, rfl, .inl ⟨rfl, _, rfl⟩⟩, trivial⟩ (fun _ _ => rfl) rfl rfl rfl (fun k X h => by simp at h) (Nat.zero_le _)), zdf, zds, (by first | omega | (simp only [ints_len, putI_length, List.length_append, List.length_replicate, List.length_take, List.length_drop, List.length_cons, List.length_nil]; omega) | (simp only [ints_len, putI_length, List.length_append, List.length_replicate, List.length_take, List.length_drop, List.length_cons, List.length_nil]; done)), (by first | exact ones_take _ _ | rfl), (by first | omega | (simp only [ints_len, putI_length, List.length_append, List.length_replicate, List.length_take, List.length_drop, List.length_cons, List.length_nil]; omega) | (simp only [ints_len, putI_length, List.length_append, List.length_replicate, List.length_take, List.length_drop, List.length_cons, List.length_nil]; done)), (by unfold maxLen; constructor <;> omega), (by first | rfl | exact app_lit _ _ rfl | exact app_row _ _ _ | exact row_row0 _ _ | exact app_row0 _ _), inR_i64 (by omega) (by omega), trivial⟩ (Nat.le_of_ble_eq_true rfl) (Nat.le_of_ble_eq_true rfl) noRnd (noRanges (by kernel_rfl))) (fun RT RH => reshape2 (lim := 0) 7 cfx_G rfl [some 10] (by kernel_rfl) (by kernel_rfl) (by exact (ents_raw (mix_all _ _) rfl rfl (ents_raw (ints_all _) rfl rfl (ents_raw (ints_all _) rfl rfl (ents_say rfl rfl rfl rfl (ents_say rfl rfl rfl rfl (ents_none (ents_raw (ints_all _) rfl rfl (ents_raw (ints_all _) rfl rfl (ents_nil)))))))))) RT RH)
theorem fnt_2 (os ps : List Int) (m c : Nat) (W : Nat) (u v s : Int) (hpo : (zq199 nm w g y n a b r p q k gs T cs U c ps)) (hzl : ps.length = c * 3) (hz : m * 3 ≤ os.length) (hc : c ≤ 100) (hm : m ≤ 100) (hd : chkDisc u v s = 0) (i : Int) (out : List Int) (t : Nat) (hi1 : 0 ≤ i) (hl : out.length = t) (ht : t ≤ 1000) (hq : i < ↑(c + m) → chkDisc (at' (ps ++ List.take (m * 3) os) (i.toNat * 3)) (at' (ps ++ List.take (m * 3) os) (i.toNat * 3 + 1)) (at' (ps ++ List.take (m * 3) os) (i.toNat * 3 + 2)) = 0) (f0 : i < ((c + m) : Int)) (f1 : M.overB u v s (at' (ps ++ List.take (m * 3) os) (i.toNat * 3)) (at' (ps ++ List.take (m * 3) os) (i.toNat * 3 + 1)) (at' (ps ++ List.take (m * 3) os) (i.toNat * 3 + 2)) = false) : Runs cfx 0 7 none (loopOf cfx.P 72 0) (fnt_T nm gs cs n k T U w g y a b r p q os ps m c W u v s i out t) (fnt_H nm gs cs n k T U w g y a b r p q os ps m c W u v s i out t) (Ex.normal) (fnt_T nm gs cs n k T U w g y a b r p q os ps m c W u v s (i + 1) out t) (fnt_H nm gs cs n k T U w g y a b r p q os ps m c W u v s (i + 1) out t) := by
  refine Runs.post (t1 := [lwA nm w g y n a b r p q k, .slo 2 m, V.fn (Fn.func 106) [] [.ptr 3 0], .ptr 4 0, uV, uV, V.raw (Value.slice none 0 0), .slo 7 t, iV i, .ptr 8 0, lwA nm w g y n a b r p q k, .slo 5 c, .slo 2 m, .slo 6 (c + m), iV ((c + m) : Int), iV (i + 1), V.raw (.bool (decide (i < ((c + m) : Int)))), iV i, V.ptr 6 (i.toNat * 3), V.raw (.agg { toList := [.int .i64 (at' (ps ++ List.take (m * 3) os) (i.toNat * 3)), .int .i64 (at' (ps ++ List.take (m * 3) os) (i.toNat * 3 + 1)), .int .i64 (at' (ps ++ List.take (m * 3) os) (i.toNat * 3 + 2))] }), V.fn (Fn.func 106) [] [.ptr 3 0], V.raw (.agg { toList := [.int .i64 (at' (ps ++ List.take (m * 3) os) (i.toNat * 3)), .int .i64 (at' (ps ++ List.take (m * 3) os) (i.toNat * 3 + 1)), .int .i64 (at' (ps ++ List.take (m * 3) os) (i.toNat * 3 + 2))] }), V.raw (.bool (M.overB u v s (at' (ps ++ List.take (m * 3) os) (i.toNat * 3)) (at' (ps ++ List.take (m * 3) os) (i.toNat * 3 + 1)) (at' (ps ++ List.take (m * 3) os) (i.toNat * 3 + 2)))), .any 23, .any 24, .any 25, .any 26, iV (i + 1), .any 28]) (h1 := (zq100 gs T cs U os W u v s nm w g y n a b r p q k ps m out i)) (body_of cfx_mixed cfx_call zz (rnd := none) (fi := 0) (k := 0) (n := 40) (n0 := 7) (ans := [zT, Ans.val 6 (V.raw (.agg { toList := [.int .i64 (at' (ps ++ List.take (m * 3) os) (i.toNat * 3)), .int .i64 (at' (ps ++ List.take (m * 3) os) (i.toNat * 3 + 1)), .int .i64 (at' (ps ++ List.take (m * 3) os) (i.toNat * 3 + 2))] })), Ans.reth (V.raw (.bool (M.overB u v s (at' (ps ++ List.take (m * 3) os) (i.toNat * 3)) (at' (ps ++ List.take (m * 3) os) (i.toNat * 3 + 1)) (at' (ps ++ List.take (m * 3) os) (i.toNat * 3 + 2))))) (zq100 gs T cs U os W u v s nm w g y n a b r p q k ps m out i), zF]) (cons := [(decide (i < ((c + m) : Int)) = true), (0 ≤ i ∧ i < ((c + m) : Int)), (loadRow cfx 26 (ints (ps ++ List.take (m * 3) os)) (i.toNat * 3) = some (V.raw (.agg { toList := [.int .i64 (at' (ps ++ List.take (m * 3) os) (i.toNat * 3)), .int .i64 (at' (ps ++ List.take (m * 3) os) (i.toNat * 3 + 1)), .int .i64 (at' (ps ++ List.take (m * 3) os) (i.toNat * 3 + 2))] }))), ((zq30 ps m os i gs T cs U W u v s nm w g y n a b r p q k out)), (M.overB u v s (at' (ps ++ List.take (m * 3) os) (i.toNat * 3)) (at' (ps ++ List.take (m * 3) os) (i.toNat * 3 + 1)) (at' (ps ++ List.take (m * 3) os) (i.toNat * 3 + 2)) = false), (inR IntKind.i64 (i + 1))]) zk
    ⟨zdo, (by omega), (load_agg 3 (by kernel_rfl) (by kernel_rfl) (Nat.le_of_ble_eq_true rfl) (by first | omega | (simp only [ints_len, putI_length, List.length_append, List.length_replicate, List.length_take, List.length_drop, List.length_cons, List.length_nil]; omega) | (simp only [ints_len, putI_length, List.length_append, List.length_replicate, List.length_take, List.length_drop, List.length_cons, List.length_nil]; done))), (by exact below_ro (lim := 0) (N := []) rfl rfl (fun k => 3) (fun _ => false) (lnTouches _ _ _ _ _ _ hd (hq (by omega))) ⟨⟨_, _, rfl, rfl, .inl ⟨rfl, _, rfl⟩⟩, trivial⟩ (fun _ _ => rfl) rfl rfl rfl (fun k X h => by simp at h) (Nat.zero_le _)), zdf, inR_i64 (by omega) (by omega), trivial⟩ (Nat.le_of_ble_eq_true rfl) (Nat.le_of_ble_eq_true rfl) noRnd (noRanges (by kernel_rfl))) (fun RT RH => reshape2 (lim := 0) 7 cfx_G rfl [some 7] (by kernel_rfl) (by kernel_rfl) (by exact (ents_raw (mix_all _ _) rfl rfl (ents_raw (ints_all _) rfl rfl (ents_raw (ints_all _) rfl rfl (ents_say rfl rfl rfl rfl (ents_say rfl rfl rfl rfl (ents_none (ents_raw (ints_all _) rfl rfl (ents_raw (ints_all _) rfl rfl (ents_nil)))))))))) RT RH)
def fnt_T3 (nm : ByteArray) (gs cs : List Int) (n k : Nat) (T U : Nat) (w g y a b r p q : Int) (os ps : List Int) (m c : Nat) (W : Nat) (u v s : Int) (i : Int) (out : List Int) (t : Nat) : List V := (catV [lwA nm w g y n a b r p q k, .slo 2 m, V.fn (Fn.func 106) [] [.ptr 3 0], .ptr 4 0, uV, uV, V.raw (Value.slice none 0 0), .slo 7 t, .any 8, .any 9, lwA nm w g y n a b r p q k, .slo 5 c, .slo 2 m, .slo 6 (c + m), iV ((c + m) : Int), iV i] (anyR 16 13 []))
def fnt_H3 (nm : ByteArray) (gs cs : List Int) (n k : Nat) (T U : Nat) (w g y a b r p q : Int) (os ps : List Int) (m c : Nat) (W : Nat) (u v s : Int) (i : Int) (out : List Int) (t : Nat) : Heap := [bkG gs T, bkI cs U, bkI os W, some (.cells [iV u, iV v, iV s] 26 .ro), bkW nm w g y n a b r p q k, none, some (.cells (ints (ps ++ List.take (m * 3) os)) 26 (.row 3)), some (.cells (ints out) 3 (.row 1))]
theorem fnt_3 (os ps : List Int) (m c : Nat) (W : Nat) (u v s : Int) (hpo : (zq199 nm w g y n a b r p q k gs T cs U c ps)) (hzl : ps.length = c * 3) (hz : m * 3 ≤ os.length) (hc : c ≤ 100) (hm : m ≤ 100) (hd : chkDisc u v s = 0) (i : Int) (out : List Int) (t : Nat) (hi1 : 0 ≤ i) (hl : out.length = t) (ht : t ≤ 1000) (hq : i < ↑(c + m) → chkDisc (at' (ps ++ List.take (m * 3) os) (i.toNat * 3)) (at' (ps ++ List.take (m * 3) os) (i.toNat * 3 + 1)) (at' (ps ++ List.take (m * 3) os) (i.toNat * 3 + 2)) = 0) (f0 : ¬i < ((c + m) : Int)) : Runs cfx 0 7 none (loopOf cfx.P 72 0) (fnt_T nm gs cs n k T U w g y a b r p q os ps m c W u v s i out t) (fnt_H nm gs cs n k T U w g y a b r p q os ps m c W u v s i out t) (Ex.exit 0) (fnt_T3 nm gs cs n k T U w g y a b r p q os ps m c W u v s i out t) (fnt_H3 nm gs cs n k T U w g y a b r p q os ps m c W u v s i out t) := by
  refine Runs.post (t1 := (catV [lwA nm w g y n a b r p q k, .slo 2 m, V.fn (Fn.func 106) [] [.ptr 3 0], .ptr 4 0, uV, uV, V.raw (Value.slice none 0 0), .slo 7 t, .any 8, .any 9, lwA nm w g y n a b r p q k, .slo 5 c, .slo 2 m, .slo 6 (c + m), iV ((c + m) : Int), iV i, V.raw (.bool (decide (i < ((c + m) : Int))))] (anyR 17 12 []))) (h1 := [bkG gs T, bkI cs U, bkI os W, some (.cells [iV u, iV v, iV s] 26 .ro), bkW nm w g y n a b r p q k, none, some (.cells (ints (ps ++ List.take (m * 3) os)) 26 (.row 3)), some (.cells (ints out) 3 (.row 1))]) (body_of cfx_mixed cfx_call zz (rnd := none) (fi := 0) (k := 0) (n := 40) (n0 := 7) (ans := [zF]) (cons := [(decide (i < ((c + m) : Int)) = false)]) zk
    ⟨zdo, trivial⟩ zb zb noRnd (noRanges zk)) (fun RT RH => reshape2 (lim := 0) 7 cfx_G rfl [some 7] zk zk (by exact (ents_raw (mix_all _ _) rfl rfl (ents_raw (ints_all _) rfl rfl (ents_raw (ints_all _) rfl rfl (ents_say rfl rfl rfl rfl (ents_say rfl rfl rfl rfl (ents_none (ents_raw (ints_all _) rfl rfl (ents_raw (ints_all _) rfl rfl (ents_nil)))))))))) RT RH)
end Go.Proofs.Ytmelbcmfahcffaa
end
