/-
  The law on a region that draws its order (Grow), every machine on the way fenced.
-/
import Derived.Test.YtfcjdmpfoogljaaDoorGrow
import Derived.OrdersIn
set_option linter.unusedVariables false
set_option linter.unusedSimpArgs false
namespace Go.Proofs.YtfcjdmpfoogljaaDoor.R
open Go Go.RowKit

section
variable {F : Fence} {n : Nat} {P : Program} {Q : Exit → Act → World → Prop} {ops : Array Oper} {its : List Item} {a0 : Act} {w0 w : World} {β : Nat → Nat} {listed : Array Bool} {a : Act}

def StepOkIn (F : Fence) (n : Nat) (P : Program) (Q : Exit → Act → World → Prop) (ops : Array Oper) (its : List Item) (a0 : Act) (w0 : World) (i : Nat) (o : Oper) : Item → Prop
  | .val v => ∀ (a : Act) (w : World) (K : Act → World → Prop), Env ops its a0 o a → Kept (isOld ops its i) w0 w → (∀ w', Below w.heap.size w w' → K (a.put o.dst v) w') → o.wpIn F n P a w K Q
  | .new T z => ∀ (a : Act) (w : World) (K : Act → World → Prop), K (a.put o.dst (.pointer (some ⟨w.heap.size, 0, none⟩))) (w.alloc (.cells z T)) → o.wpIn F n P a w K Q
  | .put k cs => ∀ (T : TypeId) (z : Array Value), its[k]? = some (.new T z) → ∀ (a : Act) (w : World) (K : Act → World → Prop) (b : Nat) (cs0 : Array Value) (d : Nat), Env ops its a0 o a → Kept (isOld ops its i) w0 w →
      (ops[k]?.bind (·.dst)) = some d → a.tmps[d]? = some (.pointer (some ⟨b, 0, none⟩)) → w.heap[b]? = some (.cells cs0 T (0, 0)) → cs0.size = z.size →
      (∀ w', Rewrites w w' b T cs → K (a.put o.dst undef) w') → o.wpIn F n P a w K Q
  | .skip => ∀ (a : Act) (w : World), Env ops its a0 o a → ∀ f, o.about P w a.eval = some f → F.fn f
  | .old b T cs => ∀ (a : Act) (w : World) (K : Act → World → Prop) (cs0 : Array Value), Env ops its a0 o a → Kept (isOld ops its i) w0 w →
      w.heap[b]? = some (.cells cs0 T (0, 0)) → cs0.size = cs.size →
      (∀ w', Rewrites w w' b T cs → K (a.put o.dst undef) w') → o.wpIn F n P a w K Q

theorem wpAnyIn_inv (sh : Shape ops its a0.tmps.size)
    (hold : ∀ (j b : Nat) (T : TypeId) (cs : Array Value), its[j]? = some (.old b T cs) → ∃ cs0, w0.heap[b]? = some (.cells cs0 T (0, 0)) ∧ cs0.size = cs.size)
    (hput : ∀ (i k : Nat) (cs : Array Value) (T : TypeId) (z : Array Value), its[i]? = some (.put k cs) → its[k]? = some (.new T z) → cs.size = z.size)
    (hstep : ∀ (i : Nat) (o : Oper) (it : Item), ops[i]? = some o → its[i]? = some it → StepOkIn F n P Q ops its a0 w0 i o it)
    (hend : ∀ β w, Fin ops its w0 β w → Q .normal (finAct ops its β ops.size a0) w) :
    ∀ (fuel : Nat) (β : Nat → Nat) (listed : Array Bool) (a : Act) (w : World), Inv ops its a0 w0 β listed a w → left listed ≤ fuel → wpAnyIn F n P .any ops Q fuel listed a w := by
  have hold' : ∀ (j b : Nat) (T : TypeId) (cs : Array Value), its[j]? = some (.old b T cs) → b < w0.heap.size := fun j b T cs h => by
    obtain ⟨cs0, h1, _⟩ := hold j b T cs h
    exact heap_lt h1
  have done : ∀ (β : Nat → Nat) (listed : Array Bool) (a : Act) (w : World), Inv ops its a0 w0 β listed a w → Region.ready .any ops listed = [] → Q .normal a w := fun β listed a w I hr => by
    have hall := all_of_ready sh I.len hr
    rw [I.fin_act sh hall]
    exact hend β w (I.fin_ sh.len hall)
  intro fuel
  induction fuel with
  | zero =>
    intro β listed a w I hc
    have hr : Region.ready .any ops listed = [] := by
      rcases hrd : Region.ready .any ops listed with _ | ⟨i, l⟩
      · rfl
      · exfalso
        obtain ⟨o, ho, hf, _⟩ := ready_spec I.len (i := i) (by rw [hrd]; exact List.mem_cons_self)
        have := left_set hf
        omega
    exact ⟨hr, done β listed a w I hr⟩
  | succ fuel ih =>
    intro β listed a w I hc
    refine ⟨done β listed a w I, fun i hi => ?_⟩
    obtain ⟨o, ho, hf, haft⟩ := ready_spec I.len hi
    have hlt := itm_lt ho
    have hit : its[i]? = some (its[i]'(by rw [sh.len]; exact hlt)) := List.getElem?_eq_getElem _
    have E := I.env sh haft
    have hstep' := hstep i o _ ho hit
    have hkA := I.keptAt sh hf
    have hcount := left_set hf
    have next : ∀ (β' : Nat → Nat) (a' : Act) (w' : World), Inv ops its a0 w0 β' (listed.setIfInBounds i true) a' w' → wpAnyIn F n P .any ops Q fuel (listed.setIfInBounds i true) a' w' := fun β' a' w' I' => ih β' _ a' w' I' (by omega)
    unfold wpOpIn
    rw [ho]
    have hg := sh.guard i o _ ho hit
    generalize its[i]'(by rw [sh.len]; exact hlt) = it at hit hstep' hg
    have hw : Region.wanted o (yielded ops a.tmps) = !isSkip it := I.wanted_ haft hg
    simp only [hw]
    by_cases hs : isSkip it = true
    · rw [hs]
      simp only [Bool.not_true, Bool.false_eq_true, if_false]
      cases it <;> simp only [isSkip, Bool.false_eq_true] at hs
      exact ⟨hstep' a w E, next β _ _ (I.skip_ sh ho hit hf haft hold')⟩
    rw [Bool.not_eq_true] at hs
    rw [hs]
    simp only [Bool.not_false, if_true]
    cases it with
    | skip => simp [isSkip] at hs
    | val v => exact hstep' a w _ E hkA (fun w' hb => next β _ _ (I.val sh ho hit hf hb haft hold'))
    | new T z => exact hstep' a w _ (next _ _ _ (I.new_ sh ho hit hf haft hold'))
    | put k cs =>
      obtain ⟨hd, ⟨e, he, hb, hek⟩, T, z, hk⟩ := sh.putDst i o k cs ho hit
      have hlk : listed[k]? = some true := by rw [← hek]; exact haft e he hb
      obtain ⟨n1, n2, cs0, n3, n4⟩ := I.news k T z hk hlk
      have hkl : k < ops.size := by
        rcases Nat.lt_or_ge k its.length with h | h
        · rw [← sh.len]; exact h
        · rw [List.getElem?_eq_none h] at hk; cases hk
      have hok : ops[k]? = some (ops[k]'hkl) := Array.getElem?_eq_getElem hkl
      obtain ⟨d, hdk⟩ := sh.newDst k _ T z hok hk
      exact hstep' T z hk a w _ (β k) cs0 d E hkA (by rw [hok]; exact hdk) (I.done k _ _ d hok hk hlk hdk) n3 n4 (fun w' hr => next β _ _ (I.put_ sh ho hit hk hf hlk (hput i k cs T z hit hk) hr haft hold'))
    | old b T cs =>
      obtain ⟨cs0, h1, h2⟩ := hold i b T cs hit
      exact hstep' a w _ cs0 E hkA ((I.waits i b T cs hit hf).trans h1) h2 (fun w' hr => next β _ _ (I.old_ sh ho hit hf hr haft hold'))


/-- The steps, one by one. -/
def StepsOkIn (F : Fence) (n : Nat) (P : Program) (Q : Exit → Act → World → Prop) (ops : Array Oper) (its : List Item) (a0 : Act) (w0 : World) : Nat → List Oper → List Item → Prop
  | k, o :: os, it :: is => StepOkIn F n P Q ops its a0 w0 k o it ∧ StepsOkIn F n P Q ops its a0 w0 (k + 1) os is
  | _, _, _ => True
theorem stepsIn_of {l : List Oper} {its0 : List Item} : ∀ {k : Nat} {m : List Oper} {its : List Item}, StepsOkIn F n P Q l.toArray its0 a0 w0 k m its → ∀ (i : Nat) (o : Oper) (it : Item), m[i]? = some o → its[i]? = some it → StepOkIn F n P Q l.toArray its0 a0 w0 (k + i) o it
  | _, [], _, _, _, _, _, ho, _ => by simp at ho
  | _, _ :: _, [], _, _, _, _, _, hi => by simp at hi
  | k, o :: os, it :: is, h, i, p, jt, ho, hi => by
    cases i with
    | zero =>
      simp only [List.getElem?_cons_zero, Option.some.injEq] at ho hi
      subst ho; subst hi
      exact h.1
    | succ i =>
      have := stepsIn_of h.2 i p jt (by simpa using ho) (by simpa using hi)
      rwa [show k + (i + 1) = k + 1 + i from by omega]

/-- The law, ready for use: no store into an old block. -/
theorem region_grow_in {id : Nat} {l : List Oper} {a0 : Act} {w : World} (its : List Item) (hm : P.follows .mixedOrders = true) (sh : shape l.toArray its a0.tmps.size = true) (hno : noOlds its = true) (hfit : putsFit its = true)
    (hstep : StepsOkIn F n P Q l.toArray its a0 w.drew 0 l its)
    (hend : ∀ β w', Fin l.toArray its w.drew β w' → Q .normal (finAct l.toArray its β l.toArray.size a0) w') : (Code.region id l.toArray true).wpIn F n P Q a0 w :=
  wpIn_region_any hm (wpAnyIn_inv (Shape.of sh (noOlds_nodup hno)) (fun j b T cs h => absurd h (noOlds_spec hno j b T cs)) (putsFit_spec hfit) (fun i o it ho hi => by have := stepsIn_of hstep i o it (by simpa using ho) hi; rwa [Nat.zero_add] at this) hend _ (fun _ => 0) _ _ _ inv_start (by simp [left]))
end
end Go.Proofs.YtfcjdmpfoogljaaDoor.R
