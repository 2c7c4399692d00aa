/-
  Arguments that are numbers, flags, and structs of such, to any depth: opened by one law.
-/
import Derived.Test.YtlgabdamgalngaaKit
set_option linter.unusedVariables false
set_option linter.unusedSimpArgs false
namespace Go.Proofs.Ytlgabdamgalngaa.K
open Go Go.Deep Go.ChangeShapes Go.WideShapes Go.ChangeAt Go.RowKit
/-- The cells of a type: numbers and flags. -/
def flatFs (P : Program) (rec : TypeId → Option (List (Option IntKind))) : Nat → List Field → Option (List (Option IntKind))
  | _, [] => some []
  | off, f :: fs => match rec f.type with
    | some l => if f.offset = off ∧ P.cellsOf f.type = l.length then (flatFs P rec (off + l.length) fs).map (l ++ ·) else none
    | none => none
def flatK (P : Program) : Nat → TypeId → Option (List (Option IntKind))
  | 0, _ => none
  | d + 1, t => match P.underlying t with
    | some .bool => some [none]
    | some (.int k) => some [some k]
    | some (.struct fs) => match flatFs P (flatK P d) 0 fs.toList with
      | some l => if l.length = P.cellsOf t then some l else none
      | none => none
    | _ => none
def AllOk : List (Option IntKind) → List Value → Prop
  | [], cs => cs = []
  | some k :: l, cs => ∃ n rest, cs = .int k n :: rest ∧ (Lit.int k n).wf = true ∧ AllOk l rest
  | none :: l, cs => ∃ b rest, cs = .bool b :: rest ∧ AllOk l rest
theorem AllOk.append : ∀ {l m : List (Option IntKind)} {cs ds : List Value}, AllOk l cs → AllOk m ds → AllOk (l ++ m) (cs ++ ds)
  | [], m, cs, ds, h, k => by
    have : cs = [] := h
    subst this; exact k
  | some x :: l, m, cs, ds, h, k => by
    obtain ⟨n, rest, rfl, hw, hr⟩ := h
    exact ⟨n, rest ++ ds, rfl, hw, hr.append k⟩
  | none :: l, m, cs, ds, h, k => by
    obtain ⟨n, rest, rfl, hr⟩ := h
    exact ⟨n, rest ++ ds, rfl, hr.append k⟩
theorem AllOk.length : ∀ {l : List (Option IntKind)} {cs : List Value}, AllOk l cs → cs.length = l.length
  | [], cs, h => by
    have : cs = [] := h
    subst this; rfl
  | some x :: l, cs, h => by
    obtain ⟨n, rest, rfl, hw, hr⟩ := h
    simp [hr.length]
  | none :: l, cs, h => by
    obtain ⟨n, rest, rfl, hr⟩ := h
    simp [hr.length]
section
variable {H : Type} {enc : TypeId × Value → H} {P : Program} {w : World} {base : Nat} {spare : Nat → Bool} {held : Bool}
theorem flat_fields {rec : TypeId → Option (List (Option IntKind))} {n : Nat} (hrec : ∀ t l cs x, rec t = some l → DataW.trod enc P w base spare held n t cs = some x → AllOk l cs) (cs : List Value) :
    ∀ (fs : List Field) (off : Nat) (l : List (Option IntKind)), flatFs P rec off fs = some l → off + l.length ≤ cs.length → (∀ f ∈ fs, ∃ x, DataW.trod enc P w base spare held n f.type ((cs.drop f.offset).take (P.cellsOf f.type)) = some x) → AllOk l ((cs.drop off).take l.length)
  | [], off, l, h, hl, hf => by
    simp only [flatFs, Option.some.injEq] at h
    subst h
    simp [AllOk]
  | f :: fs, off, l, h, hl, hf => by
    simp only [flatFs] at h
    split at h
    · rename_i m hm
      split at h
      · rename_i hh
        obtain ⟨h1, h2⟩ := hh
        rw [Option.map_eq_some_iff] at h
        obtain ⟨k, hk, rfl⟩ := h
        obtain ⟨x, hx⟩ := hf f List.mem_cons_self
        rw [h1, h2] at hx
        have a1 := hrec _ _ _ _ hm hx
        have a2 := flat_fields hrec cs fs (off + m.length) k hk (by simp at hl; omega) (fun g hg => hf g (List.mem_cons_of_mem _ hg))
        have e : (cs.drop off).take (m ++ k).length = (cs.drop off).take m.length ++ (cs.drop (off + m.length)).take k.length := by
          rw [List.length_append, List.take_add, List.drop_drop]
        rw [e]
        exact a1.append a2
      · cases h
    · cases h
theorem flat_cells : ∀ (d : Nat) (fuel : Nat) (t : TypeId) (l : List (Option IntKind)) (cs : List Value) (x : DataW H × List MemPlace), flatK P d t = some l → DataW.trod enc P w base spare held fuel t cs = some x → AllOk l cs
  | 0, fuel, t, l, cs, x, h, hx => by simp [flatK] at h
  | d + 1, fuel, t, l, cs, x, h, hx => by
    simp only [flatK] at h
    split at h
    · rename_i hu
      simp only [Option.some.injEq] at h
      subst h
      cases fuel with
      | zero => simp [DataW.trod] at hx
      | succ m =>
        unfold DataW.trod at hx
        rw [hu] at hx
        split at hx <;> simp_all [AllOk]
    · rename_i k hu
      simp only [Option.some.injEq] at h
      subst h
      cases fuel with
      | zero => simp [DataW.trod] at hx
      | succ m =>
        unfold DataW.trod at hx
        rw [hu] at hx
        split at hx <;> simp_all [AllOk]
    · rename_i fs hu
      split at h
      · rename_i m hm
        split at h
        · rename_i hlen
          simp only [Option.some.injEq] at h
          subst h
          obtain ⟨xs, n, _, rfl, hl, hxl, hf⟩ := DataW.trod_struct hu hx
          have := flat_fields (n := n) (fun t l cs x h1 h2 => flat_cells d n t l cs x h1 h2) cs fs.toList 0 m hm (by omega) (fun f hfm => by
            obtain ⟨i, hi⟩ := List.getElem?_of_mem hfm
            have hlt : i < xs.length := by
              have : i < fs.toList.length := by
                rcases Nat.lt_or_ge i fs.toList.length with k | k
                · exact k
                · rw [List.getElem?_eq_none k] at hi; cases hi
              simp at this
              omega
            exact ⟨xs[i], (hf i f (by simpa using hi)).trans (List.getElem?_eq_getElem hlt)⟩)
          rw [List.drop_zero, List.take_of_length_le (by omega)] at this
          exact this
        · cases h
      · cases h
    · cases h
/-- A struct. -/
theorem flat_open {r : Reach} {b0 : Nat} {t : TypeId} {fs : Array Field} {l : List (Option IntKind)} {v : Value} {dd : DataW H} {p : List MemPlace} (hs : P.underlying t = some (.struct fs)) (hl : flatK P 9 t = some l) (hv : Value.okWide P w r b0 t v) (h : DataW.Trod enc P w base spare held t v dd p) :
    ∃ cs, v = .agg ⟨cs⟩ ∧ AllOk l cs := by
  obtain ⟨⟨cs⟩, rfl, _⟩ := okWide_struct hs hv
  obtain ⟨fuel, hf⟩ := h
  exact ⟨cs, rfl, flat_cells 9 fuel t l cs _ hl hf⟩
end
end Go.Proofs.Ytlgabdamgalngaa.K
